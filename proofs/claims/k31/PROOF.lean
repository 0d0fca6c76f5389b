import PyProof.Rows.All
import Wide.All
import OpenK.AllK
import Wide.FinOn
import Lean
import PyProof.EqAt
import PyProof.EqKinds
import PyProof.TupleCall
import PyProof.Rows.SetFrom
import PyProof.ExcAttrAll.ValueError
import KE.KDictList
import KE.KRevIter
import KE.KPairComp
import PyProof.EqAt
import KE.KSortTup
import PyProof.DictValues
import PyProof.DictWalks
import KE.KDictList
import KE.KItemsList
import KE.KIsAll
import KE.KIntText
import KE.KRevSl
import PyProof.StrCalls2
import PyProof.CallStr
import PyProof.StrLawsTight
import PyProof.StrLawsChain
import KE.KLam
import KE.KMinKey
import KE.KNestM
import PyProof.ExcInit
import PySem.Challenge.RW_homeround_k31_trees_looked_at
set_option Elab.async false
set_option linter.all false
set_option maxRecDepth 100000
set_option maxHeartbeats 4000000
noncomputable section
open PySem.W renaming Frag->aa,nsIn->et,fnOf->ja,keepIn->mx,kas_place->ng,excIn->oe,kas_sort->oh,cellsFrom_some->oq,kas_rev->qo,kas_desc->t8,kas_descPart->t9,codeIn->ug,methodObj->uj,mg_of->vf,kas_asc->vg,hideAll_get->ym,kas_count->zi,kas_tail3->Aq,kas_bin->Ar
open List renaming getElem?_eq_getElem->ae,getElem?_eq_some_iff->ah,length_map->ai,range->aj,getD_eq_getElem?_getD->ak,mem_cons_of_mem->ar,length_append->au,size_toArray->aw,mem_singleton->ay,mem_of_getElem?->a8,mem_cons->a9,length_cons->ba,mem_range->bb,getElem?_map->bg,getElem?_append_left->bh,getElem?_append_right->bj,mem_append->bo,mem_cons_self->bp,map_cons->bx,mem_append_right->cm,length_range->cq,replicate->c7,mem_map->c8,mem_append_left->da,map_append->de,getElem_mem->dg,nodup_cons->dk,getElem_of_mem->dq,append_assoc->ez,all_eq_true->e7,take_add_one->e8,length_take->fg,take_length->fh,length_set->fk,length_singleton->fm,mem_iff_getElem?->fq,lookup_cons->fw,nodup_range->f6,take_append_of_le_length->f7,flatten_cons->gc,nodup_append->gf,mem_filter->gg,perm_ext_iff_of_nodup->gn,pairwise_iff_getElem->gv,nodup_iff_pairwise_ne->il,getElem?_set_self->ip,append_nil->iu,forIn_cons->iw,length_filter_le->i3,length_erase_of_mem->i4,mem_flatten->i6,getElem?_set_ne->i7,sum_cons->i9,map_map->jc,toArray->jd,nil_append->jf,range_succ_eq_map->jh,take_of_length_le->ji,getElem?_of_mem->jw,length_nil->j3,map_nil->j7,getElem?_replicate->j9,replicate_succ->kc,map_congr_left->kd,getLast?_cons_cons->kg,eq_nil_of_length_eq_zero->kl,filter_cons->km,forIn_nil->kn,mem_filterMap->ky,length_replicate->k9,find?_cons->lg,getElem?_toArray->l5,take_append_drop->l9,flatMap_cons->mh,length_eraseIdx_of_lt->mr,perm_cons_erase->mw,any_eq_true->ni,filter_sublist->nr,flatten_append->nu,getElem?_take_of_lt->nv,all_cons->n5,length_eq_zero_iff->n9,map_inj_right->om,length_pos_of_mem->ou,eraseIdxIfInBounds_toArray->o9,eraseIdx_eq_take_drop_succ->pb,any_eq_false->pg,nodup_nil->qd,length_drop->qm,countP_cons->qp,getElem_map->qq,drop_append_of_le_length->qr,mem_of_mem_take->qu,mem_erase_of_ne->qv,any_cons->qy,filterMap_cons->q9,length_pos_iff->rj,mem_map_of_mem->r9,idxOf_lt_length_of_mem->sd,pairwise_cons->tm,zip_cons_cons->tw,getElem?_drop->ub,countP_append->ud,getElem?_take->ue,getElem?_zip_eq_some->uh,foldl_append->u0,length->u6,perm_middle->vw,mem_flatMap->vz,append_inj'->v7,append_eq_nil_iff->wc,of_mem_zip->wo,countP_mono_left->w9,eq_nil_or_concat->xa,mem_of_mem_erase->xi,getElem?_eq_none->xj,mem_iff_getElem->xu,mem_of_mem_drop->xw,pairwise_append->ya,getLast?_append->yb,length_reverse->yw,countP_pos_iff->yx,countP_eq_zero->yy,map_take->zd,map_drop->ze,all_map->zy
open PySem renaming wpAny_bind->af,wpAny_pure->ao,sizeLine->b8,mainGlobals->c9,bootBuiltins->dw,mem_of_lookup->e9,Spec->fb,starEach->ff,compareOp->fi,wpAny_holding->ft,wpAny_truthy_bool->f9,wpAny_call_entry->gi,wpAny_mono->gj,wpAny_newObj_type->gk,codeAny_builtin->gu,intKind->ic,cellsFrom->i8,sysModules->jj,codeAny_mono->jq,sizeLine_eq->jt,binaryOp->jv,wpAny_passesOwn->jy,argBest->j4,wpAny_callSpecial?_slot->ka,wpAny_askSetting->ki,rawInt->k7,wpAny_specialOf->ll,tupleKeyHash->lz,foldedSetIterable->mf,plainId_quiet->mi,wpAny_isInstance->nh,tupleKind_room_in1->n6,assignEach->oz,sliceBounds->o7,wpAny_setState_of->qa,wpAny_seqItems->qb,isSubtype_tuple_tuple->qi,behindInMarks->qw,wpAny_standAt->qx,wpAny_newList->qz,letOwnedTupleGo->rf,wpAny_setEntries_of->sa,wpAny_Call_Name_kw->su,wpAny_typeOf->sv,wpAny_tupleItemsOf->t6,codeAny->uf,wpAny_tryCatch->ui,wpAny_getItem_list_slice->uk,wpAny_comprehension_free->uq,wpAny_pyIter_list->ur,wpAny_pyNext_tuple_item->u5,getItem->u7,wpAny_of_eq->vb,wpAny_eqBool_int->vn,backTo->vo,Result->vp,noFill_tuple_add->vq,wpAny_pyNext_tuple_end->v8,wpAny_pyIter_tupleiter->v9,hashInt->wd,wpAny_isTrue_Compare1->wg,holding->wj,wpAny_execs_nil->wk,pyNext->wm,codeAny_of_tree->wu,pushCells_keeps->wx,wpAny_updateSeq->w8,builtinLookup_eq_fast->xc,call_meets->xl,wpAny_rule->xm,reduceHash->xn,intKind_is->xp,newFunctionEnv->yc,wpAny_runValue->yd,isSubtype_type->yi,wpAny_setField->yj,standAt->yn,subscripted->yp,richCompare->yr,wpAny_letGo->yt,tupleKind->yz,bindArgs->y2,seq_tuple_add->y9,evalPart_none->za,seqIndex?->zb,builtinsNs->zj,BindsTo->zk,callerA->zo,valueAt->zp,relabel->zq,assign->zu,concat_meets->zv,seqIndex_neg->zx,swapsWith->Ag,pyIter->Ah,wpAny_field->Ai,seqIndex_of->Aj,pushCells->Ak,eqIsQuiet->Ao
open PySem.Heap renaming get?_push_of_some->aq,get?_push_size->br,lt_size->b7,get?_update_self->gy,SameBut->ir,size_push->jb,get?_update_other->jg,get?_update_ne->yv
open Nat renaming le_refl->az,zero_le->bc,le_trans->bq,lt_of_le_of_lt->cp,lt_of_lt_of_le->c5,ne_of_lt->dt,le_of_lt->gw,lt_succ_of_lt->iq,min_eq_left->iz,max_eq_right->i5,lt_succ_self->jk,min_eq_right->jn,lt_irrefl->jo,lt_trichotomy->j5,max_eq_left->j6,sub_self->j8,not_lt_zero->lx,le_succ->nj,le_of_lt_succ->pw,lt_trans->qf,le_total->qk,mul_le_mul_left->rl,ne_of_gt->sr,le_of_succ_le->uo,le_add_right->vy,succ_pos->xg,log2_lt->yq,mod_lt->zr
open Option.some renaming inj->bu
open PySem.SetTable renaming below->b9,leap->dv,runEnd->fz,bits->gm,turns->je,grown->kq,sizeAbove->uc,insertAt->uw,toList_insertAt->uy,insertAt_perm->wb,has->xf
open Bool renaming false_ne_true->cf,false_eq_true->dn,and_eq_true->du,not_eq_true->jm,not_true->js,and_eq_true_iff->qt,not_false->yh,false_or->zc
open Array renaming length_toList->cu,getD_eq_getD_getElem?->c4,getElem?_eq_getElem->di,getElem?_eq_none->gq,getElem?_toList->lb,toList_push->ph,perm_iff_toList_perm->so,forIn_toList->t7,replicate->xh,getElem_toList->xy,toList->zt
open Classical renaming byContradiction->c6,propDecidable->vm
open PySem.PassesOwn renaming never->df
open Int renaming toNat_natCast->dj,le_refl->lq,toNat_of_nonneg->nq,zero_add->ql,emod_nonneg->rm,emod_lt_of_pos->tq,eq_ofNat_of_zero_le->vc
open PySem.F renaming plainAttrs_list->dr,slot_list_append->dy,type_list_append->dz,plain_min_loop->jl,called_set->me,args_tuple_add_2->ny,entry_tuple_add->n4,slot_tuple_add->ot,slot_tuple_hash->pf,slot_tuple_eq->rz,entry_min_loop->vx,excBase_ValueError->xx
open PySem.Builtin.Tuple renaming tupleHashOf->ei,tupleExact->jz,tupleItemsOf->mq
open PySem.SeqAt renaming EqAt->fe,notIn_tupleAt->rh,notIn_listAt->tf,in_tupleAt->vt,in_listAt->wt
open PyProof.Rows renaming slot_tuple_getitem->fj,seqObj->jr,callWith_type1->k8,AllBare->u4,subscriptTail->u9,subscriptTail_builtinR->wa,envOfC->wq,entry_list_sort->wz,slot_list_sort->ye,args_list_sort->yf,entry_tuple_getitem->yo,mirror_size->yu,listUpdate_at->zg,Subscript_->zm,listItems_at->zz,plain_sorted->Ab,entry_sorted->Ac,args_sorted1->Ad,SortKind->Af,kind_sorted->An,SortSt->As
open Ne renaming symm->gh
open PySem.Around renaming under_plainId->gp
open Option renaming isSome_iff_exists->gx,map_eq_some_iff->ku,isSome_map->um
open List.cons renaming injEq->ig
open PySem.Obj renaming mapSeq->ij,isFreed_of_fields->qj,data_mapFields->ua,mapFields->vh
open PySem.Builtin.Slice renaming slicePlaces->ju,sliceAdjust->my,sliceApplied->sk
open False renaming elim->jx
open PySem.Heap.SameBut renaming update->ke
open PySem.SetTable.layClean renaming free->kx
open PySem.Builtin.List renaming listExtendWith->ly,listTooLong->n0,listLengthHint->r8
open PySem.SetTable.below renaming go->mj
open PySem.Calls renaming call_function_entry->mz,Name_function_global->sg,evalArgs_plain->xt
open PySem.PyData renaming hasDict->m9,leavesShortAll->qh,showableAll->tu,hasDictAll->uu,depthAll->w5,showable->w6,bulkAll->yg
open PySem.Builtin.Int renaming intBits->nk
open Array.Perm renaming refl->og
open PyProof.Rows.F renaming plain_set_update_loop->oo,entry_set_update_loop->vk
open PySem.SetTable.probe renaming go->pq
open PySem.Str renaming ofString->qe
open List.Perm renaming append_left->qg
open LawfulBEq renaming eq_of_beq->rg
open PySem.Builtin.Builtins renaming bindParams->rq
open PySem.AutoSeq1 renaming wpAny_loadPart'->uv
open List.Pairwise renaming imp_of_mem->uz
open PySem.Paired renaming length->u3
open ToString renaming toString->ve
open PySem.Builtin renaming sorted->vv
open Prod renaming ext->xk,fst->xo,snd->zh
open Sum.inl renaming inj->yk
open PySem.pickOrder renaming go->Ae
namespace L2
open PySem PySem.Spec PyProof.Rows
abbrev Key:=Sum Int Str
def wO:Key->Value->Bool
 | .inl k,v=>Value.isInt k v
 | .inr x,v=>Value.isStrOf x v
def aIf (w:World):Key->Int
 | .inl k=>wd k
 | .inr x=>hashStr w x
theorem cC:∀{k:Key}{v:Value},wO k v=true->(∃i t,k=Sum.inl i/\v=Value.int i t)\/(∃x t,k=Sum.inr x/\v=Value.str x t)
 | .inl i,v,h=>by
  obtain⟨t,e⟩:=Value.isInt_shape (k:=i) (v:=v) h
  exact .inl ⟨i,t,rfl,e⟩
 | .inr x,v,h=>by
  obtain⟨t,e⟩:=Value.isStrOf_shape (x:=x) (v:=v) h
  exact .inr ⟨x,t,rfl,e⟩
theorem yV (i:Int)(t:Tok):wO (.inl i) (.int i t)=true:=by simp[wO,Value.isInt]
theorem aAs (x:Str)(t:Tok):wO (.inr x) (.str x t)=true:=by simp[wO,Value.isStrOf]
theorem aFm (a b:Int):decide ((Sum.inl a:Key)=Sum.inl b)=(a == b):=by
 by_cases e:a=b
 ·subst e;simp
 ·have h:¬ (Sum.inl a:Key)=Sum.inl b:=λq=>e (yk q)
  rw[decide_eq_false h]
  exact(beq_eq_false_iff_ne.mpr e).symm
theorem aGa (a b:Str):decide ((Sum.inr a:Key)=Sum.inr b)=decide (a=b):=by
 by_cases e:a=b
 ·subst e;simp
 ·have h:¬ (Sum.inr a:Key)=Sum.inr b:=λq=>e (Sum.inr.inj q)
  rw[decide_eq_false h,decide_eq_false e]
theorem aFq (a:Int)(b:Str):decide ((Sum.inl a:Key)=Sum.inr b)=false:=decide_eq_false (λq=>nomatch q)
theorem aFL (a:Str)(b:Int):decide ((Sum.inr a:Key)=Sum.inl b)=false:=decide_eq_false (λq=>nomatch q)
def cM (prog:Program) (w:World):PySem.KeyKind prog w Key where
 is:=wO
 hash:=aIf w
 inj:=λv a b ha hb=>by
  rcases cC ha with⟨i,t,rfl,rfl⟩ | ⟨x,t,rfl,rfl⟩
  ·rcases cC hb with⟨j,u,rfl,e⟩ | ⟨y,u,rfl,e⟩
   ·injection e with e1 _;rw[e1]
   ·exact nomatch e
  ·rcases cC hb with⟨j,u,rfl,e⟩ | ⟨y,u,rfl,e⟩
   ·exact nomatch e
   ·injection e with e1 _;rw[e1]
 byValue:=λk v h=>by
  rcases cC h with⟨i,t,rfl,rfl⟩ | ⟨x,t,rfl,rfl⟩ <;> rfl
 pyHash:=λhv h=>by
  rcases cC hv with⟨i,t,rfl,rfl⟩ | ⟨x,t,rfl,rfl⟩
  ·exact wpAny_pyHash_int h
  ·exact wpAny_pyHash_str h
 eqBool:=λhu hv h=>by
  rcases cC hu with⟨i,t,rfl,rfl⟩ | ⟨x,t,rfl,rfl⟩
  ·rcases cC hv with⟨j,u,rfl,rfl⟩ | ⟨y,u,rfl,rfl⟩
   ·rw[aFm] at h;exact vn h
   ·rw[aFq] at h;exact SeqAt.EqAt.int_str i t y u _ _ _ _ h
  ·rcases cC hv with⟨j,u,rfl,rfl⟩ | ⟨y,u,rfl,rfl⟩
   ·rw[aFL] at h;exact SeqAt.EqAt.str_int x t j u _ _ _ _ h
   ·rw[aGa] at h;exact wpAny_eqBool_str h
 «strs»:=λk x t v h=>by
  rcases cC h with⟨i,u,rfl,e⟩ | ⟨y,u,rfl,e⟩
  ·exact nomatch e
  ·injection e with e1 _
   subst e1
   cases v <;> rfl
theorem tW (prog:Program)(w:World)(i:Int)(t:Tok):(cM prog w).is (.inl i) (.int i t)=true:=yV i t
theorem uD (prog:Program)(w:World)(x:Str)(t:Tok):(cM prog w).is (.inr x) (.str x t)=true:=aAs x t
inductive V where
 |non | bl (b:Bool) | int (i:Int) | str (x:Str) | byt (b:Array UInt8) | flt (b:UInt64) | ref (a:Addr) | ty (n:String)
 deriving DecidableEq
def RelV:V->Value->Prop
 | .non,u=>u=Value.none
 | .bl b,u=>u=Value.bool b
 | .int i,u=>∃t,u=Value.int i t
 | .str x,u=>∃t,u=Value.str x t
 | .byt b,u=>∃t,u=Value.bytes b t
 | .flt b,u=>∃t,u=Value.float b t
 | .ref a,u=>u=Value.ref a
 | .ty n,u=>u=Value.type n
abbrev Vals:List V->List Value->Prop:=Paired RelV
theorem Vals.length {xs:List V}{us:List Value}(r:Vals xs us):xs.length=us.length:=u3 r
theorem Vals.get:∀{xs:List V}{us:List Value}{i:Nat}{x:V},Vals xs us->xs[i]?=some x->∃u,us[i]?=some u/\RelV x u
 |_,_,_,_, .nil,e=>by simp at e
 |_,_,0,_, .cons r _,e=>by simp at e;subst e;exact⟨_,rfl,r⟩
 |_,_,i+1,x, .cons _ t,e=>by
  obtain⟨u,h1,h2⟩:=Vals.get (i:=i) (x:=x) t (by simpa using e)
  exact⟨u,by simpa using h1,h2⟩
theorem Vals.set {x:V}{u:Value}(r:RelV x u):∀{xs:List V}{us:List Value} (i:Nat),Vals xs us->Vals (xs.set i x) (us.set i u)
 |_,_,_, .nil => .nil
 |_,_,0, .cons _ t => .cons r t
 |_,_,i+1, .cons q t => .cons q (Vals.set r i t)
theorem Vals.append:∀{xs ys:List V}{us ws:List Value},Vals xs us->Vals ys ws->Vals (xs++ys) (us++ws)
 |_,_,_,_, .nil,s=>s
 |_,_,_,_, .cons r t,s => .cons r (Vals.append t s)
theorem Vals.take:∀{xs:List V}{us:List Value} (n:Nat),Vals xs us->Vals (xs.take n) (us.take n)
 |_,_,0,_ => .nil
 |_,_,_+1, .nil => .nil
 |_,_,n+1, .cons r t => .cons r (Vals.take n t)
theorem Vals.drop:∀{xs:List V}{us:List Value} (n:Nat),Vals xs us->Vals (xs.drop n) (us.drop n)
 |_,_,0,r=>r
 |_,_,_+1, .nil => .nil
 |_,_,n+1, .cons _ t=>Vals.drop n t
def RelO:Option V->Option Value->Prop
 |some v,some u=>RelV v u
 |none,none=>True
 |_,_=>False
def KV {κ:Type}:List (κ×V)->List (κ×Value)->Prop:=Paired λ(p:κ×V) (q:κ×Value)=>p.1=q.1/\RelV p.2 q.2
def kV:Key->V
 | .inl i => .int i
 | .inr x => .str x
inductive HO where
 |lst (xs:List V)
 |tup (xs:List V)
 |dK (kvs:List (Key×V)) | dT (kvs:List (List Key×V))
 |set (S:Int->Bool) (n:Nat)
 |ins (C dx:Addr) (fs:List (Str×V))
 |own (x:Addr)
 |xd (fs:List (Str×V))
 |met (f x:Addr)
 |rng (lo hi:Int)
 |frz (o:Obj) (u:HO)
 |tbl (ps:Array Value)
 |ext (φ:Heap->Prop)
abbrev Hp:=Addr->Option HO
def upd (H:Hp) (a:Addr) (o:HO):Hp:=λb=>if b=a then some o else H b
theorem aF {H:Hp}{a:Addr}{o:HO}:upd H a o a=some o:=by unfold upd;rw[if_pos rfl]
theorem aR {H:Hp}{a b:Addr}{o:HO}(h:b≠a):upd H a o b=H b:=by unfold upd;rw[if_neg h]
theorem ne_of {H:Hp}{a b:Addr}{o u:HO}(h:H a=some o)(h':H b=some u)(d:o≠u):a≠b:=by
 intro e;subst e;rw[h] at h';exact d (bu h')
theorem aN {H:Hp}{a b:Addr}{o:HO}(h:H a=some o)(h':H b=none):a≠b:=by
 intro e;subst e;rw[h] at h';cases h'
def TupN (h:Heap) (a:Addr) (items:Array Value):Prop:=∃o,h.get? a=some o/\o.cls = .type "tuple"/\(∃n,o.data = .seq items n)/\o.dict=none
theorem TupN.tup {h:Heap}{a:Addr}{items:Array Value}(p:TupN h a items):IsTup h a items:=let⟨o,e,c,n,_⟩:=p;⟨o,e,c,n⟩
theorem TupN.new (h:Heap)(items:Array Value):TupN (h.push { cls := .type "tuple",data := .seq items }) h.objs.size items:=⟨_,br _ rfl,rfl,⟨_,rfl⟩,rfl⟩
section
variable (P:Program)(w:World)
def ObjOk (H:Hp) (h:Heap) (a:Addr):HO->Prop
 | .lst xs=>xs.length<=b8/\∃(its:List Value) (n:Nat),Vals xs its/\h.get? a=some { cls := .type "list",data := .seq its.toArray n }
 | .tup xs=>xs.length<=b8/\∃its:List Value,Vals xs its/\TupN h a its.toArray
 | .dK kvs=>kvs.length<=b8/\(a == jj)=false/\∃vs,KV kvs vs/\h.DictOf (cM P w) a vs
 | .dT kvs=>kvs.length<=b8/\(a == jj)=false/\∃xs:List (List Key×Addr×Value),
   Paired (λ(p:List Key×V) (q:List Key×Addr×Value)=>p.1=q.1/\H q.2.1=some (.tup (p.1.map kV))/\RelV p.2 q.2.2) kvs xs /\
   ∃o es ep,h.get? a=some o/\o.ExactDict/\o.data = .dict es ep/\es.toList=xs.map (entryOfKey (yz (cM P w)))/\(xs.map (·.1)).Nodup
 | .set S n=>h.SetOf (ic P w) a S n
 | .ins C dx fs=>H dx=some (.own a)/\fs.length<=1000/\dx≠a/\h.get? a=some (PySem.W.instObj C dx) /\
   ∃mA,h.Ns1 dx mA/\(∀f,RelO (fs.lookup f) (mA f))/\PySem.Within mA (fs.map (·.1))
 | .own _=>∃o,h.get? a=some o
 | .xd fs=>∃mA,h.Ns1 a mA/\∀f,RelO (fs.lookup f) (mA f)
 | .rng lo hi=>∃t u v,h.get? a=some { cls := .type "range",data := .fields #[.int lo t, .int hi u, .int 1 v] }
 | .frz o u=>h.get? a=some o/\ObjOk H h a u
 | .tbl ps=>h.get? a=some { cls := .none,data := .fields ps }
 | .met f x=>h.get? a=some (uj (.ref f) (.ref x))
 | .ext φ=>φ h/\(∃o,h.get? a=some o)/\∀h1 h2:Heap,φ h1->(∀o,h1.get? a=some o->h2.get? a=some o)->φ h2
def HOk (H:Hp) (h:Heap):Prop:=∀a o,H a=some o->ObjOk P w H h a o
end
section
variable {P:Program}{w:World}{H H':Hp}{h h':Heap}{a:Addr}{o:HO}
theorem ObjOk.lt (x:ObjOk P w H h a o):a<h.objs.size:=by
 cases o with
 |lst xs=>obtain⟨_,_,_,_,e⟩:=x;exact b7 e
 |tup xs=>obtain⟨_,_,_,p⟩:=x;exact p.tup.lt
 |dK kvs=>obtain⟨_,_,_,_,o,_,_,e,_⟩:=x;exact b7 e
 |dT kvs=>obtain⟨_,_,_,_,o,_,_,e,_⟩:=x;exact b7 e
 |set S n=>obtain⟨o,_,_,_,e,_⟩:=x;exact b7 e
 |ins C dx fs=>obtain⟨_,_,_,e,_⟩:=x;exact b7 e
 |own y=>obtain⟨_,e⟩:=x;exact b7 e
 |xd fs=>obtain⟨_,⟨_,_,_,e,_⟩,_⟩:=x;exact b7 e
 |rng lo hi=>obtain⟨_,_,_,e⟩:=x;exact b7 e
 |frz ob u=>obtain⟨e,_⟩:=x;exact b7 e
 |tbl ps=>exact b7 (show h.get? a=some _ from x)
 |met f y=>exact b7 (show h.get? a=some _ from x)
 |ext φ=>obtain⟨_,⟨_,e⟩,_⟩:=x;exact b7 e
theorem Paired.mapP {α β:Type}{F G:α->β->Prop}:∀{l₁:List α}{l₂:List β},Paired F l₁ l₂->(∀a b,F a b->G a b)->Paired G l₁ l₂
 |_,_, .nil,_ => .nil
 |_,_, .cons r t,f => .cons (f _ _ r) (Paired.mapP t f)
theorem ObjOk.stay (x:ObjOk P w H h a o)(k:∀b u,(b=a\/H b=some (.own a))->h.get? b=some u->h'.get? b=some u)
  (ho:∀b,H b=some (.own a)->H' b=some (.own a)) (ht:∀b xs,H b=some (.tup xs)->H' b=some (.tup xs)):ObjOk P w H' h' a o:=by
 induction o with
 |lst xs=>obtain⟨z,its,n,r,e⟩:=x;exact⟨z,its,n,r,k _ _ (.inl rfl) e⟩
 |tup xs=>obtain⟨z,its,r,ob,e,c⟩:=x;exact⟨z,its,r,ob,k _ _ (.inl rfl) e,c⟩
 |dK kvs=>obtain⟨z,y,vs,r,ob,es,ep,e,c⟩:=x;exact⟨z,y,vs,r,ob,es,ep,k _ _ (.inl rfl) e,c⟩
 |dT kvs=>
  obtain⟨z,y,xs,r,ob,es,ep,e,c⟩:=x
  exact⟨z,y,xs,Paired.mapP r λp q z=>⟨z.1,ht _ _ z.2.1,z.2.2⟩,ob,es,ep,k _ _ (.inl rfl) e,c⟩
 |set S n=>obtain⟨ob,es,ep,t,e,c⟩:=x;exact⟨ob,es,ep,t,k _ _ (.inl rfl) e,c⟩
 |ins C dx fs=>
  obtain⟨d,z,ne,e,mA,⟨od,es,ep,e2,c⟩,r⟩:=x
  exact⟨ho _ d,z,ne,k _ _ (.inl rfl) e,mA,⟨od,es,ep,k _ _ (.inr d) e2,c⟩,r⟩
 |own y=>obtain⟨ob,e⟩:=x;exact⟨ob,k _ _ (.inl rfl) e⟩
 |xd fs=>obtain⟨mA,⟨od,es,ep,e,c⟩,r⟩:=x;exact⟨mA,⟨od,es,ep,k _ _ (.inl rfl) e,c⟩,r⟩
 |rng lo hi=>obtain⟨t,u,v,e⟩:=x;exact⟨t,u,v,k _ _ (.inl rfl) e⟩
 |frz ob u ih=>obtain⟨e,q⟩:=x;exact⟨k _ _ (.inl rfl) e,ih q⟩
 |tbl ps=>
  have e:h.get? a=some { cls := .none,data := .fields ps }:=x
  show h'.get? a=some { cls := .none,data := .fields ps }
  exact k a _ (.inl rfl) e
 |met f y=>
  have e:h.get? a=some (uj (.ref f) (.ref y)):=x
  show h'.get? a=some (uj (.ref f) (.ref y))
  exact k a _ (.inl rfl) e
 |ext φ=>obtain⟨p,⟨o,e⟩,st⟩:=x;exact⟨st _ _ p λo q=>k _ _ (.inl rfl) q,⟨o,k _ _ (.inl rfl) e⟩,st⟩
theorem HOk.lt (x:HOk P w H h)(e:H a=some o):a<h.objs.size:=(x a o e).lt
theorem HOk.fresh (x:HOk P w H h)(e:h.objs.size<=a):H a=none:=by
 cases q:H a with
 |none=>rfl
 |some u=>exact absurd (c5 (x.lt q) e) (jo _)
theorem HOk.kept (x:HOk P w H h)(k:∀b u,h.get? b=some u->h'.get? b=some u):HOk P w H h':=λa o e=>
 (x a o e).stay (λb u _ q=>k b u q) (λ_ q=>q) λ_ _ q=>q
theorem HOk.laid (x:HOk P w H h)(k:∀b u,h.get? b=some u->h'.get? b=some u)(hp:h.objs.size<=a)(new:ObjOk P w (upd H a o) h' a o):HOk P w (upd H a o) h':=λb u e=>by
 have hn:=x.fresh hp
 by_cases hb:b=a
 ·subst hb;rw[aF] at e;cases e;exact new
 ·rw[aR hb] at e
  exact(x b u e).stay (λc v _ q=>k c v q) (λc q=>by rw[aR (aN q hn)];exact q) λc xs q=>by rw[aR (aN q hn)];exact q
end
def Rd (H:Hp) (a:Addr) (u:HO):Prop:=H a=some u\/∃o,H a=some (.frz o u)
theorem Rd.ok {P:Program}{w:World}{H:Hp}{h:Heap}{a:Addr}{u:HO}(r:Rd H a u)(x:HOk P w H h):ObjOk P w H h a u:=by
 rcases r with r | ⟨o,r⟩
 ·exact x a u r
 ·obtain⟨_,q⟩:=x a _ r
  exact q
def Mut:Option HO->Prop
 |some (.lst _)=>True
 |some (.dK _)=>True
 |some (.dT _)=>True
 |some (.set _ _)=>True
 |some (.ins _ _ _)=>True
 |some (.ext _)=>True
 |_=>False
section
variable {P:Program}{w:World}{H:Hp}{h h':Heap}{x e:Addr}{o':HO}
theorem HOk.write (ok:HOk P w H h)(mu:Mut (H x))(he:e=x\/H e=some (.own x))(k:∀b u,b≠e->h.get? b=some u->h'.get? b=some u)(heo:∃u,h'.get? e=some u)
  (new:ObjOk P w (upd H x o') h' x o'):HOk P w (upd H x o') h':=λb u q=>by
 have nown:∀c y,H c=some (.own y)->c≠x:=λc y r z=>by subst z;rw[r] at mu;exact mu
 have ntup:∀c xs,H c=some (.tup xs)->c≠x:=λc xs r z=>by subst z;rw[r] at mu;exact mu
 by_cases hb:b=x
 ·subst hb;rw[aF] at q;cases q;exact new
 ·rw[aR hb] at q
  by_cases hbe:b=e
  ·have q':H b=some (.own x):=by
    rcases he with z | z
    ·exact absurd (hbe.trans z) hb
    ·rw[hbe];exact z
   rw[q] at q';cases q'
   obtain⟨v,hv⟩:=heo
   exact⟨v,by rw[hbe];exact hv⟩
  ·refine(ok b u q).stay (λc v hc r=>k c v ?_ r) (λc r=>by rw[aR (nown c b r)];exact r) λc xs r=>by rw[aR (ntup c xs r)];exact r
   rcases hc with rfl | hc
   ·exact hbe
   ·rintro rfl
    rcases he with z | z
    ·exact nown c b hc z
    ·rw[hc] at z;cases z;exact hb rfl
end
structure Un (fs ex:List Addr)(H H':Hp)(h h':Heap):Prop where
 keep:∀b o,h.get? b=some o->H b=none->b∉fs->b∉ex->h'.get? b=some o
 slot:∀b o,h.get? b=some o->H b=none->b∈fs->b∉ex->∃sl,h'.get? b=some { o with slots:=sl }
 free:∀b o,h.get? b=some o->H b=none->b∉ex->H' b=none
 there:∀b o,h.get? b=some o->b∉ex->∃o',h'.get? b=some o'
 tups:∀b xs,H b=some (.tup xs)->H' b=some (.tup xs)
 frzs:∀b o u,H b=some (.frz o u)->H' b=some (.frz o u)
 tbls:∀b ps,H b=some (.tbl ps)->∃more,H' b=some (.tbl (ps++more))
section
variable {fs fs' ex ex':List Addr}{H H1 H2:Hp}{h h1 h2 h':Heap}{a x e:Addr}{o:HO}
theorem Un.any (u:Un fs ex H H1 h h1){b:Addr}{ob:Obj}(q:h.get? b=some ob)(n:H b=none)(hx:b∉ex):∃sl,h1.get? b=some { ob with slots:=sl }:=by
 by_cases hb:b∈fs
 ·exact u.slot b ob q n hb hx
 ·exact⟨ob.slots,u.keep b ob q n hb hx⟩
theorem Un.kept (k:∀b u,h.get? b=some u->h'.get? b=some u):Un fs ex H H h h':=
 ⟨λb ob q _ _ _=>k b ob q,λb ob q _ _ _=>⟨ob.slots,k b ob q⟩,λ_ _ _ n _=>n,λb ob q _=>⟨ob,k b ob q⟩,λ_ _ q=>q,λ_ _ _ q=>q,λ_ ps q=>⟨#[],by rw[q];simp⟩⟩
theorem Un.refl:Un fs ex H H h h:=Un.kept λ_ _ q=>q
theorem Un.laid (k:∀b u,h.get? b=some u->h'.get? b=some u)(hp:h.objs.size<=a)(hn:H a=none):Un fs ex H (upd H a o) h h' where
 keep:=λb u q _ _ _=>k b u q
 slot:=λb u q _ _ _=>⟨u.slots,k b u q⟩
 free:=λb u q n _=>by rw[aR (dt (c5 (b7 q) hp))];exact n
 there:=λb u q _=>⟨u,k b u q⟩
 tups:=λb xs q=>by rw[aR (aN q hn)];exact q
 frzs:=λb u xs q=>by rw[aR (aN q hn)];exact q
 tbls:=λb ps q=>⟨#[],by rw[aR (aN q hn),q];simp⟩
theorem Un.write (mu:Mut (H x))(he:e=x\/H e=some (.own x))(k:∀b u,b≠e->h.get? b=some u->h'.get? b=some u)(heo:∃u,h'.get? e=some u):Un fs ex H (upd H x o) h h':=by
 have hx:∀b,H b=none->b≠x:=λb n z=>by subst z;rw[n] at mu;exact mu
 have hb:∀b,H b=none->b≠e:=λb n z=>by
  subst z
  rcases he with r | r
  ·exact hx b n r
  ·rw[n] at r;cases r
 have hm:∀b u,H b=some u->¬ Mut (some u)->b≠x:=λb u q nm z=>by subst z;rw[q] at mu;exact nm mu
 refine⟨λb u q n _ _=>k b u (hb b n) q,λb u q n _ _=>⟨u.slots,k b u (hb b n) q⟩,λb u q n _=>by rw[aR (hx b n)];exact n,λb u q _=>?_,
  λb xs q=>by rw[aR (hm b _ q λz=>z)];exact q,λb u xs q=>by rw[aR (hm b _ q λz=>z)];exact q,λb ps q=>⟨#[],by rw[aR (hm b _ q λz=>z),q];simp⟩⟩
 by_cases hbe:b=e
 ·subst hbe;exact heo
 ·exact⟨u,k b u hbe q⟩
end
def trk (h:Heap) (H:Hp):List Addr:=(aj h.objs.size).filter λa=>(H a).isSome
def aCx (h:Heap) (H:Hp):Heap:=PySem.W.hideAll h (trk h H)
theorem aAR (h:Heap)(H:Hp):(aCx h H).objs.size=h.objs.size:=PySem.W.hideAll_size _ _
theorem aCt {h:Heap}{H:Hp}{b:Addr}{o:Obj}(e:h.get? b=some o)(n:H b=none):(aCx h H).get? b=some o:=
 ym _ e λhm=>by
  have q:(H b).isSome=true:=(gg.mp hm).2
  rw[n] at q;simp at q
theorem aDS {h:Heap}{H:Hp}{b:Addr}{o:Obj}(e:(aCx h H).get? b=some o):h.get? b=some o/\H b=none:=by
 have e':h.get? b=some o:=PySem.W.of_hideAll (trk h H) e
 refine⟨e',?_⟩
 cases q:H b with
 |none=>rfl
 |some x=>
  have hm:b∈trk h H:=gg.mpr ⟨bb.mpr (b7 e'),by simp[q]⟩
  have z:(aCx h H).get? b=none:=PySem.W.hideAll_none (trk h H) hm
  rw[z] at e;cases e
structure Mod (K:aa)(mg:Str->Option Value)(base:Heap):Prop where
 kin:K.In base
 glob:base.Ns c9 mg
 blt:∃mb,base.Ns zj mb/\∀x:Str,x≠"__name__"->mb x=dw x
 nolimit:base.NoLimit
structure Cx where
 prog:Program
 w:World
 K:aa
 mg:Str->Option Value
 base:Heap
 A:Around
 N:List Str
 s₀:Shared
 H₀:Hp
 env:Env
 outer:List Env
 stack:List Env
 ex:List Addr
 fn:Str->Bool
 calm:Bool
 pn:List (Addr×Obj)
 xe:Value->Shared->Prop
def frs (l:List Env):List Addr:=l.filterMap (·.frame)
abbrev Cx.fs (X:Cx):List Addr:=frs X.outer
def Vis (sc:Scope) (x:Str):Prop:=sc.names.lookup x=some .local\/sc.names.lookup x=some .cell\/sc.names.lookup x=some .free
def Loc (sc:Scope) (x:Str):Prop:=sc.names.lookup x=some .local\/sc.names.lookup x=some .cell
def aIh (env:Env) (h:Heap) (m:Str->Option Value) (x:Str) (u:Value):Prop:=
 (env.kindOf x=some .local/\m x=some u)\/((env.kindOf x=some .cell\/env.kindOf x=some .free)/\∃c,env.cells.lookup x=some c/\h.IsCell c (some u))
structure Cx.Ok (X:Cx):Prop where
 mod:Mod X.K X.mg X.base
 kind:X.env.scope.kind = .function
 glob:X.env.globals=c9
 blt:X.env.builtins=zj
 above:X.s₀.heap.objs.size<=X.env.locals
 inj:∀x y c,X.env.cells.lookup x=some c->X.env.cells.lookup y=some c->x=y
 has:∀x,(X.env.kindOf x=some .cell\/X.env.kindOf x=some .free)->∃c,X.env.cells.lookup x=some c
 cab:∀x c,X.fn x=true->X.env.cells.lookup x=some c->X.s₀.heap.objs.size<=c
 hd:X.calm=true->X.A.handled=none
 frames:X.A.frames=some X.stack
 stk:X.stack=X.outer\/(X.stack=X.env :: X.outer/\X.env.frame=some X.env.locals)
 exf:∀b∈X.ex,b≠X.env.locals/\∀x c,X.env.cells.lookup x=some c->c≠b
 bs:∀b o,X.base.get? b=some o->X.s₀.heap.get? b=some o/\X.H₀ b=none
 bsz:X.base.objs.size<=X.s₀.heap.objs.size
 noex:∀b o,X.base.get? b=some o->b∉X.ex
 exfs:∀b∈X.ex,b∉X.fs
 funs:X.s₀.heap.FunFrames X.base X.outer
 frf:∀b∈X.fs,X.H₀ b=none
structure Inv (X:Cx)(pins:List (Addr×Obj))(σ:List (Option V))(H:Hp)(s:Shared):Prop where
 ok:X.Ok
 os:s.os=X.s₀.os
 bare:u4 s.gens
 base:Un X.fs X.ex X.H₀ H X.s₀.heap s.heap
 loc:∃m,s.heap.Ns X.env.locals m/\∀(i:Nat) (x:Str) (v:V),X.N[i]?=some x->σ[i]?=some (some v)->Vis X.env.scope x->∃u,RelV v u/\aIh X.env s.heap m x u
 cell:∀x c,X.env.cells.lookup x=some c->∃v,s.heap.IsCell c v
 free:H X.env.locals=none
 freeC:∀x c,X.env.cells.lookup x=some c->H c=none
 pin:∀p∈X.pn++pins,s.heap.get? p.1=some p.2/\H p.1=none/\p.1≠X.env.locals/\p.1∉X.fs/\∀v,p.2.data ≠ .cell v
 hok:HOk X.prog X.w H s.heap
 len:σ.length=X.N.length
section
variable {X:Cx}{pins:List (Addr×Obj)}{σ:List (Option V)}{H H':Hp}{s:Shared}{h':Heap}
theorem Cx.Ok.nofr (ok:X.Ok){b:Addr}{o:Obj}(e:X.base.get? b=some o):b∉X.fs:=λhb=>by
 have:=(ok.funs.mem hb).1
 rw[e] at this;cases this
theorem Inv.bs (I:Inv X pins σ H s):∀b o,X.base.get? b=some o->s.heap.get? b=some o/\H b=none:=λb o e=>
 ⟨I.base.keep b o (I.ok.bs b o e).1 (I.ok.bs b o e).2 (I.ok.nofr e) (I.ok.noex b o e),I.base.free b o (I.ok.bs b o e).1 (I.ok.bs b o e).2 (I.ok.noex b o e)⟩
theorem Inv.bk (I:Inv X pins σ H s):∀b o,X.base.get? b=some o->s.heap.get? b=some o:=λb o e=>(I.bs b o e).1
theorem Inv.mod (I:Inv X pins σ H s):Mod X.K X.mg X.base:=I.ok.mod
theorem Inv.kIn (I:Inv X pins σ H s):X.K.In s.heap:=I.ok.mod.kin.keeps I.bk
theorem Inv.lt (I:Inv X pins σ H s):X.env.locals<s.heap.objs.size:=let⟨_,hn,_⟩:=I.loc;hn.lt
theorem Inv.sz (I:Inv X pins σ H s):X.s₀.heap.objs.size<=s.heap.objs.size:=bq I.ok.above (gw I.lt)
theorem Inv.nofs (I:Inv X pins σ H s){a:Addr}(h:s.heap.objs.size<=a):a∉X.fs:=λhb=>by
 obtain⟨_,o,ho,_⟩:=I.ok.funs.mem hb
 exact absurd (c5 (b7 ho) (bq I.sz h)) (jo _)
theorem Inv.cne (I:Inv X pins σ H s):∀x c,X.env.cells.lookup x=some c->c≠X.env.locals:=λx c e z=>by
 obtain⟨v,o,ho,hd⟩:=I.cell x c e
 obtain⟨m,⟨o',es,ep,ho',hd',_⟩,_⟩:=I.loc
 rw[z,ho'] at ho;cases ho;rw[hd'] at hd;cases hd
theorem Inv.funs (I:Inv X pins σ H s):s.heap.FunFrames X.base X.outer:=by
 have all:∀(l:List Env),(∀b∈frs l,b∈X.fs)->X.s₀.heap.FunFrames X.base l->s.heap.FunFrames X.base l:=by
  intro l
  induction l with
  |nil=>intro _ _;trivial
  |cons env r ih=>
   intro hs hl
   obtain⟨hk,⟨L,o,hf,hn,ho,hd⟩,hr⟩:=hl
   have hL:L∈X.fs:=hs L (by unfold frs;rw[q9,hf];exact bp)
   obtain⟨sl,e⟩:=I.base.slot L o ho (I.ok.frf L hL) hL λz=>I.ok.exfs L z hL
   exact⟨hk,⟨L,_,hf,hn,e,hd⟩,ih (λb hb=>hs b (by unfold frs;rw[q9,hf];exact ar _ hb)) hr⟩
 exact all X.outer (λ_ hb=>hb) I.ok.funs
theorem Inv.stack (I:Inv X pins σ H s):s.heap.FunFrames X.base X.stack:=by
 rcases I.ok.stk with e | ⟨e,hf⟩
 ·rw[e];exact I.funs
 ·rw[e]
  obtain⟨m,hn,_⟩:=I.loc
  refine .cons (by rw[I.ok.kind];decide) hf hn ?_ I.funs
  exact Heap.get?_none_of_le (bq I.ok.bsz I.ok.above)
theorem Inv.stkSub (I:Inv X pins σ H s):∀b∈frs X.stack,b∈X.env.locals :: X.fs:=λb hb=>by
 rcases I.ok.stk with e | ⟨e,hf⟩
 ·rw[e] at hb;exact ar _ hb
 ·rw[e] at hb
  unfold frs at hb
  rw[q9,hf] at hb
  exact hb
theorem Inv.stkFree (I:Inv X pins σ H s):∀b∈frs X.stack,H b=none:=λb hb=>by
 rcases a9.mp (I.stkSub b hb) with e | hb
 ·rw[e];exact I.free
 ·obtain⟨_,o,ho,_⟩:=I.ok.funs.mem hb
  exact I.base.free b o ho (I.ok.frf b hb) λz=>I.ok.exfs b z hb
theorem Inv.step {g':Array GenState}{t':Nat}{d':Drawn}{ch:List Addr}(I:Inv X pins σ H s)
  (hch:∀b∈ch,(b∈X.ex\/X.s₀.heap.objs.size<=b)/\b≠X.env.locals/\(∀x c,X.env.cells.lookup x=some c->c≠b)/\∀p∈X.pn++pins,p.1≠b)
  (keep:∀b o,b≠X.env.locals->b∉X.fs->b∉ch->s.heap.get? b=some o->H b=none->h'.get? b=some o)
  (slot:∀b o,b≠X.env.locals->b∈X.fs->b∉ch->s.heap.get? b=some o->H b=none->∃sl,h'.get? b=some { o with slots:=sl }) (free:∀b o,b∉ch->s.heap.get? b=some o->H b=none->H' b=none)
  (there:∀b o,b∉ch->s.heap.get? b=some o->∃o',h'.get? b=some o')
  (tups:∀b xs,H b=some (.tup xs)->H' b=some (.tup xs)) (frzs:∀b o u,H b=some (.frz o u)->H' b=some (.frz o u)) (tbls:∀b ps,H b=some (.tbl ps)->∃more,H' b=some (.tbl (ps++more)))
  (ns:∀m,s.heap.Ns X.env.locals m->h'.Ns X.env.locals m) (hok:HOk X.prog X.w H' h') (hg:u4 g') :
  Inv X pins σ H' { s with heap:=h',gens:=g',drawn:=d',toks:=t' }:=by
 have neL:∀b o,X.s₀.heap.get? b=some o->b≠X.env.locals:=λb o e=>dt (c5 (b7 e) I.ok.above)
 have neC:∀b o,X.s₀.heap.get? b=some o->b∉X.ex->b∉ch:=λb o e hx hb=>by
  rcases(hch b hb).1 with z | z
  ·exact hx z
  ·exact absurd (c5 (b7 e) z) (jo _)
 have cellK:∀x c,X.env.cells.lookup x=some c->∀v,s.heap.IsCell c v->h'.IsCell c v:=λx c e v ⟨o,ho,hd⟩=>by
  have nch:c∉ch:=λz=>(hch c z).2.2.1 x c e rfl
  by_cases hc:c∈X.fs
  ·obtain⟨sl,q⟩:=slot c o (I.cne x c e) hc nch ho (I.freeC x c e)
   exact⟨_,q,hd⟩
  ·exact⟨o,keep c o (I.cne x c e) hc nch ho (I.freeC x c e),hd⟩
 refine⟨I.ok,I.os,hg,⟨λb o e n hb hx=>?_,λb o e n hb hx=>?_,λb o e n hx=>?_,λb o e hx=>?_,λb xs e=>tups b xs (I.base.tups b xs e),λb o xs e=>frzs b o xs (I.base.frzs b o xs e),λb ps e=>?_⟩,?_,λx c e=>?_,?_,λx c e=>?_,λp hp=>?_,hok,I.len⟩
 ·exact keep b o (neL b o e) hb (neC b o e hx) (I.base.keep b o e n hb hx) (I.base.free b o e n hx)
 ·obtain⟨sl,e1⟩:=I.base.slot b o e n hb hx
  obtain⟨sl',e2⟩:=slot b _ (neL b o e) hb (neC b o e hx) e1 (I.base.free b o e n hx)
  exact⟨sl',e2⟩
 ·obtain⟨o',e1⟩:=I.base.there b o e hx
  exact free b o' (neC b o e hx) e1 (I.base.free b o e n hx)
 ·obtain⟨o',e1⟩:=I.base.there b o e hx
  exact there b o' (neC b o e hx) e1
 ·obtain⟨m1,e1⟩:=I.base.tbls b ps e
  obtain⟨m2,e2⟩:=tbls b _ e1
  exact⟨m1++m2,by rw[e2,Array.append_assoc]⟩
 ·obtain⟨m,hn,hl⟩:=I.loc
  refine⟨m,ns m hn,λi x v e1 e2 e3=>?_⟩
  obtain⟨u,r,l⟩:=hl i x v e1 e2 e3
  refine⟨u,r,?_⟩
  rcases l with l | ⟨k,c,e,z⟩
  ·exact .inl l
  ·exact .inr ⟨k,c,e,cellK x c e _ z⟩
 ·obtain⟨v,z⟩:=I.cell x c e
  exact⟨v,cellK x c e v z⟩
 ·obtain⟨m,⟨o,_,_,ho,_⟩,_⟩:=I.loc
  exact free _ o (λz=>(hch _ z).2.1 rfl) ho I.free
 ·obtain⟨v,o,ho,hd⟩:=I.cell x c e
  exact free c o (λz=>(hch c z).2.2.1 x c e rfl) ho (I.freeC x c e)
 ·obtain⟨e,n,ne,nf,d⟩:=I.pin p hp
  have nch:p.1∉ch:=λz=>(hch p.1 z).2.2.2 p hp rfl
  exact⟨keep p.1 p.2 ne nf nch e n,free p.1 p.2 nch e n,ne,nf,d⟩
theorem Inv.un {t':Nat}(I:Inv X pins σ H s)(u:Un X.fs [] H H' s.heap h')(hok:HOk X.prog X.w H' h'):Inv X pins σ H' { s with heap:=h',toks:=t' }:=by
 obtain⟨m,⟨o,es,ep,ho,r⟩,_⟩:=id I.loc
 obtain⟨sl,hL⟩:=u.any ho I.free (by simp)
 exact I.step (g':=s.gens) (d':=s.drawn) (ch:=[]) (λ_ z=>nomatch z) (λb o _ hb _ e n=>u.keep b o e n hb (by simp)) (λb o _ hb _ e n=>u.slot b o e n hb (by simp)) (λb o _ e n=>u.free b o e n (by simp)) (λb o _ e=>u.there b o e (by simp)) u.tups u.frzs u.tbls (λm' hm=>by
  obtain⟨o',es',ep',ho',r'⟩:=hm
  rw[ho] at ho';cases ho'
  exact⟨_,es',ep',hL,r'⟩) hok I.bare
theorem Inv.call {g':Array GenState}{t':Nat}{d':Drawn}{ch:List Addr}(I:Inv X pins σ H s)(u:Un (frs X.stack) ch H H' s.heap h')(hok:HOk X.prog X.w H' h')(hg:u4 g')
  (hch:∀b∈ch,(b∈X.ex\/X.s₀.heap.objs.size<=b)/\b≠X.env.locals/\(∀x c,X.env.cells.lookup x=some c->c≠b)/\∀p∈X.pn++pins,p.1≠b) :
  Inv X pins σ H' { s with heap:=h',gens:=g',drawn:=d',toks:=t' }:=by
 obtain⟨m,⟨o,es,ep,ho,r⟩,_⟩:=id I.loc
 obtain⟨sl,hL⟩:=u.any ho I.free λz=>(hch _ z).2.1 rfl
 exact I.step (ch:=ch) hch (λb o hL hb hc e n=>u.keep b o e n (λz=>(a9.mp (I.stkSub b z)).elim hL hb) hc) (λb o _ _ hc e n=>u.any e n hc) (λb o hc e n=>u.free b o e n hc) (λb o hc e=>u.there b o e hc) u.tups u.frzs u.tbls (λm' hm=>by
  obtain⟨o',es',ep',ho',r'⟩:=hm
  rw[ho] at ho';cases ho'
  exact⟨_,es',ep',hL,r'⟩) hok hg
theorem Inv.turned {t':Nat}{it:Addr}(I:Inv X pins σ H s)(k:∀b o,b≠it->s.heap.get? b=some o->h'.get? b=some o)(hn:H it=none)(hL:it≠X.env.locals)
  (h1:it∈X.ex\/X.s₀.heap.objs.size<=it) (h2:∀x c,X.env.cells.lookup x=some c->c≠it) (h3:∀p∈X.pn++pins,p.1≠it):Inv X pins σ H { s with heap:=h',toks:=t' }:=by
 have nit:∀b u,H b=some u->b≠it:=λb u e z=>by rw[z,hn] at e;cases e
 refine I.step (g':=s.gens) (d':=s.drawn) (ch:=[it]) (λb hb=>?_) (λb o _ _ hc e _=>k b o (λz=>hc (by simp[z])) e) (λb o _ _ hc e _=>⟨o.slots,k b o (λz=>hc (by simp[z])) e⟩) (λ_ _ _ _ n=>n)
  (λb o hc e=>⟨o,k b o (λz=>hc (by simp[z])) e⟩) (λ_ _ e=>e) (λ_ _ _ e=>e) (λb ps e=>⟨#[],by rw[e];simp⟩) (λm hm=>?_) (λb u e=>?_) I.bare
 ·have e:b=it:=by simpa using hb
  subst e
  exact⟨h1,hL,h2,h3⟩
 ·obtain⟨o,es,ep,ho,r⟩:=hm
  exact⟨o,es,ep,k _ o (gh hL) ho,r⟩
 ·refine(I.hok b u e).stay (λc v hc q=>k c v ?_ q) (λ_ q=>q) λ_ _ q=>q
  rcases hc with z | z
  ·rw[z];exact nit b u e
  ·exact nit c _ z
theorem Inv.tok (I:Inv X pins σ H s)(t:Nat):Inv X pins σ H { s with toks:=t }:=I.un (h':=s.heap) (t':=t) Un.refl I.hok
theorem Inv.kept {t':Nat}(I:Inv X pins σ H s)(k:∀b u,s.heap.get? b=some u->h'.get? b=some u):Inv X pins σ H { s with heap:=h',toks:=t' }:=I.un (Un.kept k) (I.hok.kept k)
theorem Inv.laid {a:Addr}{o:HO}{t':Nat}(I:Inv X pins σ H s)(k:∀b u,s.heap.get? b=some u->h'.get? b=some u)(hp:s.heap.objs.size<=a)(new:ObjOk X.prog X.w (upd H a o) h' a o) :
  Inv X pins σ (upd H a o) { s with heap:=h',toks:=t' }:=I.un (Un.laid k hp (I.hok.fresh hp)) (I.hok.laid k hp new)
theorem Inv.write {x e:Addr}{o:HO}{t':Nat}(I:Inv X pins σ H s)(mu:Mut (H x))(he:e=x\/H e=some (.own x))(k:∀b u,b≠e->s.heap.get? b=some u->h'.get? b=some u)(heo:∃u,h'.get? e=some u)
  (new:ObjOk X.prog X.w (upd H x o) h' x o):Inv X pins σ (upd H x o) { s with heap:=h',toks:=t' }:=I.un (Un.write mu he k heo) (I.hok.write mu he k heo new)
theorem Inv.pins_of {pins':List (Addr×Obj)}(I:Inv X pins σ H s)(h:∀p∈pins',s.heap.get? p.1=some p.2/\H p.1=none/\p.1≠X.env.locals/\p.1∉X.fs/\∀v,p.2.data ≠ .cell v):Inv X pins' σ H s:=
 ⟨I.ok,I.os,I.bare,I.base,I.loc,I.cell,I.free,I.freeC,λp hp=>(bo.mp hp).elim (λz=>I.pin p (da _ z)) (h p),I.hok,I.len⟩
theorem vM {N:List Str}(hN:N.Nodup){i j:Nat}{x:Str}(a:N[i]?=some x)(b:N[j]?=some x):i=j:=by
 obtain⟨h1,e1⟩:=ah.mp a
 obtain⟨h2,e2⟩:=ah.mp b
 exact(List.getElem_inj hN).mp (e1.trans e2.symm)
theorem sQ {M:Model}{A:Around}{E:Value->Shared->Prop}{i:Nat}{x:Str}{v:V}{u:Value}{Q:Unit->Shared->Prop}(I:Inv X pins σ H s)(hN:X.N.Nodup)(hi:X.N[i]?=some x)(hx:Loc X.env.scope x)(r:RelV v u)
  (h:∀s',Inv X pins (σ.set i (some v)) H s'->(∃a,ir a s.heap s'.heap/\(a=X.env.locals\/X.env.cells.lookup x=some a))->Q () s') (hf:X.fn x=true\/X.env.scope.names.lookup x=some .local:=by first | exact .inl rfl | exact .inr rfl | assumption):wpAny M A (storeName X.env x u) Q E s:=by
 obtain⟨m,hn,hl⟩:=id I.loc
 have hcls:(X.env.scope.kind == .class || (X.env.scope.kind == .module && X.env.locals != X.env.globals))=false:=by rw[I.ok.kind];rfl
 have hiσ:i<σ.length:=by rw[I.len];exact(ah.mp hi).1
 have cne:=I.cne
 have tracked:∀{a:Addr}{h':Heap},(∃o,s.heap.get? a=some o/\H a=none)->ir a s.heap h'->HOk X.prog X.w H h':=λ{a h'} ha hs b ob e=>by
  obtain⟨_,_,hfree⟩:=ha
  refine(I.hok b ob e).stay (λc w' hc q=>(hs.2 c ?_).trans q) (λ_ q=>q) λ_ _ q=>q
  rintro rfl
  rcases hc with rfl | hc
  ·rw[hfree] at e;cases e
  ·rw[hfree] at hc;cases hc
 rcases hx with hk | hk
 ·refine wpAny_storeName_local hk hn (λh' hn' hs=>?_) hcls
  obtain⟨oL,_,_,hoL,_⟩:=id hn
  refine h _ ⟨I.ok,I.os,I.bare,⟨λb o e n hb hx=>?_,λb o e n hb hx=>?_,I.base.free,λb o e hx=>?_,I.base.tups,I.base.frzs,I.base.tbls⟩,⟨_,hn',λj y v' e1 e2 e3=>?_⟩,λy c e=>?_,I.free,I.freeC,λp hp=>?_,tracked ⟨oL,hoL,I.free⟩ hs,by simpa using I.len⟩ ⟨_,hs, .inl rfl⟩
  ·exact(hs.2 b (dt (c5 (b7 e) I.ok.above))).trans (I.base.keep b o e n hb hx)
  ·obtain⟨sl,e1⟩:=I.base.slot b o e n hb hx
   exact⟨sl,(hs.2 b (dt (c5 (b7 e) I.ok.above))).trans e1⟩
  ·obtain⟨o',e1⟩:=I.base.there b o e hx
   exact⟨o',(hs.2 b (dt (c5 (b7 e) I.ok.above))).trans e1⟩
  ·by_cases hj:j=i
   ·subst hj
    rw[hi] at e1;cases e1
    rw[ip hiσ] at e2
    cases e2
    exact⟨u,r, .inl ⟨hk,by simp⟩⟩
   ·rw[i7 (gh hj)] at e2
    obtain⟨u',r',q⟩:=hl j y v' e1 e2 e3
    refine⟨u',r',?_⟩
    rcases q with⟨k,e⟩ | ⟨k,c,e,z⟩
    ·refine .inl ⟨k,?_⟩
     have:y≠x:=λe=>hj (vM hN e1 (e ▸ hi))
     simp[this,e]
    ·exact .inr ⟨k,c,e,z.sameBut hs (cne y c e)⟩
  ·obtain⟨w',z⟩:=I.cell y c e
   exact⟨w',z.sameBut hs (cne y c e)⟩
  ·obtain⟨e,n,ne,nf,d⟩:=I.pin p hp
   exact⟨(hs.2 p.1 ne).trans e,n,ne,nf,d⟩
 ·have hfn:X.fn x=true:=by
   rcases hf with z | z
   ·exact z
   ·rw[z] at hk;cases hk
  obtain⟨c,hc⟩:=I.ok.has x (.inl hk)
  obtain⟨w',z⟩:=I.cell x c hc
  refine wpAny_storeName_cell I.ok.kind hk hc z (λh' hc' hs=>?_)
  obtain⟨oc,hoc,hocd⟩:=id z
  refine h { s with heap:=h' } ⟨I.ok,I.os,I.bare,⟨λb o e n hb hx=>?_,λb o e n hb hx=>?_,I.base.free,λb o e hx=>?_,I.base.tups,I.base.frzs,I.base.tbls⟩,⟨m,hn.sameBut hs (gh (cne x c hc)),λj y v' e1 e2 e3=>?_⟩,λy c' e=>?_,I.free,I.freeC,λp hp=>?_,tracked ⟨oc,hoc,I.freeC x c hc⟩ hs,by simpa using I.len⟩ ⟨c,hs, .inr hc⟩
  ·exact(hs.2 b (dt (c5 (b7 e) (I.ok.cab x c hfn hc)))).trans (I.base.keep b o e n hb hx)
  ·obtain⟨sl,e1⟩:=I.base.slot b o e n hb hx
   exact⟨sl,(hs.2 b (dt (c5 (b7 e) (I.ok.cab x c hfn hc)))).trans e1⟩
  ·obtain⟨o',e1⟩:=I.base.there b o e hx
   exact⟨o',(hs.2 b (dt (c5 (b7 e) (I.ok.cab x c hfn hc)))).trans e1⟩
  ·by_cases hj:j=i
   ·subst hj
    rw[hi] at e1;cases e1
    rw[ip hiσ] at e2
    cases e2
    exact⟨u,r, .inr ⟨.inl hk,c,hc,hc'⟩⟩
   ·rw[i7 (gh hj)] at e2
    obtain⟨u',r',q⟩:=hl j y v' e1 e2 e3
    refine⟨u',r',?_⟩
    rcases q with q | ⟨k,c',e,z'⟩
    ·exact .inl q
    ·refine .inr ⟨k,c',e,z'.sameBut hs ?_⟩
     rintro rfl
     exact hj (vM hN e1 (I.ok.inj _ _ _ e hc ▸ hi))
  ·by_cases hcc:c'=c
   ·subst hcc;exact⟨_,hc'⟩
   ·obtain⟨w2,z2⟩:=I.cell y c' e
    exact⟨w2,z2.sameBut hs hcc⟩
  ·obtain⟨e,n,ne,nf,d⟩:=I.pin p hp
   refine⟨(hs.2 p.1 ?_).trans e,n,ne,nf,d⟩
   intro q
   rw[q,hoc] at e
   have q':oc=p.2:=bu e
   exact d w' (by rw[<- q'];exact hocd)
theorem uT {M:Model}{A:Around}{E:Value->Shared->Prop}{i:Nat}{x:Str}{v:V}{u:Value}{Q:Unit->Shared->Prop}(I:Inv X pins σ H s)(hN:X.N.Nodup)(hi:X.N[i]?=some x)(hx:Loc X.env.scope x)(r:RelV v u)
  (h:∀s',Inv X pins (σ.set i (some v)) H s'->Q () s') (hf:X.fn x=true\/X.env.scope.names.lookup x=some .local:=by first | exact .inl rfl | exact .inr rfl | assumption):wpAny M A (storeName X.env x u) Q E s:=
 sQ I hN hi hx r (λs' I' _=>h s' I') hf
theorem Inv.call' {s':Shared}{ch:List Addr}(I:Inv X pins σ H s)(ho:s'.os=s.os)(u:Un (frs X.stack) ch H H' s.heap s'.heap)(hok:HOk X.prog X.w H' s'.heap)(hg:u4 s'.gens)
  (hch:∀b∈ch,(b∈X.ex\/X.s₀.heap.objs.size<=b)/\b≠X.env.locals/\(∀x c,X.env.cells.lookup x=some c->c≠b)/\∀p∈X.pn++pins,p.1≠b):Inv X pins σ H' s':=by
 obtain⟨h',g',d',t',o'⟩:=s'
 have e:o'=s.os:=ho
 subst e
 exact I.call (g':=g') (t':=t') (d':=d') u hok hg hch
end
abbrev XK:=Value->Option Addr->Hp->Prop
abbrev St:=List (Option V)
abbrev VK:=V->Hp->Prop
abbrev TE:=St->Hp->VK->Prop
abbrev TT:=St->Hp->(Bool->Hp->Prop)->Prop
abbrev TA:=St->Hp->(List V->Hp->Prop)->Prop
structure jG where
 nx:St->Hp->Prop
 rt:VK
 bk:St->Hp->Prop:=λ_ _=>False
 ct:St->Hp->Prop:=λ_ _=>False
abbrev TS:=jG->St->Hp->Prop
def EP (X:Cx) (pins:List (Addr×Obj)) (σ:St) (Q:VK) (u:Value) (s':Shared):Prop:=∃v H',Inv X pins σ H' s'/\RelV v u/\Q v H'
def TP (X:Cx) (pins:List (Addr×Obj)) (σ:St) (Q:Bool->Hp->Prop) (b:Bool) (s':Shared):Prop:=∃H',Inv X pins σ H' s'/\Q b H'
def AP (X:Cx) (pins:List (Addr×Obj)) (σ:St) (Q:List V->Hp->Prop) (us:List Value) (s':Shared):Prop:=∃vs H',Inv X pins σ H' s'/\Vals vs us/\Q vs H'
def SP (X:Cx) (pins:List (Addr×Obj)) (D:jG) (f:Flow) (s':Shared):Prop:=
 match f with
 | .next=>∃σ' H',Inv X pins σ' H' s'/\D.nx σ' H'
 | .brk=>∃σ' H',Inv X pins σ' H' s'/\D.bk σ' H'
 | .cont=>∃σ' H',Inv X pins σ' H' s'/\D.ct σ' H'
 | .ret u=>∃v σ' H',Inv X pins σ' H' s'/\RelV v u/\D.rt v H'
def PE (X:Cx) (e:Expr) (t:TE):Prop:=
 ∀(pins:List (Addr×Obj)) (s:Shared) (σ:St) (H:Hp) (Q:VK),Inv X pins σ H s->t σ H Q->wpAny (model X.prog X.w) X.A (eval e X.env) (EP X pins σ Q) X.xe s
def PT (X:Cx) (e:Expr) (t:TT):Prop:=
 ∀(pins:List (Addr×Obj)) (s:Shared) (σ:St) (H:Hp) (Q:Bool->Hp->Prop),Inv X pins σ H s->t σ H Q->wpAny (model X.prog X.w) X.A (isTrue e X.env (eval e X.env)) (TP X pins σ Q) X.xe s
def PW (X:Cx) (e:Expr) (t:TT):Prop:=
 ∀(whole:Sem Value) (pins:List (Addr×Obj)) (s:Shared) (σ:St) (H:Hp) (Q:Bool->Hp->Prop),Inv X pins σ H s->t σ H Q->wpAny (model X.prog X.w) X.A (isTrue e X.env whole) (TP X pins σ Q) X.xe s
theorem PW.pt {X:Cx}{e:Expr}{t:TT}(h:PW X e t):PT X e t:=h _
def PA (X:Cx) (es:List Expr) (t:TA):Prop:=
 ∀(pos:Pos) (pins:List (Addr×Obj)) (s:Shared) (σ:St) (H:Hp) (Q:List V->Hp->Prop),Inv X pins σ H s->t σ H Q->wpAny (model X.prog X.w) X.A (spliced (vo pos (ff es X.env))) (AP X pins σ Q) X.xe s
def PS (X:Cx) (st:Stmt) (t:TS):Prop:=
 ∀(pins:List (Addr×Obj)) (s:Shared) (σ:St) (H:Hp) (D:jG),Inv X pins σ H s->t D σ H->wpAny (model X.prog X.w) X.A (exec st X.env) (SP X pins D) X.xe s
def PSs (X:Cx) (st:List Stmt) (t:TS):Prop:=
 ∀(pins:List (Addr×Obj)) (s:Shared) (σ:St) (H:Hp) (D:jG),Inv X pins σ H s->t D σ H->wpAny (model X.prog X.w) X.A (execs st X.env) (SP X pins D) X.xe s
theorem thn {α:Type}{t:Sem α}{Q Q':α->Shared->Prop}{M:Model}{A:Around}{E:Value->Shared->Prop}{s:Shared}(h:wpAny M A t Q E s)(hQ:∀a s,Q a s->Q' a s):wpAny M A t Q' E s:=gj h hQ λ_ _ x=>x
section
variable {X:Cx}
inductive aFK (i:Nat) (σ:St) (H:Hp) (Q:VK):Prop
 |mk (v:V) (h:σ[i]?=some (some v)) (q:Q v H):aFK i σ H Q
def aD (i:Nat):TE:=λσ H Q=>aFK i σ H Q
def tC (v:V):TE:=λ_ H Q=>Q v H
theorem aGg {i:Nat}{x:Str}{pos:Pos}(hN:X.N[i]?=some x)(hv:Vis X.env.scope x)(hd:(x == ("__debug__" : Str))=false:=by decide)(hcd:(x == ("__classdict__" : Str))=false:=by decide):PE X (.Name x pos) (aD i):=by
 intro pins s σ H Q I h
 obtain⟨v,e,h⟩:=h
 obtain⟨m,hn,hl⟩:=I.loc
 obtain⟨u,r,l⟩:=hl i x v hN e hv
 have fin:EP X pins σ Q u s:=⟨v,H,I,r,h⟩
 rcases l with⟨hk,hm⟩ | ⟨hk,c,hc,hcell⟩
 ·exact wpAny_Name (wpAny_loadName_local I.ok.kind hk hn hm fin) hd
 ·rcases hk with hk | hk
  ·exact wpAny_Name (wpAny_loadName_cell I.ok.kind hk hc hcell fin) hd
  ·exact wpAny_Name (wpAny_loadName_free I.ok.kind hk hc hcell fin hcd) hd
theorem aK {i j pos}:PE X (.Constant (.int i) j pos) (tC (.int i)):=λ_ _ _ H _ I h=>wpAny_Constant_int ⟨.int i,H,I.tok _,⟨_,rfl⟩,h⟩
theorem kI {b j pos}:PE X (.Constant (.bool b) j pos) (tC (.bl b)):=λ_ _ _ H _ I h=>Constant_bool ⟨.bl b,H,I,rfl,h⟩
theorem uR {j pos}:PE X (.Constant .none j pos) (tC .non):=λ_ _ _ H _ I h=>Constant_none ⟨.non,H,I,rfl,h⟩
def Gl (X:Cx) (x:Str):Prop:=X.env.kindOf x=some .globalImplicit
theorem zD {E:Value->Shared->Prop}{pins:List (Addr×Obj)}{s:Shared}{σ:St}{H:Hp}{x:Str}{u:Value}{pos:Pos}{Q:Value->Shared->Prop}(I:Inv X pins σ H s)(hg:Gl X x)(hm:X.mg x=some u)(h:Q u s)
  (hd:(x == ("__debug__" : Str))=false:=by decide):wpAny (model X.prog X.w) X.A (eval (.Name x pos) X.env) Q E s:=
 sg I.ok.kind hg (Calls.loadGlobal_global (by rw[I.ok.glob];exact I.mod.glob.keeps I.bk) hm h) hd
theorem sH {E:Value->Shared->Prop}{pins:List (Addr×Obj)}{s:Shared}{σ:St}{H:Hp}{x:Str}{u:Value}{pos:Pos}{Q:Value->Shared->Prop}(I:Inv X pins σ H s)(hg:Gl X x)(hm:X.mg x=none)(hv:dw x=some u)(h:Q u s)
  (hn:x≠"__name__":=by decide) (hd:(x == ("__debug__" : Str))=false:=by decide):wpAny (model X.prog X.w) X.A (eval (.Name x pos) X.env) Q E s:=by
 obtain⟨mb,h1,h2⟩:=I.mod.blt
 exact sg I.ok.kind hg (Calls.loadGlobal_builtin (by rw[I.ok.glob];exact I.mod.glob.keeps I.bk) hm (by rw[I.ok.blt];exact h1.keeps I.bk) ((h2 x hn).trans hv) h) hd
theorem fH {x:Str}{v:V}{u:Value}{pos:Pos}(hg:Gl X x)(hm:X.mg x=none)(hv:dw x=some u)(r:RelV v u)(hn:x≠"__name__":=by decide)(hd:(x == ("__debug__" : Str))=false:=by decide):PE X (.Name x pos) (tC v):=
 λ_ _ _ H _ I h=>sH I hg hm hv ⟨v,H,I,r,h⟩ hn hd
variable {a b:Expr}{ta tb:TE}{pos:Pos}
def PC (X:Cx) (op:CmpOp) (a b:Expr) (t:TE):Prop:=
 ∀(pins:List (Addr×Obj)) (s:Shared) (σ:St) (H:Hp) (Q:VK),Inv X pins σ H s->t σ H Q ->
  wpAny (model X.prog X.w) X.A (eval a X.env) (λv s₁=>wpAny (model X.prog X.w) X.A (eval b X.env) (λu s₂=>wpAny (model X.prog X.w) X.A (fi op v u) (EP X pins σ Q) X.xe s₂) X.xe s₁) X.xe s
def tB (t:TE):TT:=λσ H Q=>t σ H λx H1=>∃c,x = .bl c/\Q c H1
theorem sV {op:CmpOp}{t:TE}(h:PC X op a b t)(h1:qw op b=false:=by first | exact nobehind _ (by decide) (by decide) | rfl):PT X (.Compare a [op] [b] pos) (tB t):=by
 intro pins s σ H Q I hw
 refine wg (thn (h pins s σ H _ I hw) λv s1 h1=>thn h1 λu s2 h2=>thn h2 λc s3 ⟨x,H1,I1,r1,q1⟩=>?_) h1
 obtain⟨d,rfl,q⟩:=q1
 cases r1
 exact f9 ⟨H1,I1,q⟩
theorem iD {e:Expr}{t:TE}(h:PE X e t)(he:∀whole,isTrue e X.env whole=(do let v <- whole;yn e.pos;wj [v] (truthy v)):=by intro _;rfl):PT X e (tB t):=by
 intro pins s σ H Q I hw
 refine isTrue_plain (thn (h pins s σ H _ I hw) λv s1 ⟨x,H1,I1,r1,q1⟩=>?_) (he _)
 obtain⟨d,rfl,q⟩:=q1
 cases r1
 exact f9 ⟨H1,I1,q⟩
variable {tA tB':TT}{rest:List Expr}
def aEF (t u:TT):TT:=λσ H Q=>t σ H λc H1=>if c=true then u σ H1 Q else Q false H1
def tOr (t u:TT):TT:=λσ H Q=>t σ H λc H1=>if c=true then Q true H1 else u σ H1 Q
def yA (t:TT):TT:=λσ H Q=>t σ H λc H1=>Q (!c) H1
theorem oY (ha:PT X a tA):PW X (.BoolOp .And [a] pos) tA:=by
 intro wh pins s σ H Q I h
 refine isTrue_and (thn (ha pins s σ H Q I h) λc s1 e=>?_)
 cases c with
 |true=>exact isTrue_and_nil e
 |false=>exact e
theorem iE (ha:PT X a tA):PW X (.BoolOp .Or [a] pos) tA:=by
 intro wh pins s σ H Q I h
 refine isTrue_or (thn (ha pins s σ H Q I h) λc s1 e=>?_)
 cases c with
 |false=>exact isTrue_or_nil e
 |true=>exact e
theorem uP (ha:PT X a tA)(hb:PW X (.BoolOp .And (b :: rest) pos) tB'):PW X (.BoolOp .And (a :: b :: rest) pos) (aEF tA tB'):=by
 intro wh pins s σ H Q I h
 refine isTrue_and (thn (ha pins s σ H _ I h) λc s1 ⟨H1,I1,q1⟩=>?_)
 cases c with
 |true=>exact hb wh pins s1 σ H1 Q I1 q1
 |false=>exact⟨H1,I1,q1⟩
theorem mX (ha:PT X a tA)(hb:PW X (.BoolOp .Or (b :: rest) pos) tB'):PW X (.BoolOp .Or (a :: b :: rest) pos) (tOr tA tB'):=by
 intro wh pins s σ H Q I h
 refine isTrue_or (thn (ha pins s σ H _ I h) λc s1 ⟨H1,I1,q1⟩=>?_)
 cases c with
 |true=>exact⟨H1,I1,q1⟩
 |false=>exact hb wh pins s1 σ H1 Q I1 q1
theorem iF (ha:PT X a tA):PT X (.UnaryOp .Not a pos) (yA tA):=by
 intro pins s σ H Q I h
 exact isTrue_not (ha pins s σ H (λc H1=>Q (!c) H1) I h)
def nB (ta tb:TE):TE:=λσ H Q=>ta σ H λx H1=>∃c,x = .bl c/\if c=true then tb σ H1 Q else Q (.bl false) H1
def aDD (ta:TE):TE:=λσ H Q=>ta σ H λx H1=>∃c,x = .bl c/\Q (.bl (!c)) H1
theorem lN {op}{t:TE}(h:PE X a t):PE X (.BoolOp op [a] pos) t:=λpins s σ H Q I hw=>BoolOp_one (h pins s σ H Q I hw)
theorem kD (ha:PE X a ta)(hb:PE X (.BoolOp .And (b :: rest) pos) tb):PE X (.BoolOp .And (a :: b :: rest) pos) (nB ta tb):=by
 intro pins s σ H Q I h
 refine BoolOp_and (thn (ha pins s σ H _ I h) λv s1 ⟨x,H1,I1,r1,q1⟩=>?_)
 obtain⟨c,rfl,q1⟩:=q1
 cases r1
 refine f9 ?_
 cases c with
 |true=>exact hb pins s1 σ H1 Q I1 q1
 |false=>exact⟨.bl false,H1,I1,rfl,q1⟩
theorem aCZ (ha:PE X a ta):PE X (.UnaryOp .Not a pos) (aDD ta):=by
 intro pins s σ H Q I h
 refine UnaryOp_ (thn (ha pins s σ H _ I h) λv s1 ⟨x,H1,I1,r1,q1⟩=>?_)
 obtain⟨c,rfl,q1⟩:=q1
 cases r1
 exact not_of (f9 ⟨.bl (!c),H1,I1,rfl,q1⟩)
end
def SqL (K:aa) (H:Hp) (a:Addr) (xs:List V):Prop:=
 Rd H a (.lst xs) \/
  ∃(o:Obj) (its:Array Value) (n:Nat),K.lookup a=some o/\o.cls = .type "list"/\o.dict=none/\o.data = .seq its n/\its.size<=b8/\Vals xs its.toList
def SqT (K:aa) (H:Hp) (a:Addr) (xs:List V):Prop:=
 Rd H a (.tup xs) \/
  ∃(o:Obj) (its:Array Value) (n:Nat),K.lookup a=some o/\o.cls = .type "tuple"/\o.dict=none/\o.data = .seq its n/\its.size<=b8/\Vals xs its.toList
def aIp:Value->Option V
 | .none=>some .non
 | .bool b=>some (.bl b)
 | .int i _=>some (.int i)
 | .str x _=>some (.str x)
 | .bytes b _=>some (.byt b)
 | .float b _=>some (.flt b)
 | .ref a=>some (.ref a)
 | .type n=>some (.ty n)
 |_=>none
theorem RelV.abs {x:V}{u:Value}(r:RelV x u):aIp u=some x:=by
 cases x with
 |non=>cases r;rfl
 |bl _=>cases r;rfl
 |int _=>obtain⟨t,rfl⟩:=r;rfl
 |str _=>obtain⟨t,rfl⟩:=r;rfl
 |byt _=>obtain⟨t,rfl⟩:=r;rfl
 |flt _=>obtain⟨t,rfl⟩:=r;rfl
 |ref _=>cases r;rfl
 |ty _=>cases r;rfl
theorem RelV.inj {x y:V}{u:Value}(r:RelV x u)(q:RelV y u):x=y:=bu (r.abs.symm.trans q.abs)
theorem Vals.inj:∀{xs ys:List V}{us:List Value},Vals xs us->Vals ys us->xs=ys
 |_,_,_, .nil, .nil=>rfl
 |_,_,_, .cons r t, .cons r' t'=>by rw[r.inj r',Vals.inj t t']
section
variable {X:Cx}{pins:List (Addr×Obj)}{σ:St}{H:Hp}{s:Shared}{a:Addr}{xs ys:List V}
theorem SqL.of {K:aa}(h:H a=some (.lst xs)):SqL K H a xs := .inl (.inl h)
theorem SqT.of {K:aa}(h:H a=some (.tup xs)):SqT K H a xs := .inl (.inl h)
theorem Inv.list (I:Inv X pins σ H s)(h:SqL X.K H a xs):∃its:List Value,Vals xs its/\PlainL s.heap a its.toArray/\xs.length<=b8:=by
 rcases h with h | ⟨o,its,n,hk,hc,hd,hs,hz,r⟩
 ·obtain⟨z,its,n,r,e⟩:=h.ok I.hok
  exact⟨its,r,⟨_,n,e,rfl,rfl,rfl⟩,z⟩
 ·refine⟨its.toList,r,⟨o,n,I.kIn a o hk,hc,hd,by simpa using hs⟩,?_⟩
  have e:=r.length
  simp only[cu] at e
  omega
theorem Inv.tuple (I:Inv X pins σ H s)(h:SqT X.K H a xs):∃its:List Value,Vals xs its/\IsTup s.heap a its.toArray/\xs.length<=b8:=by
 rcases h with h | ⟨o,its,n,hk,hc,_,hs,hz,r⟩
 ·obtain⟨z,its,r,p⟩:=h.ok I.hok
  exact⟨its,r,p.tup,z⟩
 ·refine⟨its.toList,r,⟨o,I.kIn a o hk,hc,n,by simpa using hs⟩,?_⟩
  have e:=r.length
  simp only[cu] at e
  omega
theorem Inv.list_inj (I:Inv X pins σ H s)(h:SqL X.K H a xs)(h':SqL X.K H a ys):xs=ys:=by
 obtain⟨its,r,⟨o,n,e,_,_,d⟩,_⟩:=I.list h
 obtain⟨its',r',⟨o',n',e',_,_,d'⟩,_⟩:=I.list h'
 rw[e] at e';cases e'
 rw[d] at d'
 injection d' with d1 _
 have:its=its':=by simpa using congrArg zt d1
 subst this
 exact r.inj r'
theorem Inv.tuple_inj (I:Inv X pins σ H s)(h:SqT X.K H a xs)(h':SqT X.K H a ys):xs=ys:=by
 obtain⟨its,r,⟨o,e,_,n,d⟩,_⟩:=I.tuple h
 obtain⟨its',r',⟨o',e',_,n',d'⟩,_⟩:=I.tuple h'
 rw[e] at e';cases e'
 rw[d] at d'
 injection d' with d1 _
 have:its=its':=by simpa using congrArg zt d1
 subst this
 exact r.inj r'
end
abbrev Cx.wish (X:Cx) (E:Value->Shared->Prop):Cx:={ X with xe:=E }
abbrev Cx.nox (X:Cx):Cx:=X.wish λ_ _=>False
theorem Cx.Ok.wish {X:Cx}(ok:X.Ok)(E:Value->Shared->Prop):(X.wish E).Ok:=
 ⟨ok.mod,ok.kind,ok.glob,ok.blt,ok.above,ok.inj,ok.has,ok.cab,ok.hd,ok.frames,ok.stk,ok.exf,ok.bs,ok.bsz,ok.noex,ok.exfs,ok.funs,ok.frf⟩
theorem Cx.Ok.unwish {X:Cx}{E:Value->Shared->Prop}(ok:(X.wish E).Ok):X.Ok:=
 ⟨ok.mod,ok.kind,ok.glob,ok.blt,ok.above,ok.inj,ok.has,ok.cab,ok.hd,ok.frames,ok.stk,ok.exf,ok.bs,ok.bsz,ok.noex,ok.exfs,ok.funs,ok.frf⟩
section
variable {X:Cx}{pins:List (Addr×Obj)}{σ:St}{H:Hp}{s:Shared}{E:Value->Shared->Prop}
theorem Inv.wish (I:Inv X pins σ H s)(E:Value->Shared->Prop):Inv (X.wish E) pins σ H s:=⟨I.ok.wish E,I.os,I.bare,I.base,I.loc,I.cell,I.free,I.freeC,I.pin,I.hok,I.len⟩
theorem Inv.unwish (I:Inv (X.wish E) pins σ H s):Inv X pins σ H s:=⟨I.ok.unwish,I.os,I.bare,I.base,I.loc,I.cell,I.free,I.freeC,I.pin,I.hok,I.len⟩
theorem SP.unwish {D:jG}{f:Flow}{s':Shared}(h:SP (X.wish E) pins D f s'):SP X pins D f s':=by
 cases f with
 |next=>obtain⟨σ',H',I,q⟩:=h;exact⟨σ',H',I.unwish,q⟩
 |brk=>obtain⟨σ',H',I,q⟩:=h;exact⟨σ',H',I.unwish,q⟩
 |cont=>obtain⟨σ',H',I,q⟩:=h;exact⟨σ',H',I.unwish,q⟩
 |ret u=>obtain⟨v,σ',H',I,r,q⟩:=h;exact⟨v,σ',H',I.unwish,r,q⟩
theorem PT.nox {e:Expr}{t:TT}(h:PT X.nox e t):PT X e t:=λpins s σ H Q I hw=>
 gj (h pins s σ H Q (I.wish _) hw) (λ_ _ ⟨H',I',q⟩=>⟨H',I'.unwish,q⟩) λ_ _ z=>jx z
theorem PSs.nox {st:List Stmt}{t:TS}(h:PSs X.nox st t):PSs X st t:=λpins s σ H D I hw=>
 gj (h pins s σ H D (I.wish _) hw) (λ_ _ q=>q.unwish) λ_ _ z=>jx z
end
section
variable {X:Cx}{st:Stmt}{rest:List Stmt}{t u:TS}{e:Expr}{te:TE}{pos:Pos}
def aL:TS:=λD σ H=>D.nx σ H
def aQ (t u:TS):TS:=λD σ H=>t { D with nx:=u D } σ H
theorem aG:PSs X [] aL:=λ_ _ σ H _ I h=>wk ⟨σ,H,I,h⟩
theorem aC (h1:PS X st t)(h2:PSs X rest u):PSs X (st :: rest) (aQ t u):=by
 intro pins s σ H D I h
 refine wpAny_execs_cons (thn (h1 pins s σ H { D with nx:=u D } I h) λf s1 q=>?_)
 cases f with
 |next=>
  obtain⟨σ',H',I',q⟩:=q
  exact h2 pins s1 σ' H' D I' q
 |ret v=>exact q
 |brk=>exact q
 |cont=>exact q
theorem Inv.quiet {pins:List (Addr×Obj)}{σ:St}{H:Hp}{s:Shared}(I:Inv X pins σ H s):interactive X.env=false:=by simp[interactive,I.ok.kind]
def jP (te:TE):TS:=λD σ H=>te σ H λ_ H1=>D.nx σ H1
theorem eA (he:PE X e te)(hs:Ag e none pos.line X.env=pure false:=by rfl):PS X (.Expr e pos) (jP te):=by
 intro pins s σ H D I h
 exact wpAny_Expr_any (thn (he pins s σ H _ I h) λv s1 ⟨x,H1,I1,r1,q1⟩=>⟨σ,H1,I1,q1⟩) I.quiet hs
def eZ (te:TE):TS:=λD σ H=>te σ H D.rt
theorem bH (he:PE X e te):PS X (.Return (some e) pos) (eZ te):=by
 intro pins s σ H D I h
 exact wpAny_Return_some (thn (he pins s σ H _ I h) λv s1 ⟨x,H1,I1,r1,q1⟩=>⟨x,σ,H1,I1,r1,q1⟩)
def fA (c:TT) (t u:TS):TS:=λD σ H=>c σ H λb H1=>if b=true then t D σ H1 else u D σ H1
theorem eL {c:Expr}{a b:List Stmt}{tc:TT}(hc:PT X c tc)(ha:PSs X a t)(hb:PSs X b u):PS X (.If c a b pos) (fA tc t u):=by
 intro pins s σ H D I h
 refine wpAny_If (thn (hc pins s σ H _ I h) λd s1 ⟨H1,I1,q1⟩=>?_)
 cases d with
 |true=>exact ha pins s1 σ H1 D I1 q1
 |false=>exact hb pins s1 σ H1 D I1 q1
end
abbrev TG:=V->St->Hp->(St->Hp->Prop)->Prop
abbrev TGs:=List V->St->Hp->(St->Hp->Prop)->Prop
def PG (X:Cx) (target:Expr) (t:TG):Prop:=
 ∀(pins:List (Addr×Obj)) (s:Shared) (σ:St) (H:Hp) (v:V) (u:Value) (Q:St->Hp->Prop),Inv X pins σ H s->RelV v u->t v σ H Q ->
  wpAny (model X.prog X.w) X.A (zu target X.env u) (λ_ s'=>∃σ' H',Inv X pins σ' H' s'/\Q σ' H') X.xe s
def PGs (X:Cx) (ts:List Expr) (t:TGs):Prop:=
 ∀(pins:List (Addr×Obj)) (s:Shared) (σ:St) (H:Hp) (vs:List V) (us:List Value) (Q:St->Hp->Prop),Inv X pins σ H s->Vals vs us->t vs σ H Q ->
  wpAny (model X.prog X.w) X.A (assignInOrder ((oz ts X.env).map (·.2)) us) (λ_ s'=>∃σ' H',Inv X pins σ' H' s'/\Q σ' H') X.xe s
abbrev aGG:=V->V->V->Hp->(Hp->Prop)->Prop
def aHT (X:Cx) (t:aGG):Prop:=
 ∀(pins:List (Addr×Obj)) (s:Shared) (σ:St) (H:Hp) (o i v:V) (ov iv u:Value) (Q:Hp->Prop),Inv X pins σ H s->RelV o ov->RelV i iv->RelV v u->t o i v H Q ->
  wpAny (model X.prog X.w) X.A (setItem ov iv u) (λ_ s'=>∃H',Inv X pins σ H' s'/\Q H') X.xe s
section
variable {X:Cx}{pos:Pos}
def aJ (i:Nat):TG:=λv σ H Q=>Q (σ.set i (some v)) H
theorem aS {i:Nat}{x:Str}(hN:X.N.Nodup)(hi:X.N[i]?=some x)(hx:Loc X.env.scope x)(hf:X.fn x=true\/X.env.scope.names.lookup x=some .local:=by first | exact .inl rfl | exact .inr rfl | assumption):PG X (.Name x pos) (aJ i):=by
 intro pins s σ H v u Q I r h
 exact wpAny_assign_Name (uT I hN hi hx r (λs' I'=>⟨_,H,I',h⟩) hf)
def aBo:TGs:=λvs σ H Q=>vs=[]/\Q σ H
def eX (t:TG) (u:TGs):TGs:=λvs σ H Q=>∃v r,vs=v :: r/\t v σ H λσ' H'=>u r σ' H' Q
theorem fK:PGs X [] aBo:=by
 intro pins s σ H vs us Q I r h
 obtain⟨e,h⟩:=h
 subst e
 cases r
 exact assignInOrder_nil ⟨σ,H,I,h⟩
theorem bQ {e:Expr}{es:List Expr}{t:TG}{u:TGs}(h1:PG X e t)(h2:PGs X es u)
  (hs:(oz (e :: es) X.env).map (·.2)=zu e X.env :: (oz es X.env).map (·.2):=by rfl):PGs X (e :: es) (eX t u):=by
 intro pins s σ H vs us Q I r h
 obtain⟨v,vr,e1,h⟩:=h
 subst e1
 cases r with
 |cons r rr=>
  rw[hs]
  refine assignInOrder_cons (thn (h1 pins s σ H _ _ _ I r h) λ_ s1 ⟨σ1,H1,I1,q1⟩=>?_)
  exact h2 pins s1 σ1 H1 _ _ Q I1 rr q1
def aAU (K:aa) (n:Nat) (t:TGs):TG:=λv σ H Q=>∃a xs,v = .ref a/\SqT K H a xs/\xs.length=n/\t xs σ H Q
theorem aFs {es:List Expr}{k:Nat}{t:TGs}{n:Nat}(hc:X.calm=true)(h:PGs X es t)
  (hn:(oz es X.env).length=n:=by rfl) (hst:(oz es X.env).findIdx? (·.1)=none:=by rfl):PG X (.Tuple es k pos) (aAU X.K n t):=by
 intro pins s σ H v u Q I r hw
 obtain⟨a,xs,e1,hq,hl,hw⟩:=hw
 subst e1
 cases r
 obtain⟨its,rv,ht,hz⟩:=I.tuple hq
 refine assign_Tuple_tuple (I.ok.hd hc) ht (by simp[hn,<- hl,rv.length]) hst λh' hx=>?_
 have I1:Inv X pins σ H { s with heap:=h' }:=I.kept (t':=s.toks) λb o e=>hx b o (dt (b7 e)) e
 exact h pins _ σ H xs _ Q I1 (by simpa using rv) hw
def lC (to ti:TE) (t:aGG):TG:=λv σ H Q=>to σ H λo H1=>ti σ H1 λi H2=>t o i v H2 λH3=>Q σ H3
theorem lJ {o i:Expr}{to ti:TE}{t:aGG}(ho:PE X o to)(hi:PE X i ti)(hs:aHT X t)
  (ha:∀v,zu (.Subscript o i pos) X.env v=(do
   let ov <- wj [v] (eval o X.env)
   let iv <- wj [v,ov] (eval i X.env)
   yn pos
   wj [v,ov,iv] (setItem ov iv v)
   release [v,ov,iv] []):=by intro _;rfl):PG X (.Subscript o i pos) (lC to ti t):=by
 intro pins s σ H v u Q I r h
 rw[ha]
 refine af (ft (thn (ho pins s σ H _ I h) λov s1 ⟨x,H1,I1,r1,q1⟩=>?_))
 refine af (ft (thn (hi pins s1 σ H1 _ I1 q1) λiv s2 ⟨y,H2,I2,r2,q2⟩=>?_))
 refine af (qx (af (ft (thn (hs pins s2 σ H2 x y v ov iv u _ I2 r1 r2 r q2) λ_ s3 ⟨H3,I3,q3⟩=>?_))))
 exact wpAny_release ⟨σ,H3,I3,q3⟩
def bO (te:TE) (g:TG):TS:=λD σ H=>te σ H λx H1=>g x σ H1 D.nx
theorem iQ {tg e:Expr}{te:TE}{g:TG}(he:PE X e te)(hg:PG X tg g)(hs:swapsWithSole [tg] e pos.line X.env=pure false:=by rfl)(hw:swappedStores [tg] e X.env=pure none:=by rfl)
  (h1:(oz [tg] X.env).map (·.2)=[zu tg X.env]:=by rfl):PS X (.Assign [tg] e pos) (bO te g):=by
 intro pins s σ H D I h
 refine wpAny_Assign_stores (thn (he pins s σ H _ I h) λv s1 ⟨x,H1,I1,r1,q1⟩=>?_) hs hw
 rw[h1]
 exact thn (hg pins s1 σ H1 x v _ I1 r1 q1) λ_ s2 q=>q
theorem aY {i:Nat}{x:Str}{e:Expr}{te:TE}{pos':Pos}(hN:X.N.Nodup)(hi:X.N[i]?=some x)(hx:Loc X.env.scope x)(he:PE X e te)(hs:Ag e (some (.Name x pos')) pos.line X.env=pure false:=by rfl)(hf:X.fn x=true\/X.env.scope.names.lookup x=some .local:=by first | exact .inl rfl | exact .inr rfl | assumption) :
  PS X (.Assign [.Name x pos'] e pos) (bO te (aJ i)):=by
 intro pins s σ H D I h
 refine wpAny_Assign_Name (thn (he pins s σ H _ I h) λv s1 ⟨y,H1,I1,r1,q1⟩=>?_) hs
 exact uT I1 hN hi hx r1 (λs2 I2=>⟨_,H1,I2,q1⟩) hf
end
section
variable {X:Cx}{pos:Pos}
def uZ (c:TT) (tb:TS):TS:=λD σ H=>∃W:Nat->St->Hp->Prop,(∃m,W m σ H)/\∀m σ H,W m σ H ->
 c σ H λb H1=>if b=true then ∃N:St->Hp->Prop,(∀σ' H',N σ' H'->∃m',m'<m/\W m' σ' H')/\tb { D with nx:=N,ct:=N,bk:=D.nx } σ H1 else D.nx σ H1
theorem oP {c:Expr}{body:List Stmt}{tc:TT}{tb:TS}(hp:PassesOwn (model X.prog X.w) X.A X.env X.xe)(hc:PT X c tc)(hb:PSs X body tb):PS X (.While c body [] pos) (uZ tc tb):=by
 intro pins s σ H D I h
 obtain⟨W,⟨m0,w0⟩,turn⟩:=h
 refine wpAny_While (codeAny_whileLoop (λn s'=>∃σ' H',Inv X pins σ' H' s'/\W n σ' H') ?_ m0 ⟨σ,H,I,w0⟩)
 rintro n s1 ⟨σ1,H1,I1,w1⟩
 refine jy hp (thn (hc pins s1 σ1 H1 _ I1 (turn n σ1 H1 w1)) λb s2 ⟨H2,I2,q2⟩=>?_)
 cases b with
 |true=>
  obtain⟨N,hN,q2⟩:=q2
  rw[if_pos rfl]
  refine jy hp (thn (hb pins s2 σ1 H2 _ I2 q2) λf s3 q3=>?_)
  cases f with
  |next=>
   obtain⟨σ3,H3,I3,n3⟩:=q3
   obtain⟨m',hm,w3⟩:=hN σ3 H3 n3
   exact⟨m',hm,σ3,H3,I3,w3⟩
  |cont=>
   obtain⟨σ3,H3,I3,n3⟩:=q3
   obtain⟨m',hm,w3⟩:=hN σ3 H3 n3
   exact⟨m',hm,σ3,H3,I3,w3⟩
  |brk=>exact q3
  |ret v=>exact q3
 |false=>
  rw[if_neg cf]
  exact wk ⟨σ1,H2,I2,q2⟩
end
structure It where
 go:Nat->Hp->Prop
 yld:Nat->Hp->V->Hp->Prop
 stop:Nat->Hp->Prop
def FpOk (X:Cx) (pins:List (Addr×Obj)) (H:Hp) (b:Addr):Prop:=
 H b=none/\b≠X.env.locals/\b∉X.fs/\(b∈X.ex\/X.s₀.heap.objs.size<=b)/\(∀x c,X.env.cells.lookup x=some c->c≠b)/\∀p∈X.pn++pins,p.1≠b
theorem Inv.fpOk {X:Cx}{pins:List (Addr×Obj)}{σ:St}{H H':Hp}{s:Shared}{b:Addr}(I:Inv X pins σ H s)(hb:s.heap.objs.size<=b)(hn:H' b=none):FpOk X pins H' b:=by
 refine⟨hn,sr (c5 I.lt hb),I.nofs hb, .inr (bq I.sz hb),λx c e z=>?_,λp hp z=>?_⟩
 ·obtain⟨v,q⟩:=I.cell x c e
  exact absurd (c5 q.lt (by rw[z];exact hb)) (jo _)
 ·exact absurd (c5 (b7 (I.pin p hp).1) (by rw[z];exact hb)) (jo _)
structure aEG (P:Program)(w:World)(K:aa)(tg:Expr)(J:It)(fp:List Addr)(it:Addr)(tn:Nat->Heap->Prop):Prop where
 mem:it∈fp
 obj:∀i h,tn i h->∀b∈fp,∃o,h.get? b=some o/\∀v,o.data ≠ .cell v
 keep:∀i h h',tn i h->(∀b∈fp,∀o,h.get? b=some o->h'.get? b=some o)->tn i h'
 item:∀(X:Cx),X.prog=P->X.w=w->X.K=K->X.calm=true->∀(i:Nat) (pins:List (Addr×Obj)) (s:Shared) (σ:St) (H:Hp) (E:Value->Shared->Prop),Inv X pins σ H s->(∀b∈fp,FpOk X pins H b)->tn i s.heap->J.go i H ->
  wpAny (model P w) X.A (wm (.ref it)) (λr s1=>∃u,r=some u /\
   wpAny (model P w) X.A (rf tg (.ref it) u) (λ_ s2=>∃x H',Inv X pins σ H' s2/\RelV x u/\J.yld i H x H'/\tn (i+1) s2.heap/\∀b∈fp,H' b=none) E s1) E s
 done:∀(X:Cx),X.prog=P->X.w=w->X.K=K->X.calm=true->∀(i:Nat) (pins:List (Addr×Obj)) (s:Shared) (σ:St) (H:Hp) (E:Value->Shared->Prop),Inv X pins σ H s->(∀b∈fp,FpOk X pins H b)->tn i s.heap->J.stop i H ->
  wpAny (model P w) X.A (wm (.ref it)) (λr s1=>r=none/\Inv X pins σ H s1) E s
 self:∀(A:Around) (i:Nat) (s:Shared) (Q:Value->Shared->Prop) (E:Value->Shared->Prop),tn i s.heap->Q (.ref it) s->wpAny (model P w) A (Ah (.ref it)) Q E s
abbrev TI:=St->Hp->(It->Hp->Prop)->Prop
def PIE (X:Cx) (pins:List (Addr×Obj)) (σ:St) (tg:Expr) (R:It->Hp->Prop) (itv:Value) (s2:Shared):Prop:=
 ∃(it:Addr) (fp:List Addr) (tn:Nat->Heap->Prop) (J:It) (H':Hp),itv = .ref it/\Inv X pins σ H' s2/\aEG X.prog X.w X.K tg J fp it tn/\tn 0 s2.heap/\(∀b∈fp,FpOk X pins H' b)/\R J H'
def PI (X:Cx) (tg iter:Expr) (wi:TI):Prop:=
 ∀(pins:List (Addr×Obj)) (s:Shared) (σ:St) (H:Hp) (R:It->Hp->Prop),Inv X pins σ H s->wi σ H R ->
  wpAny (model X.prog X.w) X.A (eval iter X.env) (λv s1=>wpAny (model X.prog X.w) X.A (Ah v) (PIE X pins σ tg R) X.xe s1) X.xe s
theorem aEa {M : Model}{A : Around}{E : Value -> Shared -> Prop}{s : Shared}{tg : Expr}{it : Addr}{u : Value}{o : Obj}{n : String}{vs : Array Value}{Q : Unit -> Shared -> Prop} (ho : s.heap.get? it = some o) (hc : o.cls = .type n) (hd : o.data = .fields vs)
    (hn : ["enumerate", "zip", "dict_itemiterator", "dict_reverseitemiterator", "odict_iterator", "itertools.zip_longest", "itertools.pairwise"].contains n = false) (hQ : Q () s) : wpAny M A (rf tg (.ref it) u) Q E s := by
  unfold rf
  cases tg <;> first
    |exact ao hQ
    | (cases u <;> first
        |exact ao hQ
        | (refine af (wpAny_load ho ?_)
           rw[hc, hd]
           show wpAny M A (if(["enumerate", "zip", "dict_itemiterator", "dict_reverseitemiterator", "odict_iterator", "itertools.zip_longest", "itertools.pairwise"].contains n && vs[0]? == some (k7 _)) = true then _ else _) Q E s
           rw[if_neg (by intro h; rw[hn, Bool.false_and] at h; cases h)]
           exact ao hQ))
def Itl (K:aa) (a:Addr):It:=
 ⟨λi H=>∃xs x,SqL K H a xs/\xs[i]?=some x,λi H x H'=>H'=H/\∀xs,SqL K H a xs->xs[i]?=some x,λi H=>∃xs,SqL K H a xs/\xs.length<=i⟩
def Itt (K:aa) (a:Addr):It:=
 ⟨λi H=>∃xs x,SqT K H a xs/\xs[i]?=some x,λi H x H'=>H'=H/\∀xs,SqT K H a xs->xs[i]?=some x,λi H=>∃xs,SqT K H a xs/\xs.length<=i⟩
def Itr (lo:Int) (n:Nat):It:=⟨λi _=>i<n,λi H x H'=>H'=H/\x = .int (lo+i),λi _=>n<=i⟩
theorem aBc {P:Program}{w:World}{K:aa}{tg:Expr}(a it:Addr):aEG P w K tg (Itl K a) [it] it (λi h=>h.IsListIter it a i) where
 mem:=by simp
 obj:=λi h st b hb=>by
  have e:b=it:=by simpa using hb
  subst e
  obtain⟨o,e,c,d⟩:=st
  exact⟨o,e,λv z=>by rw[d] at z;cases z⟩
 keep:=λi h h' st k=>st.at λo e=>k it (by simp) o e
 item:=by
  intro X hP hw hK hc i pins s σ H E I hf st hg
  subst hP hw hK
  obtain⟨xs,x,hq,hx⟩:=hg
  obtain⟨its,rv,p,hz⟩:=I.list hq
  obtain⟨u,hu,ru⟩:=rv.get hx
  obtain⟨f0,f1,f2,f3,f4,f5⟩:=hf it (by simp)
  refine wpAny_pyNext_list_item st p.isList (x:=u) (by simpa using hu) λh' st' sb=>?_
  have I1:Inv X pins σ H { s with heap:=h' }:=I.turned (t':=s.toks) (λb o hb e=>(sb.2 b hb).trans e) f0 f1 f3 f4 f5
  obtain⟨o,e,c,d⟩:=id st'
  exact⟨u,rfl,aEa (s:={ s with heap:=h' }) e c d (by decide) ⟨x,H,I1,ru,⟨rfl,λys hy=>by rw[I.list_inj hy hq];exact hx⟩,st',λb hb=>(hf b hb).1⟩⟩
 done:=by
  intro X hP hw hK hc i pins s σ H E I hf st hg
  subst hP hw hK
  obtain⟨xs,hq,hx⟩:=hg
  obtain⟨its,rv,p,hz⟩:=I.list hq
  obtain⟨f0,f1,f2,f3,f4,f5⟩:=hf it (by simp)
  have hl:=rv.length
  exact wpAny_pyNext_list_end (I.ok.hd hc) st p.isList (by simp;omega) λh' eb=>⟨rfl,I.turned (t':=s.toks) (λb o hb e=>eb b o hb e) f0 f1 f3 f4 f5⟩
 self:=λ_ _ _ _ _ st h=>wpAny_pyIter_listiter st h
theorem xU {P:Program}{w:World}{K:aa}{tg:Expr}(a it:Addr):aEG P w K tg (Itt K a) [it] it (λi h=>h.IsTupleIter it a i) where
 mem:=by simp
 obj:=λi h st b hb=>by
  have e:b=it:=by simpa using hb
  subst e
  obtain⟨o,e,c,d⟩:=st
  exact⟨o,e,λv z=>by rw[d] at z;cases z⟩
 keep:=λi h h' st k=>st.at λo e=>k it (by simp) o e
 item:=by
  intro X hP hw hK hc i pins s σ H E I hf st hg
  subst hP hw hK
  obtain⟨xs,x,hq,hx⟩:=hg
  obtain⟨its,rv,p,hz⟩:=I.tuple hq
  obtain⟨u,hu,ru⟩:=rv.get hx
  obtain⟨f0,f1,f2,f3,f4,f5⟩:=hf it (by simp)
  refine u5 st (show s.heap.IsTuple a its.toArray from p) (x:=u) (by simpa using hu) λh' st' sb=>?_
  have I1:Inv X pins σ H { s with heap:=h' }:=I.turned (t':=s.toks) (λb o hb e=>(sb.2 b hb).trans e) f0 f1 f3 f4 f5
  obtain⟨o,e,c,d⟩:=id st'
  exact⟨u,rfl,aEa (s:={ s with heap:=h' }) e c d (by decide) ⟨x,H,I1,ru,⟨rfl,λys hy=>by rw[I.tuple_inj hy hq];exact hx⟩,st',λb hb=>(hf b hb).1⟩⟩
 done:=by
  intro X hP hw hK hc i pins s σ H E I hf st hg
  subst hP hw hK
  obtain⟨xs,hq,hx⟩:=hg
  obtain⟨its,rv,p,hz⟩:=I.tuple hq
  obtain⟨f0,f1,f2,f3,f4,f5⟩:=hf it (by simp)
  have hl:=rv.length
  exact v8 (I.ok.hd hc) st (show s.heap.IsTuple a its.toArray from p) (by simp;omega) λh' eb=>⟨rfl,I.turned (t':=s.toks) (λb o hb e=>eb b o hb e) f0 f1 f3 f4 f5⟩
 self:=λ_ _ _ _ _ st h=>v9 st h
theorem xW {P:Program}{w:World}{K:aa}{tg:Expr}(it:Addr)(lo:Int)(n:Nat):aEG P w K tg (Itr lo n) [it] it (λi h=>IsRangeIter h it (lo+(i:Nat)*1) ((n:Int) - (i:Nat)) 1) where
 mem:=by simp
 obj:=λi h st b hb=>by
  have e:b=it:=by simpa using hb
  subst e
  exact⟨_,st,λv z=>by
   have z':Data.fields _=Data.cell v:=z
   cases z'⟩
 keep:=λi h h' st k=>k it (by simp) _ st
 item:=by
  intro X hP hw hK hc i pins s σ H E I hf st hg
  subst hP hw hK
  obtain⟨f0,f1,f2,f3,f4,f5⟩:=hf it (by simp)
  have W:=Walks.range (prog:=X.prog) (w:=X.w) (I.ok.hd hc) it lo 1 n
  refine W.item i s _ _ hg st λv h' tk hv st' kk=>?_
  obtain⟨t,rfl⟩:=hv
  have I1:Inv X pins σ H { s with heap:=h',toks:=tk }:=I.turned (λb o hb e=>kk b o (by simpa using hb) e) f0 f1 f3 f4 f5
  refine⟨_,rfl,aEa (s:={ s with heap:=h',toks:=tk }) (n:="range_iterator") st' rfl rfl (by decide) ⟨.int (lo+i),H,I1,⟨t,?_⟩,⟨rfl,rfl⟩,st',λb hb=>(hf b hb).1⟩⟩
  rw[Int.mul_one]
 done:=by
  intro X hP hw hK hc i pins s σ H E I hf st hg
  subst hP hw hK
  obtain⟨f0,f1,f2,f3,f4,f5⟩:=hf it (by simp)
  exact wpAny_pyNext_range_end (I.ok.hd hc) st (by have:n<=i:=hg;omega) λh' eb=>⟨rfl,I.turned (t':=s.toks) (λb o hb e=>eb b o hb e) f0 f1 f3 f4 f5⟩
 self:=λ_ _ _ _ _ st h=>wpAny_pyIter_rangeiter st h
section
variable {X:Cx}{tg:Expr}
theorem wA {pins:List (Addr×Obj)}{σ:St}{H:Hp}{s:Shared}{R:It->Hp->Prop}{E:Value->Shared->Prop}{lo hi:Int}{t u v:Tok}{tk:Nat}(I:Inv X pins σ H s)(h1:-(2 ^ 62)<=lo)(h2:lo<2 ^ 62)(h3:-(2 ^ 62)<=hi)(h4:hi<2 ^ 62)
  (q:R (Itr lo (hi - lo).toNat) H):wpAny (model X.prog X.w) X.A (Ah (.ref s.heap.objs.size)) (PIE X pins σ tg R) E { s with heap:=s.heap.push { cls := .type "range",data := .fields #[.int lo t, .int hi u, .int 1 v] },toks:=tk }:=by
 refine wpAny_pyIter_range (IsRange.new ..) (small_one h1 h2 h3 h4) ?_
 have I1:Inv X pins σ H { s with heap:=s.heap.push { cls := .type "range",data := .fields #[.int lo t, .int hi u, .int 1 v] },toks:=tk }:=I.kept λb o e=>aq _ e
 refine⟨(s.heap.push { cls := .type "range",data := .fields #[.int lo t, .int hi u, .int 1 v] }).objs.size,[(s.heap.push { cls := .type "range",data := .fields #[.int lo t, .int hi u, .int 1 v] }).objs.size],_,_,H,rfl,
  I1.kept (t':=tk) λb o e=>aq _ e,xW _ lo (hi - lo).toNat,?_,λb hb=>?_,q⟩
 ·have e1:lo+((0:Nat):Int)*1=lo:=by simp
  have e2:(((hi - lo).toNat:Nat):Int) - ((0:Nat):Int)=Builtin.Range.rangeSize lo hi 1:=by rw[rangeSize_one];split <;> omega
  show IsRangeIter _ _ (lo+((0:Nat):Int)*1) ((((hi - lo).toNat:Nat):Int) - ((0:Nat):Int)) 1
  rw[e1,e2]
  exact br _ rfl
 ·have e:b=(s.heap.push { cls := .type "range",data := .fields #[.int lo t, .int hi u, .int 1 v] }).objs.size:=by simpa using hb
  subst e
  exact I1.fpOk (az _) (I1.hok.fresh (az _))
def kH (ta:TA):TI:=λσ H R=>ta σ H λvs H1=>∃j:Int,vs=[.int j]/\-(2 ^ 62)<=j/\j<2 ^ 62/\R (Itr 0 j.toNat) H1
def aEr (ta:TA):TI:=λσ H R=>ta σ H λvs H1=>∃i j:Int,vs=[.int i, .int j]/\(-(2 ^ 62)<=i/\i<2 ^ 62/\-(2 ^ 62)<=j/\j<2 ^ 62)/\R (Itr i (j - i).toNat) H1
theorem cP {a:Expr}{ta:TA}{p pos:Pos}(hg:Gl X "range")(hm:X.mg "range" = none)(ha:PA X [a] ta)(hs:ff [a] X.env=[(false,eval a X.env)]:=by rfl):PI X tg (.Call (.Name "range" p) [a] [] pos) (kH ta):=by
 intro pins s σ H R I h
 refine Call_ (sH I hg hm boot_range (k8 (thn (ha pos pins s σ H _ I h) λus s1 ⟨vs,H1,I1,r1,q1⟩=>?_) hs rfl))
 obtain⟨j,e,q1,q2,q⟩:=q1
 subst e
 cases r1 with
 |cons r rr=>
  cases rr
  obtain⟨t,rfl⟩:=r
  exact call_range_1 (wA I1 (by omega) (by omega) q1 q2 (by simpa using q))
theorem sG {a b:Expr}{ta:TA}{p pos:Pos}(hg:Gl X "range")(hm:X.mg "range" = none)(ha:PA X [a,b] ta)(hs:ff [a,b] X.env=[(false,eval a X.env),(false,eval b X.env)]:=by rfl)(hs2:ff [b] X.env=[(false,eval b X.env)]:=by rfl) :
  PI X tg (.Call (.Name "range" p) [a,b] [] pos) (aEr ta):=by
 intro pins s σ H R I h
 refine Call_ (sH I hg hm boot_range (k8 (thn (ha pos pins s σ H _ I h) λus s1 ⟨vs,H1,I1,r1,q1⟩=>?_) (by rw[hs,hs2]) (by rw[hs2];rfl)))
 obtain⟨i,j,e,⟨q1,q2,q3,q4⟩,q⟩:=q1
 subst e
 cases r1 with
 |cons r rr=>
  cases rr with
  |cons r' rr=>
   cases rr
   obtain⟨t,rfl⟩:=r
   obtain⟨t',rfl⟩:=r'
   exact call_range_2 (wA I1 q1 q2 q3 q4 q)
def hV (wi:TI) (g:TG) (tb:TS):TS:=λD σ H=>wi σ H λJ H1=>∃W:Nat->Nat->St->Hp->Prop,(∃m,W 0 m σ H1)/\∀i m σ H,W i m σ H ->
 (J.stop i H/\D.nx σ H)\/(J.go i H/\∃N:St->Hp->Prop,(∀σ' H',N σ' H'->∃m',m'<m/\W (i+1) m' σ' H')/\∀x H',J.yld i H x H'->g x σ H' λσ2 H2=>tb { D with nx:=N,ct:=N,bk:=D.nx } σ2 H2)
def sR (fp:List Addr) (h:Heap):List (Addr×Obj):=fp.filterMap λb=>(h.get? b).map λo=>(b,o)
theorem gH {fp:List Addr}{h:Heap}{b:Addr}{o:Obj}(hb:b∈fp)(e:h.get? b=some o):(b,o)∈sR fp h:=ky.mpr ⟨b,hb,by rw[e];rfl⟩
theorem aAO {fp:List Addr}{h:Heap}{p:Addr×Obj}(hp:p∈sR fp h):p.1∈fp/\h.get? p.1=some p.2:=by
 obtain⟨b,hb,e⟩:=ky.mp hp
 cases q:h.get? b with
 |none=>rw[q] at e;cases e
 |some o=>
  rw[q] at e
  have e':(b,o)=p:=bu e
  subst e'
  exact⟨hb,q⟩
theorem Inv.pinned {pins:List (Addr×Obj)}{σ:St}{H:Hp}{s:Shared}{fp:List Addr}(I:Inv X pins σ H s)(hf:∀b∈fp,FpOk X pins H b)(ho:∀b∈fp,∃o,s.heap.get? b=some o/\∀v,o.data ≠ .cell v):Inv X (pins++sR fp s.heap) σ H s:=
 I.pins_of λp hp=>(bo.mp hp).elim (λz=>I.pin p (cm _ z)) λz=>by
  obtain⟨hb,e⟩:=aAO z
  obtain⟨f0,f1,f2,_⟩:=hf p.1 hb
  obtain⟨o,e',d⟩:=ho p.1 hb
  rw[e] at e';cases e'
  exact⟨e,f0,f1,f2,d⟩
theorem Inv.unpinned {pins pl:List (Addr×Obj)}{σ:St}{H:Hp}{s:Shared}(I:Inv X (pins++pl) σ H s):Inv X pins σ H s:=I.pins_of λp hp=>I.pin p (cm _ (da _ hp))
theorem cO {iter:Expr}{body:List Stmt}{wi:TI}{g:TG}{tb:TS}{pos:Pos}(hp:PassesOwn (model X.prog X.w) X.A X.env X.xe)(hc:X.calm=true)(hi:PI X tg iter wi)(hg:PG X tg g)(hb:PSs X body tb)
  (hs:∀x,mf iter X.env x=pure x:=by intro _;rfl):PS X (.For tg iter body [] pos) (hV wi g tb):=by
 intro pins s σ H D I h
 refine wpAny_For (thn (hi pins s σ H _ I h) λv s1 h1=>thn h1 λitv s2 h2=>?_) hs
 obtain⟨it,fp,tn,J,H2,e,I2,T,st2,f2,W,⟨m0,w0⟩,turn⟩:=h2
 subst e
 have stat:∀{H':Hp},(∀b∈fp,H' b=none)->∀b∈fp,FpOk X pins H' b:=λhn b hb=>⟨hn b hb,(f2 b hb).2⟩
 refine codeAny_forLoop_any (λn s'=>∃i σ' H',Inv X pins σ' H' s'/\tn i s'.heap/\(∀b∈fp,H' b=none)/\W i n σ' H') ?_ m0 ⟨0,σ,H2,I2,st2,λb hb=>(f2 b hb).1,w0⟩
 rintro n s3 ⟨i,σ3,H3,I3,st3,fr3,w3⟩
 rcases turn i n σ3 H3 w3 with⟨stop,qn⟩ | ⟨go,N,hN,step⟩
 ·refine jy hp (thn (T.done X rfl rfl rfl hc i pins s3 σ3 H3 X.xe I3 (stat fr3) st3 stop) λr s4 ⟨hr,I4⟩=>?_)
  subst hr
  exact wk ⟨σ3,H3,I4,qn⟩
 ·refine jy hp (thn (T.item X rfl rfl rfl hc i pins s3 σ3 H3 X.xe I3 (stat fr3) st3 go) λr s4 ⟨u,hr,h4⟩=>?_)
  subst hr
  refine jy hp (thn h4 λ_ s5 ⟨x,H5,I5,r5,y5,st5,fr5⟩=>?_)
  have I5':=I5.pinned (stat fr5) (T.obj _ _ st5)
  refine jy hp (thn (hg _ s5 σ3 H5 x u _ I5' r5 (step x H5 y5)) λ_ s6 ⟨σ6,H6,I6,q6⟩=>?_)
  refine jy hp (thn (hb _ s6 σ6 H6 _ I6 q6) λf s7 q7=>?_)
  have again:∀{σ7:St}{H7:Hp},Inv X (pins++sR fp s5.heap) σ7 H7 s7->N σ7 H7->∃m,m<n/\∃i σ' H',Inv X pins σ' H' s7/\tn i s7.heap/\(∀b∈fp,H' b=none)/\W i m σ' H':=λ{σ7 H7} I7 n7=>by
   obtain⟨m',hm,w7⟩:=hN σ7 H7 n7
   refine⟨m',hm,i+1,σ7,H7,I7.unpinned,T.keep _ _ _ st5 λb hb o e=>(I7.pin (b,o) (cm _ (cm _ (gH hb e)))).1,λb hb=>?_,w7⟩
   obtain⟨o,e,d⟩:=T.obj _ _ st5 b hb
   exact(I7.pin (b,o) (cm _ (cm _ (gH hb e)))).2.1
  cases f with
  |next=>obtain⟨σ7,H7,I7,n7⟩:=q7;exact again I7 n7
  |cont=>obtain⟨σ7,H7,I7,n7⟩:=q7;exact again I7 n7
  |brk=>obtain⟨σ7,H7,I7,q7⟩:=q7;exact⟨σ7,H7,I7.unpinned,q7⟩
  |ret v=>obtain⟨x7,σ7,H7,I7,r7,q7⟩:=q7;exact⟨x7,σ7,H7,I7.unpinned,r7,q7⟩
end
theorem bW {K:aa}{a:Addr}{xs:List V}{g:TG}{tb:TS}{D:jG}{σ:St}{H:Hp}(Pv:Nat->St->Hp->Prop)(h0:Pv 0 σ H)(hl:∀i σ H,i<=xs.length->Pv i σ H->SqL K H a xs)
  (hs:∀i x σ H,xs[i]?=some x->Pv i σ H->g x σ H λσ2 H2=>tb { D with nx:=Pv (i+1),ct:=Pv (i+1),bk:=D.nx } σ2 H2) (hd:∀σ H,Pv xs.length σ H->D.nx σ H) :
  ∃W:Nat->Nat->St->Hp->Prop,(∃m,W 0 m σ H)/\∀i m σ H,W i m σ H ->
   ((Itl K a).stop i H/\D.nx σ H)\/((Itl K a).go i H/\∃N:St->Hp->Prop,(∀σ' H',N σ' H'->∃m',m'<m/\W (i+1) m' σ' H')/\∀x H',(Itl K a).yld i H x H'->g x σ H' λσ2 H2=>tb { D with nx:=N,ct:=N,bk:=D.nx } σ2 H2):=by
 refine⟨λi m σ H=>m=xs.length - i/\i<=xs.length/\Pv i σ H,⟨xs.length,by simp,bc _,h0⟩,?_⟩
 rintro i m σ H ⟨rfl,hi,p⟩
 have q:=hl i σ H hi p
 by_cases hlt:i<xs.length
 ·refine .inr ⟨⟨xs,xs[i],q,by simp[hlt]⟩,Pv (i+1),λσ' H' p'=>⟨xs.length - (i+1),by omega,rfl,hlt,p'⟩,λx H' y=>?_⟩
  obtain⟨e,y⟩:=y
  subst e
  exact hs i x σ _ (y xs q) p
 ·have e:i=xs.length:=by omega
  subst e
  exact .inl ⟨⟨xs,q,az _⟩,hd σ H p⟩
theorem aAC {K:aa}{a:Addr}{xs:List V}{g:TG}{tb:TS}{D:jG}{σ:St}{H:Hp}(Pv:Nat->St->Hp->Prop)(h0:Pv 0 σ H)(hl:∀i σ H,i<=xs.length->Pv i σ H->SqT K H a xs)
  (hs:∀i x σ H,xs[i]?=some x->Pv i σ H->g x σ H λσ2 H2=>tb { D with nx:=Pv (i+1),ct:=Pv (i+1),bk:=D.nx } σ2 H2) (hd:∀σ H,Pv xs.length σ H->D.nx σ H) :
  ∃W:Nat->Nat->St->Hp->Prop,(∃m,W 0 m σ H)/\∀i m σ H,W i m σ H ->
   ((Itt K a).stop i H/\D.nx σ H)\/((Itt K a).go i H/\∃N:St->Hp->Prop,(∀σ' H',N σ' H'->∃m',m'<m/\W (i+1) m' σ' H')/\∀x H',(Itt K a).yld i H x H'->g x σ H' λσ2 H2=>tb { D with nx:=N,ct:=N,bk:=D.nx } σ2 H2):=by
 refine⟨λi m σ H=>m=xs.length - i/\i<=xs.length/\Pv i σ H,⟨xs.length,by simp,bc _,h0⟩,?_⟩
 rintro i m σ H ⟨rfl,hi,p⟩
 have q:=hl i σ H hi p
 by_cases hlt:i<xs.length
 ·refine .inr ⟨⟨xs,xs[i],q,by simp[hlt]⟩,Pv (i+1),λσ' H' p'=>⟨xs.length - (i+1),by omega,rfl,hlt,p'⟩,λx H' y=>?_⟩
  obtain⟨e,y⟩:=y
  subst e
  exact hs i x σ _ (y xs q) p
 ·have e:i=xs.length:=by omega
  subst e
  exact .inl ⟨⟨xs,q,az _⟩,hd σ H p⟩
theorem cI {lo:Int}{n:Nat}{g:TG}{tb:TS}{D:jG}{σ:St}{H:Hp}(Pv:Nat->St->Hp->Prop)(h0:Pv 0 σ H)
  (hs:∀i σ H,i<n->Pv i σ H->g (.int (lo+i)) σ H λσ2 H2=>tb { D with nx:=Pv (i+1),ct:=Pv (i+1),bk:=D.nx } σ2 H2) (hd:∀σ H,Pv n σ H->D.nx σ H) :
  ∃W:Nat->Nat->St->Hp->Prop,(∃m,W 0 m σ H)/\∀i m σ H,W i m σ H ->
   ((Itr lo n).stop i H/\D.nx σ H)\/((Itr lo n).go i H/\∃N:St->Hp->Prop,(∀σ' H',N σ' H'->∃m',m'<m/\W (i+1) m' σ' H')/\∀x H',(Itr lo n).yld i H x H'->g x σ H' λσ2 H2=>tb { D with nx:=N,ct:=N,bk:=D.nx } σ2 H2):=by
 refine⟨λi m σ H=>m=n - i/\i<=n/\Pv i σ H,⟨n,by simp,bc _,h0⟩,?_⟩
 rintro i m σ H ⟨rfl,hi,p⟩
 by_cases hlt:i<n
 ·refine .inr ⟨hlt,Pv (i+1),λσ' H' p'=>⟨n - (i+1),by omega,rfl,hlt,p'⟩,λx H' y=>?_⟩
  obtain⟨e,y⟩:=y
  subst e y
  exact hs i σ _ hlt p
 ·have e:i=n:=by omega
  subst e
  exact .inl ⟨az _,hd σ H p⟩
abbrev R2:=V->V->Hp->VK->Prop
def OpR (X:Cx) (f:Value->Value->Sem Value) (r:R2):Prop:=
 ∀(pins:List (Addr×Obj)) (s:Shared) (σ:St) (H:Hp) (x y:V) (v u:Value) (Q:VK),Inv X pins σ H s->RelV x v->RelV y u->r x y H Q ->
  wpAny (model X.prog X.w) X.A (f v u) (EP X pins σ Q) X.xe s
def UnR (X:Cx) (f:Value->Sem Value) (r:V->Hp->VK->Prop):Prop:=
 ∀(pins:List (Addr×Obj)) (s:Shared) (σ:St) (H:Hp) (x:V) (v:Value) (Q:VK),Inv X pins σ H s->RelV x v->r x H Q ->
  wpAny (model X.prog X.w) X.A (f v) (EP X pins σ Q) X.xe s
def CallR (X:Cx) (f:Value) (r:List V->Hp->VK->Prop):Prop:=
 ∀(pins:List (Addr×Obj)) (s:Shared) (σ:St) (H:Hp) (xs:List V) (us:List Value) (Q:VK),Inv X pins σ H s->Vals xs us->r xs H Q ->
  wpAny (model X.prog X.w) X.A (call f us) (EP X pins σ Q) X.xe s
def aIs (X:Cx) (r:V->Hp->(Bool->Hp->Prop)->Prop):Prop:=
 ∀(pins:List (Addr×Obj)) (s:Shared) (σ:St) (H:Hp) (x:V) (v:Value) (Q:Bool->Hp->Prop),Inv X pins σ H s->RelV x v->r x H Q ->
  wpAny (model X.prog X.w) X.A (truthy v) (TP X pins σ Q) X.xe s
def tOp (r:R2) (ta tb:TE):TE:=λσ H Q=>ta σ H λx H1=>tb σ H1 λy H2=>r x y H2 Q
def tUn (r:V->Hp->VK->Prop) (ta:TE):TE:=λσ H Q=>ta σ H λx H1=>r x H1 Q
def rI (C:Int->Int->Prop) (g:Int->Int->V):R2:=λx y H Q=>∃i j,x = .int i/\y = .int j/\C i j/\Q (g i j) H
inductive aHL (g:Int->Int->V) (x y:V) (H:Hp) (Q:VK):Prop
 |mk (i j:Int) (hx:x = .int i) (hy:y = .int j) (q:Q (g i j) H):aHL g x y H Q
def rI0 (g:Int->Int->V):R2:=λx y H Q=>aHL g x y H Q
def rU (g:Int->V):V->Hp->VK->Prop:=λx H Q=>∃i,x = .int i/\Q (g i) H
section
variable {X:Cx}{a b c:Expr}{ta tb tc:TE}{pos:Pos}
theorem aGZ (ha:PE X a ta)(hb:PE X b tb){pins:List (Addr×Obj)}{s:Shared}{σ:St}{H:Hp}{R:V->V->Hp->Prop}(I:Inv X pins σ H s)
  (h:ta σ H λx H1=>tb σ H1 λy H2=>R x y H2) {Q:Value->Shared->Prop}{f:Value->Value->Sem Value}
  (hf:∀v u s2 x y H2,Inv X pins σ H2 s2->RelV x v->RelV y u->R x y H2->wpAny (model X.prog X.w) X.A (f v u) Q X.xe s2) :
  wpAny (model X.prog X.w) X.A (eval a X.env) (λv s₁=>wpAny (model X.prog X.w) X.A (eval b X.env) (λu s₂=>wpAny (model X.prog X.w) X.A (f v u) Q X.xe s₂) X.xe s₁) X.xe s:=by
 refine thn (ha pins s σ H _ I h) λv s1 ⟨x,H1,I1,r1,q1⟩=>?_
 refine thn (hb pins s1 σ H1 _ I1 q1) λu s2 ⟨y,H2,I2,r2,q2⟩=>?_
 exact hf v u s2 x y H2 I2 r1 r2 q2
theorem bB {op:Operator}{r:R2}(ho:OpR X (jv op) r)(ha:PE X a ta)(hb:PE X b tb):PE X (.BinOp a op b pos) (tOp r ta tb):=by
 intro pins s σ H Q I h
 exact wpAny_BinOp (aGZ ha hb I h λv u s2 x y H2 I2 rx ry q=>ho pins s2 σ H2 x y v u Q I2 rx ry q)
theorem aDA {op:UnaryOp}{r:V->Hp->VK->Prop}(ho:UnR X (unaryOp op) r)(ha:PE X a ta):PE X (.UnaryOp op a pos) (tUn r ta):=by
 intro pins s σ H Q I h
 exact UnaryOp_ (thn (ha pins s σ H _ I h) λv s1 ⟨x,H1,I1,r1,q1⟩=>ho pins s1 σ H1 x v Q I1 r1 q1)
theorem opI {f:Value->Value->Sem Value}{C:Int->Int->Prop}{g:Int->Int->Int}
  (rule:∀(i j:Int) (t u:Tok) (s:Shared) (Q:Value->Shared->Prop) (E:Value->Shared->Prop),C i j->Q (.int (g i j) s.toks) { s with toks:=s.toks+1 }->wpAny (model X.prog X.w) X.A (f (.int i t) (.int j u)) Q E s) :
  OpR X f (rI C λi j => .int (g i j)):=by
 intro pins s σ H x y v u Q I rx ry h
 obtain⟨i,j,rfl,rfl,hc,q⟩:=h
 obtain⟨t,rfl⟩:=rx
 obtain⟨t',rfl⟩:=ry
 exact rule i j t t' s _ _ hc ⟨.int (g i j),H,I.tok _,⟨_,rfl⟩,q⟩
theorem aHC {f:Value->Value->Sem Value}{g:Int->Int->Int}
  (rule:∀(i j:Int) (t u:Tok) (s:Shared) (Q:Value->Shared->Prop) (E:Value->Shared->Prop),Q (.int (g i j) s.toks) { s with toks:=s.toks+1 }->wpAny (model X.prog X.w) X.A (f (.int i t) (.int j u)) Q E s) :
  OpR X f (rI0 λi j => .int (g i j)):=by
 intro pins s σ H x y v u Q I rx ry h
 obtain⟨i,j,rfl,rfl,q⟩:=h
 obtain⟨t,rfl⟩:=rx
 obtain⟨t',rfl⟩:=ry
 exact rule i j t t' s _ _ ⟨.int (g i j),H,I.tok _,⟨_,rfl⟩,q⟩
theorem aGv {f:Value->Value->Sem Value}{g:Int->Int->Bool}
  (rule:∀(i j:Int) (t u:Tok) (s:Shared) (Q:Value->Shared->Prop) (E:Value->Shared->Prop),Q (.bool (g i j)) s->wpAny (model X.prog X.w) X.A (f (.int i t) (.int j u)) Q E s) :
  OpR X f (rI0 λi j => .bl (g i j)):=by
 intro pins s σ H x y v u Q I rx ry h
 obtain⟨i,j,rfl,rfl,q⟩:=h
 obtain⟨t,rfl⟩:=rx
 obtain⟨t',rfl⟩:=ry
 exact rule i j t t' s _ _ ⟨.bl (g i j),H,I,rfl,q⟩
def aHM (i j:Int):Prop:=0<=j/\j<=1000000/\i.natAbs<2 ^ 64
def CMul (i j:Int):Prop:=(-(2 ^ 64)<i/\i<2 ^ 64)\/(-(2 ^ 64)<j/\j<2 ^ 64)
theorem CMul.ok {i j:Int}(h:CMul i j):IntMulOk i j:=by
 rcases h with⟨h1,h2⟩ | ⟨h1,h2⟩
 ·exact .of_left (intBits_le_64 h1 h2)
 ·exact .of_right (intBits_le_64 h1 h2)
theorem aEN:OpR X (jv .Add) (rI0 λi j => .int (i+j)):=aHC λ_ _ _ _ _ _ _ q=>add_int q
theorem lM:OpR X (jv .Sub) (rI0 λi j => .int (i - j)):=aHC λ_ _ _ _ _ _ _ q=>sub_int q
theorem aFj:OpR X (jv .Mult) (rI CMul λi j => .int (i*j)):=opI λ_ _ _ _ _ _ _ hc q=>mul_int q hc.ok
theorem kB:OpR X (jv .Mod) (rI (λ_ j=>0<j) λi j => .int (i % j)):=opI λi j _ _ _ _ _ hc q=>by
 have h1:(0:Int)<j:=hc
 exact mod_int' (by omega) (by rw[Int.fmod_eq_emod_of_nonneg i (by omega)];exact q)
theorem aCL:OpR X (jv .Pow) (rI aHM λi j => .int (i ^ j.toNat)):=opI λ_ _ _ _ _ _ _ hc q=>pow_int_small hc.1 hc.2.1 hc.2.2 q
theorem unI {f:Value->Sem Value}{g:Int->Int}
  (rule:∀(i:Int) (t:Tok) (s:Shared) (Q:Value->Shared->Prop) (E:Value->Shared->Prop),Q (.int (g i) s.toks) { s with toks:=s.toks+1 }->wpAny (model X.prog X.w) X.A (f (.int i t)) Q E s) :
  UnR X f (rU λi => .int (g i)):=by
 intro pins s σ H x v Q I rx h
 obtain⟨i,rfl,q⟩:=h
 obtain⟨t,rfl⟩:=rx
 exact rule i t s _ _ ⟨.int (g i),H,I.tok _,⟨_,rfl⟩,q⟩
theorem aBb:UnR X (unaryOp .USub) (rU λi => .int (-i)):=unI λ_ _ _ _ _ q=>neg_int q
end
section
variable {X:Cx}{a b c:Expr}{ta tb tc:TE}{pos:Pos}
theorem wW:OpR X (fi .Lt) (rI0 λi j => .bl (decide (i<j))):=aGv λ_ _ _ _ _ _ _ q=>lt_int q
theorem aFv:OpR X (fi .LtE) (rI0 λi j => .bl (decide (i<=j))):=aGv λ_ _ _ _ _ _ _ q=>le_int q
theorem aBW:OpR X (fi .Gt) (rI0 λi j => .bl (decide (j<i))):=aGv λ_ _ _ _ _ _ _ q=>gt_int q
theorem aGP:OpR X (fi .GtE) (rI0 λi j => .bl (decide (j<=i))):=aGv λ_ _ _ _ _ _ _ q=>ge_int q
theorem OpR.or {f:Value->Value->Sem Value}{r r':R2}(h:OpR X f r)(h':OpR X f r'):OpR X f (λx y H Q=>r x y H Q\/r' x y H Q):=by
 intro pins s σ H x y v u Q I rx ry q
 rcases q with q | q
 ·exact h pins s σ H x y v u Q I rx ry q
 ·exact h' pins s σ H x y v u Q I rx ry q
theorem bV (b:Expr){op:CmpOp}(h:op ≠ .In:=by decide)(h2:op ≠ .NotIn:=by decide):qw op b=false:=by
 have e1:(op == CmpOp.In)=false:=by cases op <;> first | rfl | exact absurd rfl h
 have e2:(op == CmpOp.NotIn)=false:=by cases op <;> first | rfl | exact absurd rfl h2
 cases b <;> simp[qw,e1,e2]
theorem fT {op:CmpOp}{r:R2}(ho:OpR X (fi op) r)(ha:PE X a ta)(hb:PE X b tb)(hm:qw op b=false):PE X (.Compare a [op] [b] pos) (tOp r ta tb):=by
 intro pins s σ H Q I h
 exact wpAny_Compare1 (aGZ ha hb I h λv u s2 x y H2 I2 rx ry q=>ho pins s2 σ H2 x y v u Q I2 rx ry q) hm
inductive TBP (x:V) (H:Hp) (Q:Bool->Hp->Prop):Prop
 |mk (k:Bool) (e:x = .bl k) (q:Q k H):TBP x H Q
def bU (t:TE):TT:=λσ H Q=>t σ H λx H'=>TBP x H' Q
theorem bP {op:CmpOp}{r:R2}(ho:OpR X (fi op) r)(ha:PE X a ta)(hb:PE X b tb)(hm:qw op b=false):PT X (.Compare a [op] [b] pos) (bU (tOp r ta tb)):=by
 intro pins s σ H Q I h
 refine wg (thn (ha pins s σ H _ I h) λv s1 ⟨x,H1,I1,r1,q1⟩=>thn (hb pins s1 σ H1 _ I1 q1) λu s2 ⟨y,H2,I2,r2,q2⟩=>
  thn (ho pins s2 σ H2 x y v u _ I2 r1 r2 q2) λc s3 ⟨z,H3,I3,r3,k,e,q3⟩=>?_) hm
 subst e
 cases r3
 exact f9 ⟨H3,I3,q3⟩
def aHq (K:aa) (x:V) (H:Hp) (k:Bool):Prop:=
 match x with
 | .non=>k=false
 | .bl b=>k=b
 | .int i=>k=(i != 0)
 | .str y=>y.length<=b8/\k=((y.length:Int) != 0)
 | .byt y=>y.size<=b8/\k=((y.size:Int) != 0)
 | .ref p=>(∃xs,SqL K H p xs/\k = !xs.isEmpty)\/(∃xs,SqT K H p xs/\k = !xs.isEmpty)\/∃kvs,H p=some (.dK kvs)/\k = !kvs.isEmpty
 |_=>False
theorem wX {κ:Type}{kvs:List (κ×V)}{vs:List (κ×Value)}(r:KV kvs vs):(!vs.isEmpty) = !kvs.isEmpty:=by
 cases r <;> rfl
theorem nS {xs:List V}{its:List Value}(r:Vals xs its):(!its.toArray.isEmpty) = !xs.isEmpty:=by
 cases r <;> simp
theorem rD:(b8:Nat)<2 ^ 63:=by rw[jt];decide
theorem aFp:aIs X (λx H Q=>∃k,aHq X.K x H k/\Q k H):=by
 intro pins s σ H x v Q I rx h
 obtain⟨k,e,q⟩:=h
 have hl:=rD
 have hs:b8=16777216:=jt
 cases x with
 |non=>
  cases rx
  have e':k=false:=e
  subst e'
  exact truthy_none ⟨H,I,q⟩
 |bl b=>
  cases rx
  have e':k=b:=e
  subst e'
  exact f9 ⟨H,I,q⟩
 |int i=>
  obtain⟨t,rfl⟩:=rx
  have e':k=(i != 0):=e
  subst e'
  exact PySem.P.truthy_int ⟨H,I,q⟩
 |str y=>
  obtain⟨t,rfl⟩:=rx
  obtain⟨hy,e'⟩:y.length<=b8/\k=((y.length:Int) != 0):=e
  subst e'
  exact PySem.P.truthy_str (by omega) ⟨H,I.tok _,q⟩
 |byt y=>
  obtain⟨t,rfl⟩:=rx
  obtain⟨hy,e'⟩:y.size<=b8/\k=((y.size:Int) != 0):=e
  subst e'
  exact PySem.W.truthy_bytes (by omega) ⟨H,I.tok _,q⟩
 |ref p=>
  cases rx
  have e':(∃xs,SqL X.K H p xs/\k = !xs.isEmpty)\/(∃xs,SqT X.K H p xs/\k = !xs.isEmpty)\/∃kvs,H p=some (.dK kvs)/\k = !kvs.isEmpty:=e
  rcases e' with⟨xs,hx,e'⟩ | ⟨xs,hx,e'⟩ | ⟨kvs,hx,e'⟩
  ·subst e'
   obtain⟨its,r,pl,hz⟩:=I.list hx
   have hlen:=r.length
   exact wpAny_truthy_list pl.isList (by simp only[aw];omega) ⟨H,I.tok _,by rw[nS r];exact q⟩
  ·subst e'
   obtain⟨its,r,pl,hz⟩:=I.tuple hx
   have hlen:=r.length
   exact truthy_tuple pl (by simp only[aw];omega) ⟨H,I.tok _,by rw[nS r];exact q⟩
  ·subst e'
   obtain⟨hz,hS,vs,r,m⟩:kvs.length<=b8/\(p == jj)=false/\∃vs,KV kvs vs/\s.heap.DictOf (cM X.prog X.w) p vs:=I.hok p _ hx
   have hlen:kvs.length=vs.length:=u3 r
   exact wpAny_truthy_dict hS m (by omega) ⟨H,I.tok _,by rw[wX r];exact q⟩
 |_=>exact(show False from e).elim
theorem aBZ (ha:PE X a ta)(he:∀whole,isTrue a X.env whole=(do let v <- whole;yn a.pos;wj [v] (truthy v))) :
  PT X a (λσ H Q=>ta σ H λx H'=>∃k,aHq X.K x H' k/\Q k H'):=by
 intro pins s σ H Q I h
 exact isTrue_plain (thn (ha pins s σ H _ I h) λv s1 ⟨x,H1,I1,r1,q1⟩=>aFp pins s1 σ H1 x v Q I1 r1 q1) (he _)
theorem xX:OpR X (jv .Add) (λx y H Q=>∃i j,x = .str i/\y = .str j/\i.length+j.length<=b8/\Q (.str (i++j)) H):=by
 intro pins s σ H x y v u Q I rx ry h
 obtain⟨i,j,rfl,rfl,hz,q⟩:=h
 obtain⟨t,rfl⟩:=rx
 obtain⟨t',rfl⟩:=ry
 exact add_str (λt' tk=>⟨.str (i++j),H,I.tok _,⟨_,rfl⟩,q⟩) hz
theorem pP {x:V}{us:List Value}(r:Vals [x] us):∃u,us=[u]/\RelV x u:=by
 cases r with
 |cons r1 r2=>cases r2;exact⟨_,rfl,r1⟩
theorem aGi {x y:V}{us:List Value}(r:Vals [x,y] us):∃u w',us=[u,w']/\RelV x u/\RelV y w':=by
 cases r with
 |cons r1 r2=>
  cases r2 with
  |cons r3 r4=>cases r4;exact⟨_,_,rfl,r1,r3⟩
theorem aBG:CallR X (.builtin "abs") (λxs H Q=>∃i,xs=[.int i]/\Q (.int (if i<0 then -i else i)) H):=by
 intro pins s σ H xs us Q I r h
 obtain⟨i,rfl,q⟩:=h
 obtain⟨u,rfl,t,rfl⟩:=pP r
 exact call_abs_int λu tk=>⟨.int (if i<0 then -i else i),H,I.tok _,⟨_,rfl⟩,q⟩
theorem zK (hc:X.calm=true):CallR X (.builtin "max") (λxs H Q=>∃i j,xs=[.int i, .int j]/\Q (.int (if j > i then j else i)) H):=by
 intro pins s σ H xs us Q I r h
 obtain⟨i,j,rfl,q⟩:=h
 obtain⟨u,w',rfl,⟨t,rfl⟩,⟨t',rfl⟩⟩:=aGi r
 refine max_two_ints (I.ok.hd hc) λh' tk k=>⟨_,H,I.kept k,?_,q⟩
 by_cases hj:j > i
 ·rw[if_pos hj,if_pos hj];exact⟨_,rfl⟩
 ·rw[if_neg hj,if_neg hj];exact⟨_,rfl⟩
theorem yL (hc:X.calm=true):CallR X (.builtin "min") (λxs H Q=>∃i j,xs=[.int i, .int j]/\Q (.int (if j<i then j else i)) H):=by
 intro pins s σ H xs us Q I r h
 obtain⟨i,j,rfl,q⟩:=h
 obtain⟨u,w',rfl,⟨t,rfl⟩,⟨t',rfl⟩⟩:=aGi r
 refine min_two_ints (I.ok.hd hc) λh' tk k=>⟨_,H,I.kept k,?_,q⟩
 by_cases hj:j<i
 ·rw[if_pos hj,if_pos hj];exact⟨_,rfl⟩
 ·rw[if_neg hj,if_neg hj];exact⟨_,rfl⟩
end
section
variable {prog:Program}{w:World}{A:Around}{E:Value->Shared->Prop}{s:Shared}{K:aa}{x dx C f:Addr}{mA:Str->Option Value}{name:Str}{v:Value}
end
theorem RelO.some_of {v:V}{o:Option Value}(r:RelO (some v) o):∃u,o=some u/\RelV v u:=by
 cases o with
 |none=>exact(show False from r).elim
 |some u=>exact⟨u,rfl,r⟩
section
variable {P:Program}{w:World}{H H':Hp}{h h':Heap}{a C dx:Addr}{fs fs':List (Str×V)}
end
section
variable {X:Cx}{pins:List (Addr×Obj)}{σ:St}{H:Hp}{s:Shared}{a C dx:Addr}{fs:List (Str×V)}{f:Str}{v:V}{A:Around}{E:Value->Shared->Prop}
end
section
variable {X:Cx}{o e value:Expr}{f:Str}{pos pos' tpos:Pos}{ta tv:TE}
end
section
variable {X:Cx}{pins:List (Addr×Obj)}{σ:St}{H:Hp}{s:Shared}{A:Around}{E:Value->Shared->Prop}{Q:Value->Shared->Prop}{c:Value}{b:Bool}
end
structure Room (k:Nat)(A:Around):Prop where
 hd:A.handled=none
 dp:A.depth+3*k+5<recursionLimit
 un:A.units+16*k+200<cLine
 gd:A.guards=some []
theorem Room.mono {j k:Nat}{A:Around}(r:Room k A)(h:j<=k):Room j A:=⟨r.hd,by have:=r.dp;omega,by have:=r.un;omega,r.gd⟩
theorem Room.deeper {k:Nat}{A:Around}(r:Room (k+1) A)(env:Env):Room k (A.deeper env):=
 ⟨r.hd,by have:=r.dp;show A.depth+1+3*k+5<_;omega,by have:=r.un;show A.units+3+16*k+200<_;omega,r.gd⟩
theorem Room.depth {k:Nat}{A:Around}(r:Room k A):A.depth<recursionLimit:=by have:=r.dp;omega
theorem Room.units {k:Nat}{A:Around}(r:Room k A):A.units+64<cLine:=by have:=r.un;omega
def aO:TA:=λ_ H Q=>Q [] H
def aB (ta:TE) (tr:TA):TA:=λσ H Q=>ta σ H λx H1=>tr σ H1 λxs H2=>Q (x :: xs) H2
section
variable {X:Cx}{e:Expr}{es:List Expr}{te:TE}{t:TA}{pos:Pos}
theorem aE:PA X [] aO:=λ_ _ _ _ H Q I h=>Calls.spliced_nil ⟨[],H,I, .nil,h⟩
theorem cD (ha:PE X e te)(hr:PA X es t)(hs:ff (e :: es) X.env=(false,eval e X.env) :: ff es X.env:=by rfl):PA X (e :: es) (aB te t):=by
 intro pos pins s σ H Q I h
 rw[hs]
 show wpAny _ _ (spliced ((false,eval e X.env) :: vo pos (ff es X.env))) _ _ s
 refine Calls.spliced_cons (thn (ha pins s σ H _ I h) λu s1 ⟨x,H1,I1,r1,q1⟩=>?_)
 exact thn (hr pos pins s1 σ H1 _ I1 q1) λus s2 ⟨xs,H2,I2,r2,q2⟩=>⟨x :: xs,H2,I2, .cons r1 r2,q2⟩
def eK (t:TA):TE:=λσ H Q=>t σ H λxs H1=>xs.length<=b8/\∀p,H1 p=none->Q (.ref p) (upd H1 p (.tup xs))
def eU (t:TA):TE:=λσ H Q=>t σ H λxs H1=>xs.length<=b8/\∀p,H1 p=none->Q (.ref p) (upd H1 p (.lst xs))
theorem cG {x1}(h:PA X es t):PE X (.Tuple es x1 pos) (eK t):=by
 intro pins s σ H Q I hq
 refine wpAny_Tuple_spliced (thn (h pos pins s σ H _ I hq) λus s1 ⟨xs,H1,I1,r,z,q⟩=>⟨by rw[<- r.length];exact z,?_⟩)
 have hf:H1 s1.heap.objs.size=none:=I1.hok.fresh (az _)
 refine⟨.ref s1.heap.objs.size,upd H1 s1.heap.objs.size (.tup xs),I1.laid (t':=s1.toks) (λb u e=>aq _ e) (az _) ?_,rfl,q _ hf⟩
 exact⟨z,us,r,TupN.new _ _⟩
theorem bY (h:PA X es t):PE X (.List es pos) (eU t):=by
 intro pins s σ H Q I hq
 refine wpAny_List_spliced (thn (h pos pins s σ H _ I hq) λus s1 ⟨xs,H1,I1,r,z,q⟩=>⟨by rw[<- r.length];exact z,?_⟩)
 have hf:H1 s1.heap.objs.size=none:=I1.hok.fresh (az _)
 refine⟨.ref s1.heap.objs.size,upd H1 s1.heap.objs.size (.lst xs),I1.laid (t':=s1.toks) (λb u e=>aq _ e) (az _) ?_,rfl,q _ hf⟩
 exact⟨z,us,0,r,br _ rfl⟩
end
abbrev Sp:=List V->Hp->VK->XK->Prop
abbrev CXT:=List Env->Hp->Shared->XK->Value->Shared->Prop
structure aGy (P:Program)(w:World)(K:aa)(mg:Str->Option Value)(base:Heap)(A:Around)(outer:List Env)(s:Shared)(H:Hp):Prop where
 frames:A.frames=some outer
 mod:Mod K mg base
 bs:∀b o,base.get? b=some o->s.heap.get? b=some o/\H b=none
 bsz:base.objs.size<=s.heap.objs.size
 funs:s.heap.FunFrames base outer
 frf:∀b∈frs outer,H b=none
 hok:HOk P w H s.heap
 bare:u4 s.gens
def CE (outer:List Env) (P:Program) (w:World) (H:Hp) (s:Shared) (Q:VK) (u:Value) (s':Shared):Prop:=
 ∃v H',s'.os=s.os/\u4 s'.gens/\Un (frs outer) [] H H' s.heap s'.heap/\HOk P w H' s'.heap/\RelV v u/\Q v H'
def CR (CX:CXT) (outer:List Env) (P:Program) (w:World) (H:Hp) (s:Shared) (Q:VK) (E:XK) (r:vp) (s':Shared):Prop:=
 match r with
 | .ok (.ret u)=>CE outer P w H s Q u s'
 | .ok _=>False
 | .error e=>CX outer H s E e s'
structure FnOk (P:Program)(w:World)(K:aa)(mg:Str->Option Value)(base:Heap)(CX:CXT)(k:Nat)(f:Addr)(fd:FuncData)(ps:List Str)(sp:Sp):Prop where
 len:∀vs H Q E,sp vs H Q E->vs.length=ps.length
 run:∀(A:Around) (outer:List Env) (s:Shared) (H:Hp) (args:Args) (us:List Value) (vs:List V) (Q:VK) (E:XK),Room k A->aGy P w K mg base A outer s H->zk s fd args (ps.zip us)->Vals vs us->sp vs H Q E ->
  uf (model P w) A (.call (.ref f) args) (CR CX outer P w H s Q E) s
theorem FnOk.mono {P:Program}{w:World}{K:aa}{mg:Str->Option Value}{base:Heap}{CX:CXT}{j k:Nat}{f:Addr}{fd:FuncData}{ps:List Str}{sp:Sp}(F:FnOk P w K mg base CX j f fd ps sp)(h:j<=k) :
  FnOk P w K mg base CX k f fd ps sp:=⟨F.len,λA outer s H args us vs Q E hr=>F.run A outer s H args us vs Q E (hr.mono h)⟩
section
variable {X:Cx}{pins:List (Addr×Obj)}{σ:St}{H:Hp}{s s':Shared}
theorem Inv.env0 (I:Inv X pins σ H s):aGy X.prog X.w X.K X.mg X.base X.A X.stack s H:=
 ⟨I.ok.frames,I.ok.mod,I.bs,bq I.ok.bsz I.sz,I.stack,I.stkFree,I.hok,I.bare⟩
theorem Inv.after {Q:VK}{u:Value}(I:Inv X pins σ H s)(h:CE X.stack X.prog X.w H s Q u s'):EP X pins σ Q u s':=by
 obtain⟨v,H',os,bare,un,hok,r,q⟩:=h
 obtain⟨hh,g,d,t,os'⟩:=s'
 obtain rfl:os'=s.os:=os
 exact⟨v,H',I.call (h':=hh) (g':=g) (d':=d) (t':=t) (ch:=[]) un hok bare (λb z=>absurd z (by simp)),r,q⟩
end
def bD (sp:Sp) (dvs:List V) (E:XK) (t:TA):TE:=λσ H Q=>t σ H λvs H1=>sp (vs++dvs) H1 Q E
def Binds (K:aa) (fd:FuncData) (ps:List Str) (ds:List Value):Prop:=
 ∀(s:Shared) (us:List Value),K.In s.heap->(us++ds).length=ps.length->zk s fd ⟨us,[]⟩ (ps.zip (us++ds))
theorem Binds.all {K:aa}{fd:FuncData}{ps:List Str}(h:∀us:List Value,us.length=ps.length->y2 fd ⟨us,[]⟩=pure (ps.zip us)):Binds K fd ps []:=λs us _ hl=>by
 rw[iu] at hl ⊢
 exact .of_eq (h us hl)
def oG (CX:CXT) (X:Cx) (E:XK):Prop:=∀(pins:List (Addr×Obj)) (σ:St) (H:Hp) (s:Shared) (e:Value) (s':Shared),Inv X pins σ H s->CX X.stack H s E e s'->X.xe e s'
section
variable {X:Cx}{CX:CXT}{k:Nat}{f C:Addr}{fd:FuncData}{ps:List Str}{sp:Sp}{dvs:List V}{ds:List Value}{E:XK}{x m:Str}{p pos apos:Pos}{e o:Expr}{es:List Expr}{ta:TE}{t:TA}
theorem aFT {pins:List (Addr×Obj)}{σ:St}{H:Hp}{s:Shared}{Q:VK}{us:List Value}{vs:List V}(F:FnOk X.prog X.w X.K X.mg X.base CX k f fd ps sp)(hr:Room k X.A)(hb:Binds X.K fd ps ds)(hd:Vals dvs ds)(hx:oG CX X E)
  (I:Inv X pins σ H s) (r:Vals vs us) (h:sp (vs++dvs) H Q E):wpAny (model X.prog X.w) X.A (call (.ref f) us) (EP X pins σ Q) X.xe s:=by
 have r2:Vals (vs++dvs) (us++ds):=r.append hd
 have hl:(us++ds).length=ps.length:=by rw[<- r2.length];exact F.len _ _ _ _ h
 refine wpAny_call (jq (F.run X.A X.stack s H ⟨us,[]⟩ (us++ds) (vs++dvs) Q E hr I.env0 (hb s us I.kIn hl) r2 h) λr s' hq=>?_)
 cases r with
 |error e=>exact hx pins σ H s e s' I hq
 |ok fl=>
  cases fl with
  |ret u=>exact I.after hq
  |next=>exact jx hq
  |brk=>exact jx hq
  |cont=>exact jx hq
theorem zQ (F:FnOk X.prog X.w X.K X.mg X.base CX k f fd ps sp)(hr:Room k X.A)(hg:Gl X x)(hm:X.mg x=some (.ref f))(hk:mx X.K (.ref f)=true)(hb:Binds X.K fd ps ds)(hd:Vals dvs ds)(hx:oG CX X E)
  (ha:PA X (e :: es) t) (hdb:(x == ("__debug__" : Str))=false:=by decide) (he:ff (e :: es) X.env=(false,eval e X.env) :: ff es X.env:=by rfl) (hpl:(vo pos (ff es X.env)).any (·.1)=false:=by rfl) :
  PE X (.Call (.Name x p) (e :: es) [] pos) (bD sp dvs E t):=by
 intro pins s σ H Q I h
 refine su (zD I hg hm ?_ hdb)
 refine PySem.W.callWith_K (h₀:=X.base) I.ok.mod.kin hk (thn (ha pos pins s σ H _ I h) λus s1 ⟨vs,H1,I1,r,q⟩=>⟨I1.kIn,?_⟩) he hpl
 exact aFT F hr hb hd hx I1 r q
end
section
variable {X:Cx}{CX:CXT}{k:Nat}{f C:Addr}{fd:FuncData}{ps ks:List Str}{sp:Sp}{E:XK}{x m:Str}{p pos apos kpos:Pos}{e o:Expr}{es:List Expr}{kws:List Keyword}{te ta:TE}{t tk:TA}{nm:Option Str}
variable {g:List Value->List Value->List Value}{gV:List V->List V->List V}
end
structure jH (N P:List Str)(sc:Scope):Prop where
 kind:sc.kind = .function
 co:sc.isCoroutine=false
 gen:sc.isGenerator=false
 nd:N.Nodup
 pre:N.take P.length=P
 par:∀x∈P,sc.names.lookup x=some .local\/sc.names.lookup x=some .cell
 nofree:∀y∈sc.names,y.2 ≠ .free
theorem sO {kindOf:Str->Option NameKind}{x:Str}:∀{binds:List (Str×Value)}{m:Str->Option Value},(∀v,(x,v)∉binds)->bindL kindOf binds m x=m x
 |[],_,_=>rfl
 | (n,v) :: r,m,h=>by
  unfold bindL
  rw[sO λw hw=>h w (ar _ hw)]
  split
  ·have:x≠n:=by rintro rfl;exact h v bp
   simp[this]
  ·rfl
theorem qQ {kindOf:Str->Option NameKind}{x:Str}:∀{binds:List (Str×Value)}{m:Str->Option Value},(∀v,(x,v)∉binds)->bindC kindOf binds m x=m x
 |[],_,_=>rfl
 | (n,v) :: r,m,h=>by
  unfold bindC
  rw[qQ λw hw=>h w (ar _ hw)]
  split
  ·rfl
  ·have:x≠n:=by rintro rfl;exact h v bp
   simp[this]
theorem sS {kindOf:Str->Option NameKind}{x:Str}{v:Value}:∀{P:List Str}{vs:List Value}{i:Nat}{m:Str->Option Value},P.Nodup->P[i]?=some x->vs[i]?=some v->kindOf x=some .local ->
  bindL kindOf (P.zip vs) m x=some v
 |[],_,_,_,_,h,_,_=>by simp at h
 |_ :: _,[],_,_,_,_,h,_=>by simp at h
 |p :: P,w :: vs,0,m,nd,h1,h2,hk=>by
  simp at h1 h2;subst h1;subst h2
  show bindL kindOf ((p,w) :: P.zip vs) m p=_
  unfold bindL
  rw[sO λv hv=>(dk.mp nd).1 (wo hv).1,if_pos hk]
  simp
 |p :: P,w :: vs,i+1,m,nd,h1,h2,hk=>by
  show bindL kindOf ((p,w) :: P.zip vs) m x=_
  unfold bindL
  exact sS (i:=i) (dk.mp nd).2 (by simpa using h1) (by simpa using h2) hk
theorem rE {kindOf:Str->Option NameKind}{x:Str}{v:Value}:∀{P:List Str}{vs:List Value}{i:Nat}{m:Str->Option Value},P.Nodup->P[i]?=some x->vs[i]?=some v->kindOf x≠some .local ->
  bindC kindOf (P.zip vs) m x=some v
 |[],_,_,_,_,h,_,_=>by simp at h
 |_ :: _,[],_,_,_,_,h,_=>by simp at h
 |p :: P,w :: vs,0,m,nd,h1,h2,hk=>by
  simp at h1 h2;subst h1;subst h2
  show bindC kindOf ((p,w) :: P.zip vs) m p=_
  unfold bindC
  rw[qQ λv hv=>(dk.mp nd).1 (wo hv).1,if_neg hk]
  simp
 |p :: P,w :: vs,i+1,m,nd,h1,h2,hk=>by
  show bindC kindOf ((p,w) :: P.zip vs) m x=_
  unfold bindC
  exact rE (i:=i) (dk.mp nd).2 (by simpa using h1) (by simpa using h2) hk
def bZ (N:List Str) (vs:List V):St:=vs.map some++c7 (N.length - vs.length) none
def tD (CX:CXT) (P:Program) (w:World) (K:aa) (mg:Str->Option Value) (base:Heap) (N:List Str) (qual:Str) (scope:Scope) (f:Addr) (cd:Value) (A:Around) (outer:List Env) (s:Shared) (H:Hp) (E:XK):Cx where
 prog:=P
 w:=w
 K:=K
 mg:=mg
 base:=base
 A:=A.deeper (wq qual scope s.heap.objs.size f cd)
 N:=N
 s₀:=s
 H₀:=H
 env:=wq qual scope s.heap.objs.size f cd
 outer:=outer
 stack:=wq qual scope s.heap.objs.size f cd :: outer
 ex:=[]
 calm:=true
 fn:=λ_=>true
 pn:=[]
 xe:=λe s'=>wpAny (model P w) (A.deeper (wq qual scope s.heap.objs.size f cd)) (leaving (wq qual scope s.heap.objs.size f cd) e) (λ_ s''=>CX outer H s E e s'') (λe' s''=>CX outer H s E e' s'') s'
theorem uW {sc:Scope}{n:Nat}{x:Str}(h:sc.names.lookup x=some .cell):∃c,(i8 n sc.names []).lookup x=some c:=by
 have q:=oq sc.names n [] (.inl h)
 exact gx.mp q
theorem aAX {CX:CXT}{P:Program}{w:World}{K:aa}{mg:Str->Option Value}{base:Heap}{N ps:List Str}{qual:Str}{scope:Scope}{f:Addr}{cd:Value}{A:Around}{outer:List Env}{s s1:Shared}{H:Hp}{E:XK}{us:List Value}{vs:List V}
  (S:jH N ps scope) (hd:A.handled=none) (e0:aGy P w K mg base A outer s H) (hl:vs.length=ps.length) (r:Vals vs us)
  (x:InCallC s s.heap.objs.size (bindL (wq qual scope s.heap.objs.size f cd).kindOf (ps.zip us) λ_=>none) (i8 (s.heap.objs.size+1) scope.names []) (bindC (wq qual scope s.heap.objs.size f cd).kindOf (ps.zip us) λ_=>none) s1) :
  Inv (tD CX P w K mg base N qual scope f cd A outer s H E) [] (bZ N vs) H s1:=by
 have hpl:ps.length<=N.length:=by have:=congrArg u6 S.pre;rw[fg] at this;omega
 obtain⟨h1,tk,rfl,hk⟩:=x.done
 have noA:∀b:Addr,b∉(tD CX P w K mg base N qual scope f cd A outer s H E).ex:=λb z=>absurd (show b∈([]:List Addr) from z) (by simp)
 refine⟨⟨e0.mod,S.kind,rfl,rfl,az _,λy z c h1 h2=>?_,λy hy=>?_,λy c _ h=>?_,λ_=>hd,Around.frames_deeper e0.frames, .inr ⟨rfl,rfl⟩,λb z=>absurd z (noA b),e0.bs,e0.bsz,λb _ _=>noA b,λb z=>absurd z (noA b),e0.funs,e0.frf⟩,
  rfl,e0.bare,Un.kept hk,⟨_,x.toInCall.ns,λi y v h1 h2 h3=>?_⟩,λy c h=>⟨_,x.cell y c h⟩,e0.hok.fresh (az _),λy c h=>?_,λp hp=>absurd (show p∈([]:List (Addr×Obj)) from hp) (by simp),e0.hok.kept hk,?_⟩
 ·exact name_of_addr x.apart (e9 h1) (e9 h2)
 ·have hy:scope.names.lookup y=some .cell\/scope.names.lookup y=some .free:=hy
  rcases hy with hy | hy
  ·exact uW hy
  ·exact absurd rfl (S.nofree _ (e9 hy))
 ·exact gw (x.above y c (e9 h))
 ·have hi:i<vs.length:=by
   unfold bZ at h2
   by_cases hi:i<vs.length
   ·exact hi
   ·rw[bj (by simpa using hi)] at h2
    rw[j9] at h2
    split at h2 <;> cases h2
  have ha:vs[i]?=some v:=by
   unfold bZ at h2
   rw[bh (by simpa using hi),bg] at h2
   cases e:vs[i]? with
   |none=>rw[e] at h2;cases h2
   |some a=>rw[e] at h2;cases h2;rfl
  obtain⟨u,hu,rv⟩:=r.get ha
  have hp:ps[i]?=some y:=by
   rw[<- S.pre,nv (by omega)];exact h1
  have ndP:ps.Nodup:=by rw[<- S.pre];exact S.nd.sublist (List.take_sublist _ _)
  refine⟨u,rv,?_⟩
  rcases S.par y (a8 hp) with k | k
  ·exact .inl ⟨k,sS ndP hp hu k⟩
  ·obtain⟨c,e⟩:=uW (n:=s.heap.objs.size+1) k
   refine .inr ⟨.inl k,c,e,?_⟩
   have q:=x.cell y c e
   rw[rE ndP hp hu (by show scope.names.lookup y≠_;rw[k];decide)] at q
   exact q
 ·exact e0.hok.fresh (gw (x.above y c (e9 h)))
 ·unfold bZ
  show _=N.length
  rw[au,ai,k9]
  omega
theorem aFR {CX:CXT}{P:Program}{w:World}{K:aa}{mg:Str->Option Value}{base:Heap}{k:Nat}{f:Addr}{name qual:Str}{params:Arguments}{body:List Stmt}{scope:Scope}{dV kV doc pm cdv ct oc:Value}{an od:Option Addr}
  {osl:Array (Option Value)}{N ps:List Str}{sp:Sp} (lk:K.lookup f=some ⟨oc,od, .func (ja name qual params body scope dV kV doc pm an cdv ct),osl⟩) (hcd:ug K cdv qual=true) (S:jH N ps scope)
  (len:∀vs H Q E,sp vs H Q E->vs.length=ps.length)
  (hbody:∀(A:Around) (outer:List Env) (s:Shared) (H:Hp) (vs:List V) (Q:VK) (E:XK),Room k (A.deeper (wq qual scope s.heap.objs.size f cdv))->sp vs H Q E ->
   ∃t,PSs (tD CX P w K mg base N qual scope f cdv A outer s H E) body t/\t { nx:=λ_ H'=>Q .non H',rt:=Q } (bZ N vs) H) :
  FnOk P w K mg base CX (k+1) f (ja name qual params body scope dV kV doc pm an cdv ct) ps sp:=by
 refine⟨len,λA outer s H args us vs Q E hr e0 hb r hsp=>?_⟩
 have hl:=len _ _ _ _ hsp
 have KX:K.In s.heap:=e0.mod.kin.keeps λb o e=>(e0.bs b o e).1
 have lim:s.heap.NoLimit:=e0.mod.nolimit.keeps λb o e=>(e0.bs b o e).1
 have hkind:∀y∈ps.zip us,scope.names.lookup y.1=some .local\/(scope.names.lookup y.1=some .cell/\((i8 (s.heap.objs.size+1) scope.names []).lookup y.1).isSome=true):=λ⟨n,v⟩ hy=>by
  rcases S.par n (wo hy).1 with q | q
  ·exact .inl q
  ·exact .inr ⟨q,oq _ _ _ (.inl q)⟩
 refine codeAny_call_function hr.depth (KX _ _ lk) rfl S.co S.gen rfl (PySem.W.codeRec_of KX hcd) (hb _ _ _ _ ?_)
 refine wpAny_newFunctionEnv_cells S.kind hkind λenv he s1 x=>?_
 subst he
 refine⟨lim.keeps x.toInCall.keep,codeAny_func ?_⟩
 obtain⟨t,ht,hq⟩:=hbody A outer s H vs Q E (hr.deeper _) hsp
 have I:Inv (tD CX P w K mg base N qual scope f cdv A outer s H E) [] (bZ N vs) H s1:=aAX S hr.hd e0 hl r x
 refine gj (ht [] s1 (bZ N vs) H _ I hq) (λfl s' hs=>?_) λe s' hs=>hs
 have fin:∀{σ':St}{H':Hp}{v:V}{u:Value},Inv (tD CX P w K mg base N qual scope f cdv A outer s H E) [] σ' H' s'->RelV v u->Q v H'->CE outer P w H s Q u s':=
  λ{σ' H' v u} J rv q=>⟨v,H',J.os,J.bare,J.base,J.hok,rv,q⟩
 cases fl with
 |ret u=>
  obtain⟨v,σ',H',J,rv,q⟩:=hs
  exact fin J rv q
 |next=>
  obtain⟨σ',H',J,q⟩:=hs
  exact fin (v:=V.non) (u:=Value.none) J rfl q
 |brk=>
  obtain⟨_,_,_,q⟩:=hs
  exact jx q
 |cont=>
  obtain⟨_,_,_,q⟩:=hs
  exact jx q
section
variable {X:Cx}{x:Str}{p pos:Pos}{e:Expr}{es:List Expr}{t:TA}{id T:String}{r:List V->Hp->VK->Prop}
def tCB (r:List V->Hp->VK->Prop) (t:TA):TE:=λσ H Q=>t σ H λvs H1=>r vs H1 Q
theorem aI (hc:CallR X (.builtin id) r)(hg:Gl X x)(hm:X.mg x=none)(hv:dw x=some (.builtin id))(ha:PA X (e :: es) t)(hn:x≠"__name__":=by decide)(hdb:(x == ("__debug__" : Str))=false:=by decide)
  (he:ff (e :: es) X.env=(false,eval e X.env) :: ff es X.env:=by rfl) (hpl:(vo pos (ff es X.env)).any (·.1)=false:=by rfl):PE X (.Call (.Name x p) (e :: es) [] pos) (tCB r t):=by
 intro pins s σ H Q I h
 refine su (sH I hg hm hv ?_ hn hdb)
 exact PyProof.Rows.callWith_builtin1 (thn (ha pos pins s σ H _ I h) λus s1 ⟨vs,H1,I1,r1,q1⟩=>hc pins s1 σ H1 vs us Q I1 r1 q1) he hpl
theorem bE (hc:CallR X (.type T) r)(hg:Gl X x)(hm:X.mg x=none)(hv:dw x=some (.type T))(ha:PA X (e :: es) t)(hn:x≠"__name__":=by decide)(hdb:(x == ("__debug__" : Str))=false:=by decide)
  (he:ff (e :: es) X.env=(false,eval e X.env) :: ff es X.env:=by rfl) (hpl:(vo pos (ff es X.env)).any (·.1)=false:=by rfl):PE X (.Call (.Name x p) (e :: es) [] pos) (tCB r t):=by
 intro pins s σ H Q I h
 refine su (sH I hg hm hv ?_ hn hdb)
 exact k8 (thn (ha pos pins s σ H _ I h) λus s1 ⟨vs,H1,I1,r1,q1⟩=>hc pins s1 σ H1 vs us Q I1 r1 q1) he hpl
end
end L2
namespace HT
open PySem PyProof.Rows
section
open PySem.SeqAt
open PySem.AutoSeq1 (wpAny_loadPart')
open PySem.MeetsSeq PySem.MeetsSeq2 PySem.MeetsSeq3
end
section
variable {prog:Program}{w:World}{A:Around}{E:Value->Shared->Prop}{s:Shared}
theorem cat_tup {t b:Addr}{vs ws:List Value}{Q:Value->Shared->Prop}(ht:IsTup s.heap t vs.toArray)(hb:IsTup s.heap b ws.toArray)(hv:vs≠[])
  (h1:ws=[]->Q (.ref t) s) (h2:ws≠[]->Q (.ref s.heap.objs.size) { s with heap:=s.heap.push { cls := .type "tuple",data := .seq (vs++ws).toArray } })
  (hsz:vs.length+ws.length<=b8):wpAny (model prog w) A (jv .Add (.ref t) (.ref b)) Q E s:=by
 obtain⟨⟨cls,dd,data,sl⟩,ho,hc,n,hd⟩:=id ht
 obtain⟨⟨cls2,dd2,data2,sl2⟩,ho2,hc2,n2,hd2⟩:=id hb
 simp only at hc hd hc2 hd2
 subst hc hd hc2 hd2
 have e:vs.toArray++ws.toArray=(vs++ws).toArray:=by simp
 by_cases hw:ws=[]
 ·exact zv ⟨_,ho,rfl⟩ ⟨_,ho2,rfl⟩ vq y9 ot n4 (ny _ _)
   (tuple_addW1 t b vs.toArray ws.toArray n n2 dd dd2 sl sl2 (by simpa using hv) (by simp[hw])) ⟨ho,ho2,h1 hw⟩
 ·refine zv ⟨_,ho,rfl⟩ ⟨_,ho2,rfl⟩ vq y9 ot n4 (ny _ _)
   (tuple_addW2 t b vs.toArray ws.toArray n n2 dd dd2 sl sl2 (by simpa using hv) (by simpa using hw) (by rw[aw,aw];exact hsz)) ⟨ho,ho2,?_⟩
  rw[e]
  exact h2 hw
def sIx (n d:Nat):Option Int->Nat
 |none=>d
 |some v=>if v<0 then(v+(n:Int)).toNat else min v.toNat n
theorem aEY (n d:Nat)(hd:d<=n)(o:Option Int):sIx n d o<=n:=by
 cases o with
 |none=>exact hd
 |some v=>
  show(if v<0 then(v+(n:Int)).toNat else min v.toNat n)<=n
  by_cases hv:v<0
  ·rw[if_pos hv];omega
  ·rw[if_neg hv];exact Nat.min_le_right _ _
theorem aBf (v:Int)(n d:Nat):(if v<0 then max (v+(n:Int)) 0 else min v (n:Int))=((sIx n d (some v):Nat):Int):=by
 show(if v<0 then max (v+(n:Int)) 0 else min v (n:Int))=(((if v<0 then(v+(n:Int)).toNat else min v.toNat n):Nat):Int)
 by_cases hv:v<0
 ·simp only[if_pos hv];omega
 ·simp only[if_neg hv];omega
theorem xY (lo hi:Option Int)(n:Nat):my lo hi 1 (n:Int)=(((sIx n 0 lo:Nat):Int),((sIx n n hi:Nat):Int)):=by
 have h1:¬ ((1:Int)<0):=by omega
 unfold my
 simp only[h1,if_false]
 refine xk ?_ ?_
 ·cases lo with
  |none=>rfl
  |some v=>exact aBf v n 0
 ·cases hi with
  |none=>rfl
  |some v=>exact aBf v n n
theorem xH (i j:Nat):ju (i:Int) (j:Int) 1=j - i:=by
 unfold ju
 have h1:(1:Int) > 0:=by omega
 simp only[h1,if_true,Int.ediv_one]
 split <;> omega
theorem nV {v:Value}{o:Option Int}{Q:Option Int->Shared->Prop}(p:IsPart v o)(h:Q o s):wpAny (model prog w) A (Builtin.Slice.slicePartIndex v) Q E s:=by
 cases p with
 |none=>exact slicePart_none h
 |int i t=>exact slicePart_int h
theorem sliceApplied_gen {sl:Addr}{vl vu:Value}{lo hi:Option Int}{n:Nat}{Q:Int×Int×Nat->Shared->Prop}(hs:s.heap.IsSliceOf sl vl vu .none)(pl:IsPart vl lo)(pu:IsPart vu hi)
  (h:Q (((sIx n 0 lo:Nat):Int),1,sIx n n hi - sIx n 0 lo) s):wpAny (model prog w) A (sk (.ref sl) (pure (n:Int))) Q E s:=by
 obtain⟨os,hos,hcs,hds⟩:=id hs
 unfold sk Builtin.Slice.sliceFields
 refine af (af (Ai hos hds (x:=vl) rfl (af (Ai hos hds (x:=vu) rfl (af (Ai hos hds (x := .none) rfl (ao ?_)))))))
 refine af (slicePart_none ?_)
 show wpAny _ _ (if((1:Int) == 0)=true then _ else _) _ _ s
 rw[if_neg (by decide)]
 refine af (nV pl (af (nV pu (af (ao ?_)))))
 show wpAny _ _ (match my lo hi 1 (n:Int) with | (lo,hi)=>pure (lo,(1:Int),ju lo hi 1)) _ _ s
 rw[xY lo hi n]
 show wpAny _ _ (pure (((sIx n 0 lo:Nat):Int),(1:Int),ju ((sIx n 0 lo:Nat):Int) ((sIx n n hi:Nat):Int) 1)) _ _ s
 rw[xH]
 exact ao h
theorem aBV (xs:Array Value)(i k:Nat):((aj k).filterMap λ(m:Nat)=>xs[((i:Int)+(m:Int)*1).toNat]?).toArray=((xs.toList.drop i).take k).toArray:=by
 have e:(λ(m:Nat)=>xs[((i:Int)+(m:Int)*1).toNat]?)=λm=>xs[i+m]?:=by
  funext m
  have:((i:Int)+(m:Int)*1).toNat=i+m:=by omega
  rw[this]
 rw[e]
 have:=pick_run xs i k
 rw[List.filterMap_map] at this
 have e2:((λx=>xs[x]?)∘λx=>i+x)=λm=>xs[i+m]?:=rfl
 rw[e2] at this
 rw[this]
theorem getItem_tuple_cut {t sl:Addr}{items:Array Value}{vl vu:Value}{lo hi:Option Int}{Q:Value->Shared->Prop}(ht:IsTup s.heap t items)(hs:s.heap.IsSliceOf sl vl vu .none)(pl:IsPart vl lo)(pu:IsPart vu hi)
  (hw:¬ (sIx items.size 0 lo=0/\sIx items.size items.size hi=items.size))
  (h:Q (.ref s.heap.objs.size) { s with heap:=s.heap.push { cls := .type "tuple",data := .seq ((items.toList.drop (sIx items.size 0 lo)).take (sIx items.size items.size hi - sIx items.size 0 lo)).toArray } })
  (hsz:items.size<=b8):wpAny (model prog w) A (u7 (.ref t) (.ref sl)) Q E s:=by
 have htake:sizeOk (.seq ((items.toList.drop (sIx items.size 0 lo)).take (sIx items.size items.size hi - sIx items.size 0 lo)).toArray):=by
  show((items.toList.drop (sIx items.size 0 lo)).take (sIx items.size items.size hi - sIx items.size 0 lo)).toArray.size<=b8
  rw[aw,fg,qm,cu]
  omega
 have hj:sIx items.size items.size hi<=items.size:=aEY _ _ (az _) hi
 obtain⟨os,hos,hcs,hds⟩:=id hs
 have hTs:s.TypeIs (.ref sl) "slice":=⟨os,hos,hcs⟩
 unfold u7
 try with_reducible refine ft ?_
 first | refine af (ao ?_) | skip
 refine af (wpAny_sequenceKey ht.typeIs (by decide) ?_)
 refine af (ka (name:=qe "__getitem__") ht.typeIs fj
  (gi fj ht.typeIs yo ?_ (args_tuple_getitem _ _)))
 show wpAny _ _ (mq (.ref t) >>= _) _ _ s
 refine af (tupleItemsOf_ ht ?_)
 refine af (sv hTs ?_)
 rw[if_pos (by decide)]
 refine af (sliceApplied_gen hs pl pu ?_)
 have hno:¬ ((((sIx items.size 0 lo:Nat):Int) == 0 && (1:Int) == 1 && (sIx items.size items.size hi - sIx items.size 0 lo) == items.size)=true):=by
  intro q
  rw[du,du] at q
  have q1:((sIx items.size 0 lo:Nat):Int)=0:=rg q.1.1
  have q2:sIx items.size items.size hi - sIx items.size 0 lo=items.size:=rg q.2
  exact hw ⟨by omega,by omega⟩
 show wpAny _ _ (if(((sIx items.size 0 lo:Nat):Int) == 0 && (1:Int) == 1 && (sIx items.size items.size hi - sIx items.size 0 lo) == items.size)=true then _ else _) _ _ s
 rw[if_neg hno,aBV]
 first
  |exact af (m:=jz _) (gk (ao ⟨_,rfl,ao h⟩) htake)
  |exact af (m:=jz _) (gk (af (ao (ao ⟨_,rfl,ao h⟩))) htake)
  |exact af (af (m:=jz _) (gk (ao (ao ⟨_,rfl,ao h⟩)) htake))
  |exact af (af (m:=jz _) (gk (ao ⟨_,rfl,ao h⟩) htake))
end
end HT
namespace L2
open PySem PySem.Spec PyProof.Rows
abbrev TO:=St->Hp->(Option Int->Hp->Prop)->Prop
def PO (X:Cx) (e:Option Expr) (t:TO):Prop:=
 ∀(pins:List (Addr×Obj)) (s:Shared) (σ:St) (H:Hp) (Q:Option Int->Hp->Prop),Inv X pins σ H s->t σ H Q ->
  wpAny (model X.prog X.w) X.A (evalPart e X.env) (λu s'=>∃o H',Inv X pins σ H' s'/\IsPart u o/\Q o H') X.xe s
def cL:TO:=λ_ H Q=>Q none H
def eO (t:TE):TO:=λσ H Q=>t σ H λx H1=>∃i,x = .int i/\Q (some i) H1
theorem gF {ns:List Int}:∀{us:List Value},Vals (ns.map V.int) us->IntsAre us ns:=by
 induction ns with
 |nil=>intro us r;rw[j7] at r;cases r;exact .nil
 |cons n ns ih=>
  intro us r
  rw[bx] at r
  cases r with
  |cons r1 r2=>
   obtain⟨t,e⟩:=r1
   subst e
   exact .cons n t (ih r2)
section
variable {X:Cx}{e:Expr}{te:TE}{lo hi:Option Expr}{tl th:TO}{pos p2:Pos}
theorem dG:PO X none cL:=by
 intro pins s σ H Q I h
 rw[za]
 exact ao ⟨none,H,I, .none,h⟩
theorem cY (h:PE X e te):PO X (some e) (eO te):=by
 intro pins s σ H Q I hw
 rw[evalPart_some]
 refine thn (h pins s σ H _ I hw) λu s1 ⟨x,H1,I1,r1,q1⟩=>?_
 obtain⟨i,rfl,q⟩:=q1
 obtain⟨t,rfl⟩:=r1
 exact⟨some i,H1,I1, .int i t,q⟩
def SlR (X:Cx) (r:V->Option Int->Option Int->Hp->VK->Prop):Prop:=
 ∀(pins:List (Addr×Obj)) (s:Shared) (σ:St) (H:Hp) (x:V) (v vl vu:Value) (lo hi:Option Int) (sl:Addr) (Q:VK),Inv X pins σ H s->RelV x v->s.heap.IsSliceOf sl vl vu .none->IsPart vl lo->IsPart vu hi->r x lo hi H Q ->
  ∃T id,typeLookup (.type T) "__getitem__" = pure (some (.builtin id))/\s.TypeIs v T/\wpAny (model X.prog X.w) X.A (u7 v (.ref sl)) (EP X pins σ Q) X.xe s
theorem SlR.or {r r':V->Option Int->Option Int->Hp->VK->Prop}(h:SlR X r)(h':SlR X r'):SlR X (λx lo hi H Q=>r x lo hi H Q\/r' x lo hi H Q):=by
 intro pins s σ H x v vl vu lo hi sl Q I rx hs pl pu q
 rcases q with q | q
 ·exact h pins s σ H x v vl vu lo hi sl Q I rx hs pl pu q
 ·exact h' pins s σ H x v vl vu lo hi sl Q I rx hs pl pu q
def tSl (r:V->Option Int->Option Int->Hp->VK->Prop) (te:TE) (tl th:TO):TE:=λσ H Q=>te σ H λx H1=>tl σ H1 λl H2=>th σ H2 λu H3=>r x l u H3 Q
theorem cJ {r:V->Option Int->Option Int->Hp->VK->Prop}(hr:SlR X r)(he:PE X e te)(hl:PO X lo tl)(hu:PO X hi th):PE X (.Subscript e (.Slice lo hi none p2) pos) (tSl r te tl th):=by
 intro pins s σ H Q I h
 refine zm (thn (he pins s σ H _ I h) λv s1 ⟨x,H1,I1,r1,q1⟩=>?_)
 refine wpAny_Slice (thn (hl pins s1 σ H1 _ I1 q1) λvl s2 ⟨l,H2,I2,pl,q2⟩=>thn (hu pins s2 σ H2 _ I2 q2) λvu s3 ⟨u,H3,I3,pu,q3⟩=>?_)
 rw[za]
 refine ao ?_
 have I4:Inv X pins σ H3 { s3 with heap:=s3.heap.push { cls := .type "slice",data := .fields #[vl,vu, .none] } }:=I3.kept (t':=s3.toks) λb ob q=>aq _ q
 obtain⟨T,id,hT,ht,hg⟩:=hr pins { s3 with heap:=s3.heap.push { cls := .type "slice",data := .fields #[vl,vu, .none] } } σ H3 x v vl vu l u s3.heap.objs.size Q I4 r1 (Heap.IsSliceOf.new ..) pl pu q3
 show wpAny (model X.prog X.w) X.A (u9 e (.Slice lo hi none p2) v (.ref s3.heap.objs.size)) (EP X pins σ Q) X.xe { s3 with heap:=s3.heap.push { cls := .type "slice",data := .fields #[vl,vu, .none] } }
 exact tail_any (ops:=[.ref s3.heap.objs.size,v]) ht hT hg (by with_unfolding_all rfl)
def oT (xs:List V) (lo hi:Option Int):List V:=(xs.drop (HT.sIx xs.length 0 lo)).take (HT.sIx xs.length xs.length hi - HT.sIx xs.length 0 lo)
theorem fF (xs:List V)(lo hi:Option Int):(oT xs lo hi).length<=xs.length:=by
 unfold oT
 rw[fg,qm]
 omega
def aIr (K:aa):V->Option Int->Option Int->Hp->VK->Prop:=λx lo hi H Q=>∃a xs,x = .ref a/\SqT K H a xs /\
 ¬ (HT.sIx xs.length 0 lo=0/\HT.sIx xs.length xs.length hi=xs.length)/\∀p,H p=none->Q (.ref p) (upd H p (.tup (oT xs lo hi)))
theorem aFH:SlR X (aIr X.K):=by
 intro pins s σ H x v vl vu lo hi sl Q I rx hs pl pu h
 obtain⟨a,xs,rfl,hx,hw,q⟩:=h
 cases rx
 obtain⟨its,r,ht,hz⟩:=I.tuple hx
 have hlen:its.toArray.size=xs.length:=by rw[aw];exact r.length.symm
 refine⟨"tuple",_,fj.lookup,ht.typeIs,?_⟩
 refine HT.getItem_tuple_cut ht hs pl pu (by rw[hlen];exact hw) ?_ (by rw[hlen];exact hz)
 rw[hlen]
 refine⟨.ref s.heap.objs.size,_,I.laid (t':=s.toks) (o := .tup (oT xs lo hi)) (λb ob q=>aq _ q) (az _) ?_,rfl,q _ (I.hok.fresh (az _))⟩
 exact⟨bq (fF xs lo hi) hz,_,(r.drop (HT.sIx xs.length 0 lo)).take (HT.sIx xs.length xs.length hi - HT.sIx xs.length 0 lo),TupN.new _ _⟩
def aGF (K:aa):R2:=λx y H Q=>∃a b xs ys,x = .ref a/\y = .ref b/\SqT K H a xs/\SqT K H b ys/\xs≠[]/\xs.length+ys.length<=b8 /\
 (ys=[]->Q (.ref a) H)/\(ys≠[]->∀p,H p=none->Q (.ref p) (upd H p (.tup (xs++ys))))
theorem Vals.nil_iff {xs:List V}{us:List Value}(r:Vals xs us):us=[]↔xs=[]:=by
 cases r with
 |nil=>simp
 |cons _ _=>simp
theorem aEb:OpR X (jv .Add) (aGF X.K):=by
 intro pins s σ H x y v u Q I rx ry h
 obtain⟨a,b,xs,ys,rfl,rfl,ha,hb,hx,hz,q1,q2⟩:=h
 cases rx
 cases ry
 obtain⟨its,r1,p1,_⟩:=I.tuple ha
 obtain⟨its2,r2,p2,_⟩:=I.tuple hb
 refine HT.cat_tup p1 p2 (λz=>hx (r1.nil_iff.mp z)) (λz=>⟨.ref a,H,I,rfl,q1 (r2.nil_iff.mp z)⟩) (λz=>?_) (by rw[<- r1.length,<- r2.length];exact hz)
 refine⟨.ref s.heap.objs.size,_,I.laid (t':=s.toks) (o := .tup (xs++ys)) (λb ob q=>aq _ q) (az _) ?_,rfl,q2 (λw=>z (r2.nil_iff.mpr w)) _ (I.hok.fresh (az _))⟩
 exact⟨by rw[au];exact hz,_,r1.append r2,TupN.new _ _⟩
end
def ixN (n:Nat) (i:Int):Option Nat:=if 0<=i then(if i<n then some i.toNat else none) else if -(n:Int)<=i then some (i+n).toNat else none
def atI {α:Type} (xs:List α) (i:Int):Option α:=(ixN xs.length i).bind λj=>xs[j]?
theorem yH {n:Nat}{i:Int}{j:Nat}(h:ixN n i=some j):zb i n=some j/\j<n/\-(n:Int)<=i/\i<n:=by
 unfold ixN at h
 by_cases h0:0<=i
 ·rw[if_pos h0] at h
  by_cases h1:i<n
  ·rw[if_pos h1] at h
   have e:i.toNat=j:=bu h
   exact⟨by rw[Aj h0 h1,e],by omega,by omega,h1⟩
  ·rw[if_neg h1] at h;cases h
 ·rw[if_neg h0] at h
  by_cases h1:-(n:Int)<=i
  ·rw[if_pos h1] at h
   have e:(i+n).toNat=j:=bu h
   exact⟨by rw[zx (by omega) h1,e],by omega,h1,by omega⟩
  ·rw[if_neg h1] at h;cases h
theorem aBl {α:Type}{xs:List α}{i:Int}{v:α}(h:atI xs i=some v):∃j,zb i xs.length=some j/\xs[j]?=some v/\j<xs.length/\-(xs.length:Int)<=i/\i<xs.length:=by
 unfold atI at h
 cases e:ixN xs.length i with
 |none=>rw[e] at h;cases h
 |some j=>
  rw[e] at h
  obtain⟨h1,h2,h3,h4⟩:=yH e
  exact⟨j,h1,h,h2,h3,h4⟩
theorem aAx {α:Type}{xs:List α}{j:Nat}{v:α}(h:xs[j]?=some v):atI xs (j:Int)=some v:=by
 have hj:j<xs.length:=(ah.mp h).1
 have e:ixN xs.length (j:Int)=some j:=by
  unfold ixN
  rw[if_pos (by omega),if_pos (by omega)];simp
 unfold atI;rw[e];exact h
def aDM (b:Expr):Prop:=∀o i,yp b false o i=operate [o,i] (u7 o i)
def IxR (X:Cx) (r:R2):Prop:=
 ∀(value slice:Expr) (pins:List (Addr×Obj)) (s:Shared) (σ:St) (H:Hp) (x y:V) (v u:Value) (Q:VK),Inv X pins σ H s->RelV x v->RelV y u->r x y H Q ->
  yp slice false v u=operate [v,u] (u7 v u)->wpAny (model X.prog X.w) X.A (u9 value slice v u) (EP X pins σ Q) X.xe s
def MtR (X:Cx) (id:String) (r:V->List V->Hp->VK->Prop):Prop:=
 ∀(pins:List (Addr×Obj)) (s:Shared) (σ:St) (H:Hp) (x:V) (xs:List V) (v:Value) (us:List Value) (Q:VK),Inv X pins σ H s->RelV x v->Vals xs us->r x xs H Q ->
  wpAny (model X.prog X.w) X.A (call (.builtin id) (v :: us)) (EP X pins σ Q) X.xe s
section
variable {X:Cx}{a b:Expr}{ta tb:TE}{pos:Pos}
theorem IxR.or {r r':R2}(h:IxR X r)(h':IxR X r'):IxR X (λx y H Q=>r x y H Q\/r' x y H Q):=by
 intro value slice pins s σ H x y v u Q I rx ry q hs
 rcases q with q | q
 ·exact h value slice pins s σ H x y v u Q I rx ry q hs
 ·exact h' value slice pins s σ H x y v u Q I rx ry q hs
theorem bF {r:R2}(hr:IxR X r)(ha:PE X a ta)(hb:PE X b tb)(hs:aDM b):PE X (.Subscript a b pos) (tOp r ta tb):=by
 intro pins s σ H Q I h
 exact zm (aGZ ha hb I h λv u s2 x y H2 I2 rx ry q=>hr a b pins s2 σ H2 x y v u Q I2 rx ry q (hs _ _))
def aGx (K:aa):R2:=λx y H Q=>∃p xs i v,x = .ref p/\y = .int i/\SqL K H p xs/\atI xs i=some v/\Q v H
def aGt (K:aa):R2:=λx y H Q=>∃p xs i v,x = .ref p/\y = .int i/\SqT K H p xs/\atI xs i=some v/\Q v H
theorem aEv:IxR X (aGx X.K):=by
 intro value slice pins s σ H x y v u Q I rx ry h hs
 obtain⟨p,xs,i,z,rfl,rfl,hq,he,q⟩:=h
 cases rx
 obtain⟨t,rfl⟩:=ry
 obtain⟨its,r,pl,hz⟩:=I.list hq
 obtain⟨j,h1,h2,h3,h4,h5⟩:=aBl he
 obtain⟨w,ew,rw'⟩:=r.get h2
 have hl:=r.length
 have hn:=rD
 have fin:EP X pins σ Q w s:=⟨z,H,I,rw',q⟩
 by_cases h0:0<=i
 ·have hj:i.toNat=j:=by
   rw[Aj h0 h5] at h1
   exact bu h1
  exact item_listR pl.isList h0 (by omega) (by rw[hj];simpa using ew) fin hs
 ·have hj:(i+(its.toArray.size:Int)).toNat=j:=by
   rw[zx (by omega) h4] at h1
   rw[aw,<- hl]
   exact bu h1
  exact wa (x:=w) pl.isList.typeIs slot_list_getitem.lookup
   (wpAny_getItem_list_neg (Q:=λr s'=>r=w/\EP X pins σ Q r s') pl.isList (by omega) (by rw[aw] <;> omega) (by omega) (by rw[hj];simpa using ew) ⟨rfl,fin⟩) hs
theorem aFz:IxR X (aGt X.K):=by
 intro value slice pins s σ H x y v u Q I rx ry h hs
 obtain⟨p,xs,i,z,rfl,rfl,hq,he,q⟩:=h
 cases rx
 obtain⟨t,rfl⟩:=ry
 obtain⟨its,r,pl,hz⟩:=I.tuple hq
 obtain⟨j,h1,h2,h3,h4,h5⟩:=aBl he
 obtain⟨w,ew,rw'⟩:=r.get h2
 have hl:=r.length
 have hn:=rD
 have fin:EP X pins σ Q w s:=⟨z,H,I,rw',q⟩
 exact wa (x:=w) pl.typeIs slot_tuple_getitem.lookup
  (getItem_tuple (j:=j) (Q:=λr s'=>r=w/\EP X pins σ Q r s') pl (by omega) (by omega) (by rw[aw,<- hl];exact h1) (by simpa using ew) ⟨rfl,fin⟩) hs
theorem wJ (its:List Value)(n j:Nat)(u:Value):ij (·.setIfInBounds j u) { cls := .type "list",data := .seq its.toArray n }={ cls := .type "list",data := .seq (its.set j u).toArray n }:=by
 simp[ij]
theorem Inv.lst {pins:List (Addr×Obj)}{σ:St}{H:Hp}{s:Shared}{p:Addr}{xs:List V}(I:Inv X pins σ H s)(h:H p=some (.lst xs)) :
  ∃(its:List Value) (n:Nat),Vals xs its/\s.heap.get? p=some { cls := .type "list",data := .seq its.toArray n }/\xs.length<=b8:=by
 obtain⟨z,its,n,r,e⟩:=I.hok p _ h
 exact⟨its,n,r,e,z⟩
theorem Inv.lstUpd {pins:List (Addr×Obj)}{σ:St}{H:Hp}{s:Shared}{p:Addr}{xs ys:List V}{its its':List Value}{n n':Nat}{f:Obj->Obj}(I:Inv X pins σ H s)(h:H p=some (.lst xs))
  (ho:s.heap.get? p=some { cls := .type "list",data := .seq its.toArray n }) (hf:f { cls := .type "list",data := .seq its.toArray n }={ cls := .type "list",data := .seq its'.toArray n' }) (r:Vals ys its') (hz:ys.length<=b8) (t:Nat) :
  Inv X pins σ (upd H p (.lst ys)) { s with heap:=s.heap.update p f,toks:=t }:=by
 have e:(s.heap.update p f).get? p=some { cls := .type "list",data := .seq its'.toArray n' }:=by
  rw[gy f ho (by rw[hf] <;> rfl),hf]
 refine I.write (x:=p) (e:=p) (by rw[h];trivial) (.inl rfl) (λb u hb q=>(jg _ _ (gh hb)).trans q) ⟨_,e⟩ ?_
 exact⟨hz,its',n',r,e⟩
def dM:V->V->V->Hp->(Hp->Prop)->Prop:=λo i v H Q=>∃p xs k j,o = .ref p/\i = .int k/\H p=some (.lst xs)/\ixN xs.length k=some j/\Q (upd H p (.lst (xs.set j v)))
theorem fG:aHT X dM:=by
 intro pins s σ H o i v ov iv u Q I ro ri rv h
 obtain⟨p,xs,k,j,rfl,rfl,hp,hj,q⟩:=h
 cases ro
 obtain⟨t,rfl⟩:=ri
 obtain⟨its,n,r,ho,hz⟩:=I.lst hp
 obtain⟨h1,h2,h3,h4⟩:=yH hj
 have hl:=r.length
 have hn:=rD
 have I':Inv X pins σ (upd H p (.lst (xs.set j v))) { s with heap:=s.heap.update p (ij (·.setIfInBounds j u)) }:=
  I.lstUpd hp ho (wJ its n j u) (r.set rv j) (by rw[fk];exact hz) s.toks
 by_cases h0:0<=k
 ·have hk:k.toNat=j:=by
   rw[Aj h0 h4] at h1
   exact bu h1
  exact PySem.W.ki_setAt ho h0 (by omega) (by rw[aw,<- hl];exact h4) (by rw[hk];exact⟨_,I',q⟩)
 ·have hk:(k+(its.toArray.size:Int)).toNat=j:=by
   rw[zx (by omega) h3] at h1
   rw[aw,<- hl]
   exact bu h1
  exact PySem.W.ki_setBack ho (by omega) (by rw[aw,<- hl];exact h3) (by omega) (by rw[hk];exact⟨_,I',q⟩)
theorem rP (lo hi:Option Int)(n:Nat):(o7 lo hi none n).1=((HT.sIx n 0 lo:Nat):Int)/\(o7 lo hi none n).2.1=((HT.sIx n n hi:Nat):Int)/\(o7 lo hi none n).2.2=1:=by
 refine⟨?_,?_,rfl⟩
 ·cases lo with
  |none=>simp[o7,HT.sIx]
  |some i=>
   simp only[o7,HT.sIx,Option.getD_none,show(1:Int) > 0 by decide,if_true]
   by_cases h:i<0
   ·simp only[h,if_true] <;> omega
   ·simp only[h,if_false] <;> omega
 ·cases hi with
  |none=>simp[o7,HT.sIx]
  |some i=>
   simp only[o7,HT.sIx,Option.getD_none,show(1:Int) > 0 by decide,if_true]
   by_cases h:i<0
   ·simp only[h,if_true] <;> omega
   ·simp only[h,if_false] <;> omega
theorem pD (its:List Value)(lo hi:Option Int):slicePick its.toArray lo hi none=((its.drop (HT.sIx its.length 0 lo)).take (HT.sIx its.length its.length hi - HT.sIx its.length 0 lo)).toArray:=by
 obtain⟨h1,h2,h3⟩:=rP lo hi its.toArray.size
 unfold slicePick
 rw[h1,h2,h3]
 simp only[sliceRange_one,pick_run,aw] <;> rfl
def aHO (K:aa):V->Option Int->Option Int->Hp->VK->Prop:=λx lo hi H Q=>∃a xs,x = .ref a/\SqL K H a xs/\∀p,H p=none->Q (.ref p) (upd H p (.lst (oT xs lo hi)))
theorem aDk:SlR X (aHO X.K):=by
 intro pins s σ H x v vl vu lo hi sl Q I rx hs pl pu h
 obtain⟨a,xs,rfl,hx,q⟩:=h
 cases rx
 obtain⟨its,r,ht,hz⟩:=I.list hx
 have hlen:=r.length
 refine⟨"list",_,slot_list_getitem.lookup,ht.isList.typeIs,?_⟩
 refine uk ht.isList hs pl pu .none (by simp) ?_ (by rw[aw] <;> omega)
 rw[pD,<- hlen]
 refine⟨.ref s.heap.objs.size,_,I.laid (t':=s.toks) (o := .lst (oT xs lo hi)) (λb ob q=>aq _ q) (az _) ?_,rfl,q _ (I.hok.fresh (az _))⟩
 exact⟨bq (fF xs lo hi) hz,_,0,(r.drop (HT.sIx xs.length 0 lo)).take (HT.sIx xs.length xs.length hi - HT.sIx xs.length 0 lo),br _ rfl⟩
def pG:V->Bool
 | .non=>true
 | .bl _=>true
 | .int _=>true
 | .str _=>true
 |_=>false
def eqV:V->V->Bool
 | .non, .non=>true
 | .bl a, .bl b=>a == b
 | .bl a, .int b=>(if a then 1 else 0) == b
 | .int a, .bl b=>a == (if b then 1 else 0)
 | .int a, .int b=>a == b
 | .str a, .str b=>a == b
 |_,_=>false
theorem aFr {A:Around}{s:Shared}{y x:V}{u v:Value}(ry:RelV y u)(rx:RelV x v)(fy:pG y=true)(fx:pG x=true):fe A s u v (eqV y x):=by
 cases y with
 |non=>
  cases ry
  cases x with
  |non=>cases rx;exact SeqAt.EqAt.same _
  |bl b=>cases rx;exact SeqAt.EqAt.none_bool b
  |int b=>obtain⟨t,rfl⟩:=rx;exact SeqAt.EqAt.none_int b t
  |str b=>obtain⟨t,rfl⟩:=rx;exact SeqAt.EqAt.none_str b t
  |_=>exact absurd (show false=true from fx) cf
 |bl a=>
  cases ry
  cases x with
  |non=>cases rx;exact SeqAt.EqAt.bool_none a
  |bl b=>cases rx;exact SeqAt.EqAt.bool_bool a b
  |int b=>obtain⟨t,rfl⟩:=rx;exact SeqAt.EqAt.bool_int a b t
  |str b=>obtain⟨t,rfl⟩:=rx;exact SeqAt.EqAt.bool_str a b t
  |_=>exact absurd (show false=true from fx) cf
 |int a=>
  obtain⟨t',rfl⟩:=ry
  cases x with
  |non=>cases rx;exact SeqAt.EqAt.int_none a t'
  |bl b=>cases rx;exact SeqAt.EqAt.int_bool a t' b
  |int b=>obtain⟨t,rfl⟩:=rx;exact SeqAt.EqAt.int_int a t' b t
  |str b=>obtain⟨t,rfl⟩:=rx;exact SeqAt.EqAt.int_str a t' b t
  |_=>exact absurd (show false=true from fx) cf
 |str a=>
  obtain⟨t',rfl⟩:=ry
  cases x with
  |non=>cases rx;exact SeqAt.EqAt.str_none a t'
  |bl b=>cases rx;exact SeqAt.EqAt.str_bool a t' b
  |int b=>obtain⟨t,rfl⟩:=rx;exact SeqAt.EqAt.str_int a t' b t
  |str b=>obtain⟨t,rfl⟩:=rx;exact SeqAt.EqAt.str_str a t' b t
  |_=>exact absurd (show false=true from fx) cf
 |_=>exact absurd (show false=true from fy) cf
def eqU (x:V) (u:Value):Bool:=match u with
 | .none=>eqV .non x
 | .bool b=>eqV (.bl b) x
 | .int i _=>eqV (.int i) x
 | .str z _=>eqV (.str z) x
 |_=>false
theorem aCF {x y:V}{u:Value}(r:RelV y u)(f:pG y=true):eqU x u=eqV y x:=by
 cases y with
 |non=>cases r;rfl
 |bl b=>cases r;rfl
 |int i=>obtain⟨t,rfl⟩:=r;rfl
 |str z=>obtain⟨t,rfl⟩:=r;rfl
 |_=>exact absurd (show false=true from f) cf
theorem lK {x:V}:∀{xs:List V}{us:List Value},Vals xs us->xs.all pG=true->us.any (eqU x)=xs.any λy=>eqV y x
 |_,_, .nil,_=>rfl
 |y :: xs,u :: us, .cons r t,f=>by
  rw[n5,du] at f
  rw[qy,qy,aCF r f.1,lK t f.2]
theorem iN {A:Around}{s:Shared}{x:V}{v:Value}(rx:RelV x v)(fx:pG x=true):∀{xs:List V}{us:List Value},Vals xs us->xs.all pG=true->∀u∈us,fe A s u v (eqU x u)
 |_,_, .nil,_=>λu hu=>by cases hu
 |y :: xs,u :: us, .cons r t,f=>λu' hu=>by
  rw[n5,du] at f
  rcases a9.mp hu with rfl | hu
  ·rw[aCF r f.1];exact aFr r rx f.1 fx
  ·exact iN rx fx t f.2 u' hu
def inV (x:V) (xs:List V):Bool:=xs.any λy=>eqV y x
def rIn (K:aa) (neg:Bool):R2:=λx y H Q=>∃p xs,y = .ref p/\(SqL K H p xs\/SqT K H p xs)/\pG x=true/\xs.all pG=true/\Q (.bl (if neg then !inV x xs else inV x xs)) H
theorem aAi:OpR X (fi .In) (rIn X.K false):=by
 intro pins s σ H x y v u Q I rx ry h
 obtain⟨p,xs,rfl,hq,fx,fs,q⟩:=h
 cases ry
 rcases hq with hq | hq
 ·obtain⟨its,r,pl,hz⟩:=I.list hq
  refine wt (eqU x) pl.isList (λw hw=>iN rx fx r fs w (by simpa using hw)) ⟨.bl _,H,I,rfl,?_⟩
  rw[show its.toArray.any (eqU x)=its.any (eqU x) by simp,lK r fs]
  exact q
 ·obtain⟨its,r,pl,hz⟩:=I.tuple hq
  refine vt (eqU x) pl (λw hw=>iN rx fx r fs w (by simpa using hw)) ⟨.bl _,H,I,rfl,?_⟩
  rw[show its.toArray.any (eqU x)=its.any (eqU x) by simp,lK r fs]
  exact q
theorem sK:OpR X (fi .NotIn) (rIn X.K true):=by
 intro pins s σ H x y v u Q I rx ry h
 obtain⟨p,xs,rfl,hq,fx,fs,q⟩:=h
 cases ry
 rcases hq with hq | hq
 ·obtain⟨its,r,pl,hz⟩:=I.list hq
  refine tf (eqU x) pl.isList (λw hw=>iN rx fx r fs w (by simpa using hw)) ⟨.bl _,H,I,rfl,?_⟩
  rw[show its.toArray.any (eqU x)=its.any (eqU x) by simp,lK r fs]
  exact q
 ·obtain⟨its,r,pl,hz⟩:=I.tuple hq
  refine rh (eqU x) pl (λw hw=>iN rx fx r fs w (by simpa using hw)) ⟨.bl _,H,I,rfl,?_⟩
  rw[show its.toArray.any (eqU x)=its.any (eqU x) by simp,lK r fs]
  exact q
theorem rZ:CallR X (.builtin "len") (λxs H Q=>∃p ys,xs=[.ref p]/\(SqL X.K H p ys\/SqT X.K H p ys)/\Q (.int ys.length) H):=by
 intro pins s σ H xs us Q I r h
 obtain⟨p,ys,rfl,hq,q⟩:=h
 obtain⟨u,rfl,rx⟩:=pP r
 cases rx
 have hn:=rD
 rcases hq with hq | hq
 ·obtain⟨its,r',pl,hz⟩:=I.list hq
  have hlen:=r'.length
  exact Calls.call_len_list pl.isList (by simp only[aw] <;> omega) ⟨.int ys.length,H,I.tok _,⟨s.toks+1,by rw[aw,hlen]⟩,q⟩
 ·obtain⟨its,r',pl,hz⟩:=I.tuple hq
  have hlen:=r'.length
  exact len_tuple pl (by simp only[aw] <;> omega) ⟨.int ys.length,H,I.tok _,⟨s.toks+1,by rw[aw,hlen]⟩,q⟩
theorem CallR.or {f:Value}{r r':List V->Hp->VK->Prop}(h:CallR X f r)(h':CallR X f r'):CallR X f (λxs H Q=>r xs H Q\/r' xs H Q):=by
 intro pins s σ H xs us Q I rs q
 rcases q with q | q
 ·exact h pins s σ H xs us Q I rs q
 ·exact h' pins s σ H xs us Q I rs q
theorem rR:CallR X (.type "list") (λxs H Q=>∃p ys,xs=[.ref p]/\(SqL X.K H p ys\/SqT X.K H p ys)/\∀l,H l=none->Q (.ref l) (upd H l (.lst ys))):=by
 intro pins s σ H xs us Q I r h
 obtain⟨p,ys,rfl,hq,q⟩:=h
 obtain⟨u,rfl,rx⟩:=pP r
 cases rx
 have fin:∀(its:List Value),Vals ys its->ys.length<=b8->∀(h':Heap) (c':Nat),(∀b o',s.heap.get? b=some o'->h'.get? b=some o') ->
   h'.get? s.heap.objs.size=some { cls := .type "list",dict:=none,data := .seq its.toArray c',slots:=#[] }->EP X pins σ Q (.ref s.heap.objs.size) { s with heap:=h' }:=λits r' hz h' c' kp e=>
  ⟨.ref s.heap.objs.size,_,I.laid (t':=s.toks) kp (az _) (show ObjOk X.prog X.w _ h' _ (.lst ys) from⟨hz,its,c',r',e⟩),rfl,q _ (I.hok.fresh (az _))⟩
 rcases hq with hq | hq
 ·obtain⟨its,r',pl,hz⟩:=I.list hq
  have hlen:=r'.length
  obtain⟨o,ho,hc,n,hd⟩:=pl.isList
  exact call_list_seq p (.inl rfl) ho hc hd (λh' c' kp e=>fin its r' hz h' c' kp e) (by simp only[aw] <;> omega)
 ·obtain⟨its,r',pl,hz⟩:=I.tuple hq
  have hlen:=r'.length
  obtain⟨o,ho,hc,n,hd⟩:=pl
  exact call_list_seq p (.inr rfl) ho hc hd (λh' c' kp e=>fin its r' hz h' c' kp e) (by simp only[aw] <;> omega)
theorem pO:CallR X (.type "tuple") (λxs H Q=>∃p ys,xs=[.ref p]/\((SqL X.K H p ys/\∀l,H l=none->Q (.ref l) (upd H l (.tup ys)))\/(SqT X.K H p ys/\Q (.ref p) H))):=by
 intro pins s σ H xs us Q I r h
 obtain⟨p,ys,rfl,h⟩:=h
 obtain⟨u,rfl,rx⟩:=pP r
 cases rx
 rcases h with⟨hq,q⟩ | ⟨hq,q⟩
 ·obtain⟨its,r',pl,hz⟩:=I.list hq
  have hlen:=r'.length
  refine call_tuple_list pl.isList (λh' kp=>?_) (by simp only[aw] <;> omega)
  have I1:Inv X pins σ H { s with heap:=h' }:=I.kept (t':=s.toks) kp
  have I2:Inv X pins σ (upd H h'.objs.size (.tup ys)) { s with heap:=h'.push { cls := .type "tuple",data := .seq its.toArray } }:=
   I1.laid (t':=s.toks) (λb o e=>aq _ e) (az _) (show ObjOk X.prog X.w _ _ _ (.tup ys) from⟨hz,its,r',TupN.new _ _⟩)
  exact⟨.ref h'.objs.size,_,I2,rfl,q _ (I1.hok.fresh (az _))⟩
 ·obtain⟨its,r',pl,hz⟩:=I.tuple hq
  exact call_tuple_same pl ⟨.ref p,H,I,rfl,q⟩
def tyV (K:aa) (T:String) (x:V) (H:Hp):Prop:=match x with
 | .str _=>T="str"
 | .int _=>T="int"
 | .ref p=>(T="list"/\∃xs,SqL K H p xs)\/(T="tuple"/\∃o,K.lookup p=some o/\o.cls = .type "tuple"/\o.dict=none) \/
   (T="dict"/\((∃kvs,H p=some (.dK kvs))\/∃kvs,H p=some (.dT kvs)))\/(T="set"/\∃S n,H p=some (.set S n))
 |_=>False
theorem aFX {pins:List (Addr×Obj)}{σ:St}{H:Hp}{s:Shared}{T:String}{x:V}{v:Value}(I:Inv X pins σ H s)(r:RelV x v)(ty:tyV X.K T x H) :
  s.TypeIs v T/\∀a,v = .ref a->∃ob,s.heap.get? a=some ob/\ob.dict=none:=by
 cases x with
 |str z=>
  obtain⟨t,rfl⟩:=r
  cases (show T="str" from ty)
  exact⟨typeIs_str s z t,λ_ e=>nomatch e⟩
 |int i=>
  obtain⟨t,rfl⟩:=r
  cases (show T="int" from ty)
  exact⟨typeIs_int s i t,λ_ e=>nomatch e⟩
 |ref p=>
  cases r
  rcases ty with⟨rfl,xs,hq⟩ | ⟨rfl,o,hk,hc,hd⟩ | ⟨rfl,hk⟩ | ⟨rfl,S,n,hk⟩
  ·obtain⟨its,_,pl,_⟩:=I.list hq
   refine⟨pl.isList.typeIs,λa e=>?_⟩
   cases e
   obtain⟨o,n,e,c,hd,_⟩:=pl
   exact⟨o,e,hd⟩
  ·refine⟨⟨o,I.kIn p o hk,hc⟩,λa e=>?_⟩
   cases e
   exact⟨o,I.kIn _ o hk,hd⟩
  ·have z:∃o,s.heap.get? p=some o/\o.ExactDict:=by
    rcases hk with⟨kvs,hk⟩ | ⟨kvs,hk⟩
    ·obtain⟨_,_,_,_,o,_,_,e,ex,_⟩:=I.hok p _ hk
     exact⟨o,e,ex⟩
    ·obtain⟨_,_,_,_,o,_,_,e,ex,_⟩:=I.hok p _ hk
     exact⟨o,e,ex⟩
   obtain⟨o,e,ex⟩:=z
   refine⟨⟨o,e,ex.1⟩,λa e2=>?_⟩
   cases e2
   exact⟨o,e,ex.2.1⟩
  ·obtain⟨o,_,_,_,e,ex,_⟩:=I.hok p _ hk
   refine⟨⟨o,e,ex.1⟩,λa e2=>?_⟩
   cases e2
   exact⟨o,e,ex.2.1⟩
 |_=>exact jx ty
def tBM (K:aa) (T:String) (r:V->List V->Hp->VK->Prop) (to:TE) (t:TA):TE:=λσ H Q=>to σ H λx H1=>tyV K T x H1/\t σ H1 λxs H2=>r x xs H2 Q
variable {o e:Expr}{es:List Expr}{to:TE}{t:TA}{name:Str}{apos cpos:Pos}{T id:String}{r:V->List V->Hp->VK->Prop}
theorem aGO (pa:PlainAttrs T)(slot:Slot T name id)(hty:typeOf (.builtin id)=pure (.type "method_descriptor"))(hm:MtR X id r)(ho:PE X o to)(ha:PA X (e :: es) t)
  (hbase:attributeBase o name X.env (eval o X.env)=eval o X.env:=by rfl)
  (hfew:((vo cpos (ff (e :: es) X.env)).all (λx=>!x.1) && (backToKw cpos (keywordEach [] X.env)).all (λx=>x.1.isSome)
   && decide ((e :: es).length+([]:List Keyword).length+(if([]:List Keyword).isEmpty then 0 else 1)<30))=true:=by rfl)
  (hline:(apos.endLine == cpos.line)=true:=by rfl) (hs:ff (e :: es) X.env=(false,eval e X.env) :: ff es X.env:=by rfl) (hplain:(vo cpos (ff es X.env)).any (·.1)=false:=by rfl) :
  PE X (.Call (.Attribute o name apos) (e :: es) [] cpos) (tBM X.K T r to t):=by
 intro pins s σ H Q I h
 refine wpAny_Call_method_late hbase hfew hline rfl (thn (ho pins s σ H _ I h) λv s1 ⟨x,H1,I1,r1,ty,q1⟩=>?_)
 obtain⟨h1,h2⟩:=aFX I1 r1 ty
 refine⟨T,id,pa,slot,hty,h1,h2,?_⟩
 have hA:=ha cpos pins s1 σ H1 _ I1 q1
 rw[hs] at hA ⊢
 refine Calls.callWith_builtin (by show(false || (vo cpos (ff es X.env)).any (·.1))=false;rw[hplain] <;> rfl) (xt ?_)
 exact thn hA λus s2 ⟨vs,H2,I2,r2,q2⟩=>hm pins s2 σ H2 x vs v us Q I2 r1 r2 q2
end
def MtM (X:Cx) (id:String) (r:V->List V->Hp->VK->Prop):Prop:=
 ∀(pins:List (Addr×Obj)) (s:Shared) (σ:St) (H:Hp) (x:V) (xs:List V) (v:Value) (us:List Value) (Q:VK),Inv X pins σ H s->RelV x v->Vals xs us->r x xs H Q ->
  wpAny (model X.prog X.w) X.A (call (.builtin id) (v :: us)) (EP X pins σ Q) X.xe s
theorem Vals.one:∀{x:V}{us:List Value},Vals [x] us->∃u,us=[u]/\RelV x u
 |_,_, .cons r .nil=>⟨_,rfl,r⟩
theorem Vals.two:∀{x y:V}{us:List Value},Vals [x,y] us->∃u v,us=[u,v]/\RelV x u/\RelV y v
 |_,_,_, .cons r (.cons q .nil)=>⟨_,_,rfl,r,q⟩
theorem Vals.eraseIdx:∀{xs:List V}{us:List Value} (i:Nat),Vals xs us->Vals (xs.eraseIdx i) (us.eraseIdx i)
 |_,_,_, .nil => .nil
 |_,_,0, .cons _ t=>t
 |_,_,i+1, .cons r t => .cons r (Vals.eraseIdx i t)
theorem Vals.rep {xs:List V}{us:List Value}(h:Vals xs us):∀k:Nat,Vals (c7 k xs).flatten (c7 k us).flatten
 |0 => .nil
 |k+1=>by
  rw[kc,kc,gc,gc]
  exact Vals.append h (Vals.rep h k)
theorem rM {α:Type}:∀(l:List α) (i:Nat),(l.eraseIdx i).length<=l.length
 |[],_=>az _
 |_ :: _,0=>nj _
 |_ :: r,i+1=>Nat.succ_le_succ (rM r i)
theorem sP (its:List Value):∀(k:Nat) (acc:List Value),
  List.foldl (λx1 x2=>x1++x2) acc.toArray (c7 k its.toArray)=(acc++(c7 k its).flatten).toArray
 |0,acc=>by simp
 |k+1,acc=>by
  have e:acc.toArray++its.toArray=(acc++its).toArray:=by simp
  have e2:(acc++its)++(c7 k its).flatten=acc++(c7 (k+1) its).flatten:=by
   rw[kc,gc,ez]
  rw[<- e2,<- sP its k (acc++its),<- e,kc,List.foldl_cons]
section
variable {X:Cx}{pins:List (Addr×Obj)}{σ:St}{H:Hp}{s:Shared}{l b:Addr}{xs ys zs:List V}
theorem Inv.lset {its its':List Value}{n:Nat}{f:Array Value->Array Value}{t':Nat}(I:Inv X pins σ H s)(hH:H l=some (.lst xs))
  (e:s.heap.get? l=some { cls := .type "list",data := .seq its.toArray n }) (hf:f its.toArray=its'.toArray) (hv:Vals ys its') (hz:ys.length<=b8) :
  Inv X pins σ (upd H l (.lst ys)) { s with heap:=s.heap.update l (ij f),toks:=t' }:=by
 have q:=PySem.IsL.update e f
 rw[hf] at q
 refine I.write (x:=l) (e:=l) (by rw[hH];exact trivial) (.inl rfl) (λb' u hb hu=>(jg s.heap (ij f) (gh hb)).trans hu) ⟨_,q⟩ ?_
 exact⟨hz,its',_,hv,q⟩
theorem Inv.lnew {its:List Value}{t':Nat}(I:Inv X pins σ H s)(hv:Vals ys its)(hz:ys.length<=b8) :
  Inv X pins σ (upd H s.heap.objs.size (.lst ys)) { s with heap:=s.heap.push { cls := .type "list",data := .seq its.toArray },toks:=t' }:=
 I.laid (λ_ _ q=>aq _ q) (az _) ⟨hz,its,0,hv,br _ rfl⟩
theorem Inv.fresh (I:Inv X pins σ H s):H s.heap.objs.size=none:=I.hok.fresh (az _)
theorem Inv.lstM (I:Inv X pins σ H s)(hH:H l=some (.lst xs)):xs.length<=b8/\∃(its:List Value) (n:Nat),Vals xs its/\xs.length=its.length/\s.heap.get? l=some { cls := .type "list",data := .seq its.toArray n }:=by
 obtain⟨z,its,n,r,e⟩:=I.hok l _ hH
 exact⟨z,its,n,r,r.length,e⟩
theorem aCl {n:Nat}(h:n<=b8):n0 n=false:=by
 unfold n0
 exact decide_eq_false (by omega)
end
section
variable {X:Cx}
def dH:V->List V->Hp->VK->Prop:=λx vs H Q=>∃l xs y,x = .ref l/\vs=[y]/\H l=some (.lst xs)/\xs.length<b8/\Q .non (upd H l (.lst (xs++[y])))
theorem cH:MtM X "list.append" dH:=by
 intro pins s σ H x vs v us Q I rx rv h
 obtain⟨l,xs,y,rfl,rfl,hH,hz,q⟩:=h
 cases rx
 obtain⟨u,rfl,ru⟩:=rv.one
 obtain⟨z,its,n,r,hl,e⟩:=I.lstM hH
 refine xl F.slot_list_append ⟨_,e,rfl⟩ F.entry_list_append (F.args_list_append_2 _ _) (PySem.list_append l its.toArray n u (by rw[aw];omega)) ⟨e,?_⟩
 refine⟨.non,_,I.lset (its':=its++[u]) hH e (by simp) (r.append (.cons ru .nil)) ?_,rfl,q⟩
 rw[au,fm]
 omega
def aCE:V->List V->Hp->VK->Prop:=λx vs H Q=>∃l xs i k y,x = .ref l/\vs=[.int i]/\H l=some (.lst xs)/\-(2 ^ 63)<=i/\i<2 ^ 63/\zb i xs.length=some k/\xs[k]?=some y/\Q y (upd H l (.lst (xs.eraseIdx k)))
theorem aCm:MtM X "list.pop" aCE:=by
 intro pins s σ H x vs v us Q I rx rv h
 obtain⟨l,xs,i,k,y,rfl,rfl,hH,h1,h2,hk,hy,q⟩:=h
 cases rx
 obtain⟨u,rfl,ru⟩:=rv.one
 obtain⟨t,rfl⟩:=ru
 obtain⟨z,its,n,r,hl,e⟩:=I.lstM hH
 obtain⟨w,hw,rw'⟩:=r.get hy
 refine xl F.slot_list_pop ⟨_,e,rfl⟩ F.entry_list_pop (F.args_list_pop_2 _ _)
  (MeetsSeq.list_pop_at l its.toArray n i t k w (fitsIndex_both h1 h2) (by rw[aw,<- hl];exact hk) (by rw[<- lb];exact hw) (by rw[aw];omega)) ⟨e,?_⟩
 refine⟨y,_,I.lset (its':=its.eraseIdx k) hH e ?_ (r.eraseIdx k) ?_,rw',q⟩
 ·show its.toArray.eraseIdxIfInBounds k=(its.eraseIdx k).toArray
  rw[o9]
 ·have:=rM xs k
  omega
def aHH:R2:=λx y H Q=>∃l b xs zs,x = .ref l/\y = .ref b/\H l=some (.lst xs)/\H b=some (.lst zs)/\xs.length+zs.length<=b8/\∀p,H p=none->Q (.ref p) (upd H p (.lst (xs++zs)))
theorem aFY:OpR X (jv .Add) aHH:=by
 intro pins s σ H x y v u Q I rx ry h
 obtain⟨l,b,xs,zs,rfl,rfl,hH,hB,hz,q⟩:=h
 cases rx
 cases ry
 obtain⟨z,its,n,r,hl,e⟩:=I.lstM hH
 obtain⟨z2,its2,n2,r2,hl2,e2⟩:=I.lstM hB
 refine PySem.P.add_list e e2 ?_ (by rw[aw,aw];omega)
 have ea:its.toArray++its2.toArray=(its++its2).toArray:=by simp
 rw[ea]
 exact⟨.ref _,_,I.lnew (t':=s.toks) (r.append r2) (by rw[au];omega),rfl,q _ I.fresh⟩
def aHz:R2:=λx y H Q=>∃l k xs,x = .ref l/\y = .int k/\H l=some (.lst xs)/\-(2 ^ 63)<=k/\k<2 ^ 63/\xs.length*k.toNat<=b8 /\
 ∀p,H p=none->Q (.ref p) (upd H p (.lst (c7 k.toNat xs).flatten))
theorem aEj {α:Type}(xs:List α)(k:Nat):(c7 k xs).flatten.length=k*xs.length:=by
 induction k with
 |zero=>simp
 |succ k ih=>rw[kc,gc,au,ih,Nat.succ_mul,Nat.add_comm]
theorem aGe:OpR X (jv .Mult) aHz:=by
 intro pins s σ H x y v u Q I rx ry h
 obtain⟨l,k,xs,rfl,rfl,hH,h1,h2,hz,q⟩:=h
 cases rx
 obtain⟨t,rfl⟩:=ry
 obtain⟨z,its,n,r,hl,e⟩:=I.lstM hH
 have hlen:its.toArray.size*k.toNat<=b8:=by rw[aw,<- hl];exact hz
 have hcap:¬ its.toArray.size*k.toNat > (2 ^ 63 - 1) / 8:=by
  have:(b8:Nat)<=(2 ^ 63 - 1) / 8:=by decide
  omega
 have hfit:¬ (!Builtin.List.listFitsIndex k)=true:=by
  rw[fitsIndex_both h1 h2]
  exact cf
 have hlong:¬ n0 (its.toArray.size*k.toNat)=true:=by
  rw[aCl hlen]
  exact cf
 have hnew:List.foldl (λx1 x2=>x1++x2) #[] (c7 (if its.toArray.isEmpty=true then 0 else k.toNat) its.toArray)=(c7 k.toNat its).flatten.toArray:=by
  have f0:∀m:Nat,List.foldl (λx1 x2=>x1++x2) #[] (c7 m its.toArray)=(c7 m its).flatten.toArray:=λm=>by
   have:=sP its m []
   rw[jf] at this
   exact this
  rw[f0]
  cases its with
  |nil=>simp
  |cons a r'=>rw[if_neg (by simp)]
 refine wpAny_binaryOp_repeat_ref (T:="list") (U:="int") (by decide) ⟨_,e,rfl⟩ (λs'=>typeIs_int s' k t) noFill_list_mul F.fills_int_mul F.slot_int_rmul repeat_list F.slot_int_index.lookup
  (xl F.slot_int_rmul (typeIs_int s k t) F.entry_int_rmul (F.args_int_rmul_2 _ _) (int___rmul___int_list k t l its.toArray n)
   ⟨e,rfl,⟨_,e,rfl⟩,xl F.slot_list_mul ⟨_,e,rfl⟩ F.entry_list_mul (F.args_list_mul_2 _ _) (AutoListH.list___mul___list_int_3 l its.toArray n k t hfit hcap hlong) ⟨e,?_⟩⟩)
 rw[hnew]
 exact⟨.ref _,_,I.lnew (t':=s.toks) (r.rep k.toNat) (by rw[aEj,Nat.mul_comm];exact hz),rfl,q _ I.fresh⟩
end
section
variable {prog:Program}{w:World}{A:Around}{E:Value->Shared->Prop}{s:Shared}
end
section
variable {X:Cx}
end
end L2
namespace Att
open PySem PySem.W PySem.Calls PyProof.Rows
theorem lU {P:Params}{h:Heap}:∀(ns:List Int) (vs:List Value),WellAll P h vs (ns.map WData.int)->IntsAre vs ns:=by
 intro ns
 induction ns with
 |nil=>
  intro vs w
  rw[j7] at w
  cases w
  exact .nil
 |cons n ns ih=>
  intro vs w
  rw[bx] at w
  cases w with
  |cons a b=>
   cases a
   exact .cons _ _ (ih _ b)
theorem aAk {l:OpenLaw}{n:Nat}(hn:l.most=some n){P:Params}{h:Heap}{args:List WData}{vals:List Value}
  (hpre:l.row.toRowW.claim.pre args=true) (hwl:WellAll P h vals args) :
  ∃a vs ns,vals=[Value.ref a]/\args=[WData.list (ns.map WData.int)]/\h.get? a=some { cls := .type "list",data := .seq vs.toArray }/\IntsAre vs ns/\ns.length<=n:=by
 have hsh:WShape.hasAll [] args [.list .int]=true:=(pre_splitW hpre).1
 have hc:l.pre.holds [] { args:=args }=true:=(pre_splitW hpre).2
 obtain⟨d,r,rfl,h1,h2⟩:=hasAllW_cons hsh
 obtain rfl:=hasAllW_nil h2
 obtain⟨xs,rfl,h3⟩:=hasW_list h1
 obtain⟨ns,rfl⟩:=items_int h3
 have hlen:ns.length<=n:=by
  unfold OpenLaw.pre at hc
  have h4:(WTm.not (.lt (.lit (.int (n:Int))) (.len (.arg 0)))).holds [] { args:=[.list (ns.map .int)] }=true:=by
   have h4:=(holds_andW hc).1
   rw[hn] at h4
   exact h4
  have h5:=condW_of h4 (w_not (w_lt w_lit (w_len_list (w_arg rfl))))
  rw[ai] at h5
  refine Nat.le_of_not_lt λq=>?_
  have q':(n:Int)<((ns.length:Nat):Int):=by omega
  first
   | (rw[decide_eq_true q'] at h5;exact absurd h5 (by decide))
   | (simp at h5;omega)
 cases hwl with
 |cons w1 w2=>
  cases w2
  cases w1 with
  |list ho hall=>exact⟨_,_,ns,rfl,rfl,ho,lU ns _ hall,hlen⟩
theorem aAA (l:OpenLaw)(args:List WData):l.row.toRowW.claim.post args (.bool true) args=true:=
 postW_of (r:=l.row.toRowW) (X:=(true == true))
  (show WShape.has [] (.bool true) .bool=true by first | rfl | decide | simp[WShape.has,WShape.arms,WShape.armsAll])
  (show(WTm.eq .res (.lit (.bool true))).value [] { args:=args,res:=some (.bool true),after:=args }=some (.bool (true == true)) from w_eq_bool (w_res rfl) w_lit) rfl
theorem attach_call {l:OpenLaw}{n:Nat}{q:Program}{loose:List Str}{XP:(Str->Option Value)->Heap->Prop}{YP:World->Heap->Prop}{d:DefRec}
  (hn:l.most=some n) (hdf:d.params.defaults=[])
  (call:∀(w:World) (s₀ s₁:Shared) (mg mb:Str->Option Value) (fa:Addr) (o:Obj) (pm cd doc:Value) (a:Addr) (vs:List Value) (ns:List Int),
   Ground q loose [] XP w s₀ mg mb s₁.heap->YP w s₁.heap ->
   s₁.heap.get? fa=some o->o.data = .func (docDef d.name d.params d.body d.scope pm cd doc)->s₁.heap.CodeRec cd d.name->mg d.name=some (.ref fa) ->
   s₁.heap.get? a=some { cls := .type "list",data := .seq vs.toArray }->IntsAre vs ns->ns.length<=n->s₁.gens=#[] ->
   uf (model l.prog w) zo (.call (.ref fa) ⟨[.ref a],[]⟩) (λr s'=>r = .ok (.ret (.bool true))/\OldK s₁.heap s'.heap/\s'.os=s₁.os/\u4 s'.gens) s₁) :
  WalkO q loose XP YP l.row.toRowW d [] (λf vs=>PySem.call f vs):=by
 intro w s₀ s₁ mg mb G Y fa o pm cd doc dV kV ho hd hcd hD hmg hg args vals as hpre hlay hrd hwl hlo
 obtain rfl:dV = .none:=Dflts.none hD hdf
 obtain rfl:kV = .none:=Dflts.noKw hD
 obtain⟨a,vs,ns,rfl,rfl,hobj,hints,hlen⟩:=aAk hn hpre hwl
 refine enter_call (jq (call w s₀ s₁ mg mb fa o pm cd doc a vs ns G Y ho (fd_plain hd) hcd hmg hobj hints hlen hg) λr s' hq=>?_)
 obtain⟨rfl,h2,h3,h4⟩:=hq
 exact⟨.inl ⟨.bool true, .bool true,[],rfl,λ_=>rfl, .bool true,aAA l _,λ_=>⟨List.Pairwise.nil,λ_ hm=>(nomatch hm)⟩⟩,h2,h3,h4⟩
section
variable {prog:Program}{w:World}{A:Around}{E:Value->Shared->Prop}{s:Shared}{K:Frag}
end
end Att
namespace L2
open PySem PySem.Spec PyProof.Rows
theorem rO:∀{vs:List Value}{ns:List Int},IntsAre vs ns->Vals (ns.map V.int) vs
 |_,_, .nil => .nil
 |_,_, .cons n t h => .cons ⟨t,rfl⟩ (rO h)
def aHf (H:Hp):Prop:=∀b,H b=none\/∃o xs,H b=some (.frz o (.lst xs))
theorem aBq {P:Program}{w:World}{K:aa}{mg mb:Str->Option Value}{CX:CXT}{k:Nat}{fa a:Addr}{fd:FuncData}{x:Str}{sp:Sp}{s₁:Shared}{vs:List Value}{ns:List Int}
  (KX:K.In s₁.heap) (hns:s₁.heap.Ns c9 mg) (hb:s₁.heap.Ns zj mb) (hbb:∀x:Str,x≠"__name__"->mb x=dw x) (hlim:s₁.heap.NoLimit) (hg:s₁.gens=#[])
  (ha:s₁.heap.get? a=some { cls := .type "list",data := .seq vs.toArray }) (hi:IntsAre vs ns) (hl:ns.length<=b8) (hr:Room k zo)
  (F:∀base:Heap,K.In base->base.Ns c9 mg->FnOk P w K mg base CX k fa fd [x] sp) (hbind:∀(s:Shared) (u:Value),zk s fd ⟨[u],[]⟩ [(x,u)])
  (hsp:∀H:Hp,aHf H->SqL K H a (ns.map V.int)->sp [.ref a] H (λv _=>v = .bl true) λ_ _ _=>False)
  (hCX:∀H e s',CX [] H s₁ (λ_ _ _=>False) e s'->False) :
  uf (model P w) zo (.call (.ref fa) ⟨[.ref a],[]⟩) (λr s'=>r = .ok (.ret (.bool true))/\OldK s₁.heap s'.heap/\s'.os=s₁.os/\u4 s'.gens) s₁:=by
 have rv:=rO hi
 have lenV:=hi.length
 have core:∀H:Hp,aHf H->SqL K H a (ns.map V.int)->HOk P w H s₁.heap->(∀b,H b≠none->b=a)->(H a≠none->K.lookup a=none) ->
   uf (model P w) zo (.call (.ref fa) ⟨[.ref a],[]⟩) (λr s'=>r = .ok (.ret (.bool true))/\OldK s₁.heap s'.heap/\s'.os=s₁.os/\u4 s'.gens) s₁:=by
  intro H hO hS hok hA hK
  have base_of:∀{b:Addr}{o:Obj},s₁.heap.get? b=some o->H b=none->(aCx s₁.heap H).get? b=some o:=λe n=>aCt e n
  have noA:∀{b:Addr}{o:Obj}{es:Array DictEntry}{ep:Nat},s₁.heap.get? b=some o->o.data = .dict es ep->H b=none:=λ{b o es ep} e d=>by
   cases q:H b with
   |none=>rfl
   |some u=>
    have e':b=a:=hA b (by rw[q];simp)
    subst e'
    rw[ha] at e;cases e
    have d':Data.seq vs.toArray _=Data.dict es ep:=d
    cases d'
  have nsK:∀{b:Addr}{m:Str->Option Value},s₁.heap.Ns b m->(aCx s₁.heap H).Ns b m:=λ{b m} ⟨o,es,ep,e,d,r⟩=>⟨o,es,ep,base_of e (noA e d),d,r⟩
  have hKb:K.In (aCx s₁.heap H):=λb o e=>base_of (KX b o e) (by
   cases q:H b with
   |none=>rfl
   |some u=>
    have e':b=a:=hA b (by rw[q];simp)
    subst e'
    rw[hK (by rw[q];simp)] at e;cases e)
  have hM:Mod K mg (aCx s₁.heap H):=⟨hKb,nsK hns,⟨mb,nsK hb,hbb⟩,let⟨mc,h1,h2⟩:=hlim;⟨mc,nsK h1,h2⟩⟩
  have e0:aGy P w K mg (aCx s₁.heap H) zo [] s₁ H:=⟨rfl,hM,λb o e=>aDS e,Nat.le_of_eq (aAR _ _),trivial,λb hb=>absurd (show b∈([]:List Addr) from hb) (by simp),hok, .of_eq hg⟩
  refine jq ((F _ hKb (nsK hns)).run zo [] s₁ H ⟨[.ref a],[]⟩ [.ref a] [.ref a] _ _ hr e0 (hbind s₁ (.ref a)) (.cons rfl .nil) (hsp H hO hS)) λr s' h=>?_
  cases r with
  |error e=>exact(hCX H e s' h).elim
  |ok fl=>
   cases fl with
   |next=>exact jx h
   |brk=>exact jx h
   |cont=>exact jx h
   |ret u=>
    obtain⟨v,H',os,bare,un,hok',r',q⟩:=h
    have q':v = .bl true:=q
    subst q'
    obtain rfl:u=Value.bool true:=r'
    refine⟨rfl,OldK.of_keep λb o e=>?_,os,bare⟩
    cases q:H b with
    |none=>exact un.keep b o e q (by intro z;exact absurd (show b∈([]:List Addr) from z) (by simp)) (by simp)
    |some u=>
     rcases hO b with z | ⟨ob,xs,z⟩
     ·rw[q] at z;cases z
     ·have z2:=un.frzs b ob _ z
      obtain⟨e1,_⟩:=hok b _ z
      obtain⟨e2,_⟩:=hok' b _ z2
      rw[e] at e1;cases e1
      exact e2
 cases hk:K.lookup a with
 |some o=>
  have e:=KX a o hk
  rw[ha] at e
  cases e
  refine core (λ_=>none) (λ_ => .inl rfl) (.inr ⟨_,vs.toArray,_,hk,rfl,rfl,rfl,by rw[aw,lenV];exact hl,by simpa using rv⟩) (λb u z=>by have z':(none:Option HO)=some u:=z;cases z') (λb z=>absurd rfl z) λz=>absurd rfl z
 |none=>
  refine core (λb=>if b=a then some (.frz { cls := .type "list",data := .seq vs.toArray } (.lst (ns.map V.int))) else none) (λb=>?_) (.inl (.inr ⟨{ cls := .type "list",data := .seq vs.toArray },if_pos rfl⟩)) (λb u z=>?_) (λb z=>?_) λ_=>hk
  ·by_cases hb:b=a
   ·exact .inr ⟨_,_,if_pos hb⟩
   ·exact .inl (if_neg hb)
  ·by_cases hb:b=a
   ·have z':=(if_pos hb).symm.trans z
    cases z'
    subst hb
    exact⟨ha,by rw[ai];exact hl,vs,_,rv,ha⟩
   ·have z':=(if_neg hb).symm.trans z
    cases z'
  ·by_cases hb:b=a
   ·exact hb
   ·exact absurd (if_neg hb) z
theorem aEc {l:PySem.W.OpenLaw}{n k:Nat}{q:Program}{loose:List Str}{XP:(Str->Option Value)->Heap->Prop}{YP:World->Heap->Prop}{d:DefRec}{K:Params->aa}{CX:World->CXT}{sp:World->Sp}{x:Str}
  (hn:l.most=some n) (hn2:n<=b8) (hdf:d.params.defaults=[]) (hr:Room k zo)
  (hY:∀(w:World) (h:Heap),YP w h->(K w.params).In h)
  (F:∀(w:World) (mg:Str->Option Value) (fa:Addr) (h:Heap),(K w.params).In h->h.Ns c9 mg->mg d.name=some (.ref fa) ->
   ∃fd:FuncData,(∀(s:Shared) (u:Value),zk s fd ⟨[u],[]⟩ [(x,u)]) /\
    ∀base:Heap,(K w.params).In base->base.Ns c9 mg->FnOk l.prog w (K w.params) mg base (CX w) k fa fd [x] (sp w))
  (hsp:∀(w:World) (H:Hp) (a:Addr) (ns:List Int),ns.length<=n->aHf H->SqL (K w.params) H a (ns.map V.int)->sp w [.ref a] H (λv _=>v = .bl true) λ_ _ _=>False)
  (hCX:∀(w:World) (H:Hp) (s:Shared) (e:Value) (s':Shared),CX w [] H s (λ_ _ _=>False) e s'->False) :
  PySem.W.WalkO q loose XP YP l.row.toRowW d [] (λf vs=>PySem.call f vs):=by
 refine Att.attach_call hn hdf λw s₀ s₁ mg mb fa o pm cd doc a vs ns G Y ho hd hcd hmg hobj hints hlen hg=>?_
 have KX:=hY w _ Y
 obtain⟨fd,hb,hF⟩:=F w mg fa _ KX G.T.g hmg
 exact aBq KX G.T.g G.T.b G.T.builtins G.T.nolimit hg hobj hints (bq hlen hn2) hr hF hb (λH hO hS=>hsp w H a ns hlen hO hS) λH e s'=>hCX w H s₁ e s'
def fJ (s:Stmt):Arguments:=match s with
 | .FunctionDef _ a _ _ _ _ _ _ _ _=>a
 |_=>{ posonlyargs:=[],args:=[],vararg:=none,kwonlyargs:=[],kw_defaults:=[],kwarg:=none,defaults:=[] }
def dE (s:Stmt):List Stmt:=match s with
 | .FunctionDef _ _ b _ _ _ _ _ _ _=>b
 |_=>[]
def bI (s:Stmt):Scope:=match s with
 | .FunctionDef _ _ _ _ _ _ sc _ _ _=>sc
 |_=>{ kind := .function,names:=[],isGenerator:=false,isCoroutine:=false }
abbrev CX0:CXT:=λ_ _ _ _ _ _=>False
abbrev E0:XK:=λ_ _ _=>False
theorem aHv {X:Cx}:oG CX0 X E0:=λ_ _ _ _ _ _ _ h=>h.elim
structure Fun (K:aa)(x qual:Str)(st:Stmt)(f:Addr)(fd:FuncData):Prop where
 ex:∃(oc:Value) (od:Option Addr) (kV doc pm:Value) (an:Option Addr) (cdv ct:Value) (osl:Array (Option Value)),
  fd=ja x qual (fJ st) (dE st) (bI st) .none kV doc pm an cdv ct/\K.lookup f=some ⟨oc,od, .func fd,osl⟩/\ug K cdv qual=true
 kp:mx K (.ref f)=true
section
variable {P:Program}{w:World}{K:aa}{mg:Str->Option Value}{base:Heap}
theorem Fun.ok {x qual:Str}{st:Stmt}{f:Addr}{fd:FuncData}{N ps:List Str}{k:Nat}{sp:Sp}(F:Fun K x qual st f fd)(S:jH N ps (bI st))(len:∀vs H Q E,sp vs H Q E->vs.length=ps.length)
  (hbody:∀(cdv:Value) (A:Around) (outer:List Env) (s:Shared) (H:Hp) (vs:List V) (Q:VK) (E:XK),Room k (A.deeper (wq qual (bI st) s.heap.objs.size f cdv))->sp vs H Q E ->
   ∃t,PSs (tD CX0 P w K mg base N qual (bI st) f cdv A outer s H E).nox (dE st) t/\t { nx:=λ_ H'=>Q .non H',rt:=Q } (bZ N vs) H):FnOk P w K mg base CX0 (k+1) f fd ps sp:=by
 obtain⟨oc,od,kV,doc,pm,an,cdv,ct,osl,rfl,lk,hcd⟩:=F.ex
 refine aFR lk hcd S len λA outer s H vs Q E hr hsp=>?_
 obtain⟨t,h,q⟩:=hbody cdv A outer s H vs Q E hr hsp
 exact⟨t,h.nox,q⟩
theorem Fun.binds {x qual:Str}{st:Stmt}{f:Addr}{fd:FuncData}{ps:List Str}(F:Fun K x qual st f fd)
  (h:∀(kV doc pm:Value) (an:Option Addr) (cdv ct:Value) (us:List Value),us.length=ps.length->y2 (ja x qual (fJ st) (dE st) (bI st) .none kV doc pm an cdv ct) ⟨us,[]⟩=pure (ps.zip us)):Binds K fd ps []:=by
 obtain⟨oc,od,kV,doc,pm,an,cdv,ct,osl,rfl,lk,hcd⟩:=F.ex
 exact .all (h kV doc pm an cdv ct)
theorem zS {x qual:Str}{st:Stmt}{f:Addr}{oc:Value}{od an:Option Addr}{osl:Array (Option Value)}{kV doc pm cdv ct:Value}(l:K.lookup f=some ⟨oc,od, .func (ja x qual (fJ st) (dE st) (bI st) .none kV doc pm an cdv ct),osl⟩)
  (c:ug K cdv qual=true) (k:mx K (.ref f)=true):Fun K x qual st f (ja x qual (fJ st) (dE st) (bI st) .none kV doc pm an cdv ct):=⟨⟨oc,od,kV,doc,pm,an,cdv,ct,osl,rfl,l,c⟩,k⟩
end
theorem pC {A:Around}{k:Nat}(hr:Room k A):A.units+1<cLine:=cp (Nat.add_le_add_left (by decide:1<=64) _) hr.units
section
variable {X:Cx}
theorem pv (i:Nat){x:Str}{pos:Pos}(hN:X.N[i]?=some x:=by rfl)(hv:Vis X.env.scope x:=by first | exact Or.inl rfl | exact Or.inr (Or.inl rfl) | exact Or.inr (Or.inr rfl))(hd:(x == ("__debug__" : Str))=false:=by decide)
  (hcd:(x == ("__classdict__" : Str))=false:=by decide):PE X (.Name x pos) (aD i):=aGg hN hv hd hcd
end
theorem aIi {A B:Prop}(h:B):if false=true then A else B:=by
 rw[if_neg cf]
 exact h
theorem aDx {c A B:Prop}[Decidable c](h1:c->A)(h2:¬ c->B):if c then A else B:=by
 by_cases h:c
 ·rw[if_pos h]
  exact h1 h
 ·rw[if_neg h]
  exact h2 h
def Same (H H':Hp):Prop:=∀b o,H b=some o->H' b=some o
theorem Same.refl (H:Hp):Same H H:=λ_ _ h=>h
theorem Same.trans {H H1 H2:Hp}(a:Same H H1)(b:Same H1 H2):Same H H2:=λc o h=>b c o (a c o h)
theorem Same.free {H H':Hp}(e:Same H H'){l:Addr}(h:H' l=Option.none):H l=Option.none:=by
 cases q:H l with
 |none=>rfl
 |some o=>
  rw[e l o q] at h
  cases h
theorem Same.seq {K:aa}{H H':Hp}{a:Addr}{xs:List V}(e:Same H H')(h:SqL K H a xs):SqL K H' a xs:=by
 rcases h with(h | ⟨o,h⟩) | h
 ·exact .inl (.inl (e _ _ h))
 ·exact .inl (.inr ⟨o,e _ _ h⟩)
 ·exact .inr h
section
variable {κ:Type}[DecidableEq κ]
def wB (kvs:List (κ×V)) (k:κ):Option V:=(kvs.find? λkv=>decide (kv.1=k)).map (·.2)
def qI (kvs:List (κ×V)) (k:κ) (v:V):List (κ×V):=
 if(kvs.any λkv=>decide (kv.1=k))=true then kvs.map (λkv=>if kv.1=k then(kv.1,v) else kv) else kvs++[(k,v)]
theorem iU {p:κ×V}{r:List (κ×V)}{k:κ}(e:p.1=k):wB (p :: r) k=some p.2:=by simp[wB,lg,e]
theorem iM {p:κ×V}{r:List (κ×V)}{k:κ}(e:¬ p.1=k):wB (p :: r) k=wB r k:=by simp[wB,lg,e]
theorem vA (k:κ):∀kvs:List (κ×V),(kvs.any λkv=>decide (kv.1=k))=(wB kvs k).isSome
 |[]=>rfl
 |p :: r=>by
  rw[qy]
  by_cases e:p.1=k
  ·simp only[iU e,decide_eq_true e,Bool.true_or,Option.isSome_some]
  ·rw[iM e,decide_eq_false e,zc];exact vA k r
theorem gR (kvs:List (κ×V))(k:κ)(v:V):(qI kvs k v).length<=kvs.length+1:=by
 unfold qI
 split
 ·rw[ai];omega
 ·rw[au,ba,j3];omega
theorem RelO.isSome_eq {o:Option V}{u:Option Value}(r:RelO o u):o.isSome=u.isSome:=by
 cases o with
 |none=>cases u with
  |none=>rfl
  |some _=>exact(show False from r).elim
 |some _=>cases u with
  |none=>exact(show False from r).elim
  |some _=>rfl
theorem KV.val {kvs:List (κ×V)}{vs:List (κ×Value)}(r:KV kvs vs)(k:κ):RelO (wB kvs k) (zp vs k):=by
 unfold KV at r
 induction r with
 |nil=>exact True.intro
 | @cons p q ps qs h t ih=>
  obtain⟨h1,h2⟩:=h
  by_cases e:p.1=k
  ·have e':q.1=k:=h1.symm.trans e
   have b:zp (q :: qs) k=some q.2:=by simp[zp,lg,e']
   rw[iU e,b];exact h2
  ·have e':¬ q.1=k:=λz=>e (h1.trans z)
   have b:zp (q :: qs) k=zp qs k:=by simp[zp,lg,e']
   rw[iM e,b];exact ih
theorem KV.any {kvs:List (κ×V)}{vs:List (κ×Value)}(r:KV kvs vs)(k:κ):(kvs.any λkv=>decide (kv.1=k))=vs.any λkv=>decide (kv.1=k):=by
 unfold KV at r
 induction r with
 |nil=>rfl
 |cons h t ih=>rw[qy,qy,ih,h.1]
theorem KV.repl {kvs:List (κ×V)}{vs:List (κ×Value)}(r:KV kvs vs)(k:κ){y:V}{u:Value}(ry:RelV y u) :
  KV (kvs.map λkv=>if kv.1=k then(kv.1,y) else kv) (vs.map λkv=>if kv.1=k then(kv.1,u) else kv):=by
 unfold KV at r ⊢
 induction r with
 |nil=>exact .nil
 | @cons p q ps qs h t ih=>
  rw[bx,bx]
  refine .cons ?_ ih
  obtain⟨h1,h2⟩:=h
  by_cases e:p.1=k
  ·rw[if_pos e,if_pos (h1.symm.trans e)];exact⟨h1,ry⟩
  ·rw[if_neg e,if_neg (λz=>e (h1.trans z))];exact⟨h1,h2⟩
theorem KV.put {kvs:List (κ×V)}{vs:List (κ×Value)}(r:KV kvs vs)(k:κ){y:V}{u:Value}(ry:RelV y u):KV (qI kvs k y) (stored vs k u):=by
 unfold qI stored
 rw[r.any k]
 by_cases e:(vs.any λkv=>decide (kv.1=k))=true
 ·rw[if_pos e,if_pos e];exact r.repl k ry
 ·rw[if_neg e,if_neg e];exact Paired.snoc r ⟨rfl,ry⟩
theorem KV.length {kvs:List (κ×V)}{vs:List (κ×Value)}(r:KV kvs vs):kvs.length=vs.length:=u3 r
end
theorem wL {P:Program}{w:World}{k:Key}{u:Value}(r:RelV (kV k) u):(cM P w).is k u=true:=by
 cases k with
 |inl i=>obtain⟨t,e⟩:=(show ∃t,u=Value.int i t from r);subst e;exact tW P w i t
 |inr x=>obtain⟨t,e⟩:=(show ∃t,u=Value.str x t from r);subst e;exact uD P w x t
theorem sL {P:Program}{w:World}:∀{ks:List Key}{us:List Value},Vals (ks.map kV) us->ItemsAre (cM P w) ks us
 |[],_,r=>by rw[j7] at r;cases r;exact .nil
 |k :: ks,_,r=>by
  rw[bx] at r
  cases r with
  |cons h t=>exact .cons (wL h) (sL t)
abbrev KT (H:Hp):List (List Key×V)->List (List Key×Addr×Value)->Prop:=Paired λp q=>p.1=q.1/\H q.2.1=some (.tup (p.1.map kV))/\RelV p.2 q.2.2
theorem KT.val {H:Hp}{kvs:List (List Key×V)}{xs:List (List Key×Addr×Value)}(r:KT H kvs xs)(k:List Key):RelO (wB kvs k) ((atKey xs k).map (·.2)):=by
 induction r with
 |nil=>exact True.intro
 | @cons p q ps qs h t ih=>
  obtain⟨h1,_,h2⟩:=h
  by_cases e:p.1=k
  ·have e':q.1=k:=h1.symm.trans e
   have b:atKey (q :: qs) k=some q.2:=by simp[atKey,lg,e']
   rw[iU e,b];exact h2
  ·have e':¬ q.1=k:=λz=>e (h1.trans z)
   have b:atKey (q :: qs) k=atKey qs k:=by simp[atKey,lg,e']
   rw[iM e,b];exact ih
theorem KT.repl {H:Hp}{kvs:List (List Key×V)}{xs:List (List Key×Addr×Value)}(r:KT H kvs xs)(k:List Key){y:V}{u:Value}(ry:RelV y u) :
  KT H (kvs.map λkv=>if kv.1=k then(kv.1,y) else kv) (xs.map (putAt k u)):=by
 induction r with
 |nil=>exact .nil
 | @cons p q ps qs h t ih=>
  rw[bx,bx]
  refine .cons ?_ ih
  obtain⟨h1,h2,h3⟩:=h
  unfold putAt
  by_cases e:p.1=k
  ·rw[if_pos e,if_pos (h1.symm.trans e)];exact⟨h1,h2,ry⟩
  ·rw[if_neg e,if_neg (λz=>e (h1.trans z))];exact⟨h1,h2,h3⟩
theorem KT.put {H:Hp}{kvs:List (List Key×V)}{xs:List (List Key×Addr×Value)}(r:KT H kvs xs)(k:List Key){b:Addr}{y:V}{u:Value}(hb:H b=some (.tup (k.map kV)))(ry:RelV y u) :
  KT H (qI kvs k y) (storedH xs k b u):=by
 have e:(kvs.any λkv=>decide (kv.1=k))=(atKey xs k).isSome:=by
  rw[vA,(r.val k).isSome_eq,um]
 unfold qI storedH
 rw[e]
 by_cases q:(atKey xs k).isSome=true
 ·rw[if_pos q,if_pos q];exact r.repl k ry
 ·rw[if_neg q,if_neg q];exact Paired.snoc r ⟨rfl,hb,ry⟩
theorem KT.keeps {H H':Hp}{kvs:List (List Key×V)}{xs:List (List Key×Addr×Value)}(r:KT H kvs xs)(ht:∀b ys,H b=some (.tup ys)->H' b=some (.tup ys)):KT H' kvs xs:=
 Paired.mapP r λ_ _ z=>⟨z.1,ht _ _ z.2.1,z.2.2⟩
section
variable {P:Program}{w:World}{H:Hp}{h:Heap}{a:Addr}
theorem aEM {u:HO}(ok:HOk P w H h)(e:Rd H a u):ObjOk P w H h a u:=e.ok ok
theorem wM {kvs:List (Key×V)}(ok:HOk P w H h)(e:Rd H a (.dK kvs)):kvs.length<=b8/\(a == jj)=false/\∃vs,KV kvs vs/\h.DictOf (cM P w) a vs:=
 show ObjOk P w H h a (.dK kvs) from aEM ok e
theorem aFW {kvs:List (Key×V)}(ok:HOk P w H h)(e:H a=some (.dK kvs)):kvs.length<=b8/\(a == jj)=false/\∃vs,KV kvs vs/\h.DictOf (cM P w) a vs:=wM ok (.inl e)
theorem sB {ks:List Key}(ok:HOk P w H h)(e:H a=some (.tup (ks.map kV))):(yz (cM P w)).is h ks a:=by
 obtain⟨_,its,r,o,h1,h2,⟨n,h3⟩,_⟩:=(show ObjOk P w H h a (.tup (ks.map kV)) from ok a _ e)
 exact⟨o,its.toArray,n,h1,h2,h3,by simpa using sL r⟩
theorem aAB {kvs:List (List Key×V)}(ok:HOk P w H h)(e:Rd H a (.dT kvs)):kvs.length<=b8/\(a == jj)=false /\
  ∃xs,KT H kvs xs/\h.DictOfH (yz (cM P w)) a xs:=by
 obtain⟨z,y,xs,r,o,es,ep,h1,h2,h3,h4,h5⟩:=(show ObjOk P w H h a (.dT kvs) from aEM ok e)
 refine⟨z,y,xs,r,o,es,ep,h1,h2,h3,h4,λx hx=>?_,h5⟩
 have all:∀{l:List (List Key×V)}{m:List (List Key×Addr×Value)},KT H l m->∀x∈m,(yz (cM P w)).is h x.1 x.2.1:=by
  intro l m q
  induction q with
  |nil=>intro x hx;exact nomatch hx
  | @cons p q ps qs hq t ih=>
   intro x hx
   rcases a9.mp hx with e | hx
   ·subst e
    exact sB ok (by rw[<- hq.1];exact hq.2.1)
   ·exact ih x hx
 exact all r x hx
theorem aGY {kvs:List (List Key×V)}(ok:HOk P w H h)(e:H a=some (.dT kvs)):kvs.length<=b8/\(a == jj)=false /\
  ∃xs,KT H kvs xs/\h.DictOfH (yz (cM P w)) a xs:=aAB ok (.inl e)
end
def DGet (H:Hp) (a:Addr) (y:V) (r:Option V):Prop:=
 (∃kvs k,Rd H a (.dK kvs)/\y=kV k/\r=wB kvs k)\/∃kvs k b,Rd H a (.dT kvs)/\y = .ref b/\H b=some (.tup (k.map kV))/\r=wB kvs k
def DPut (H:Hp) (a:Addr) (y v:V) (H':Hp):Prop:=
 (∃kvs k,H a=some (.dK kvs)/\y=kV k/\kvs.length<b8/\H'=upd H a (.dK (qI kvs k v))) \/
 ∃kvs k b,H a=some (.dT kvs)/\y = .ref b/\H b=some (.tup (k.map kV))/\kvs.length<b8/\H'=upd H a (.dT (qI kvs k v))
theorem DGet.k {H:Hp}{a:Addr}{kvs:List (Key×V)}{k:Key}(e:H a=some (.dK kvs)):DGet H a (kV k) (wB kvs k) := .inl ⟨kvs,k, .inl e,rfl,rfl⟩
theorem DGet.t {H:Hp}{a b:Addr}{kvs:List (List Key×V)}{k:List Key}(e:H a=some (.dT kvs))(eb:H b=some (.tup (k.map kV))):DGet H a (.ref b) (wB kvs k) := .inr ⟨kvs,k,b, .inl e,rfl,eb,rfl⟩
theorem DPut.k {H:Hp}{a:Addr}{kvs:List (Key×V)}{k:Key}{v:V}(e:H a=some (.dK kvs))(hl:kvs.length<b8):DPut H a (kV k) v (upd H a (.dK (qI kvs k v))) := .inl ⟨kvs,k,e,rfl,hl,rfl⟩
theorem DPut.t {H:Hp}{a b:Addr}{kvs:List (List Key×V)}{k:List Key}{v:V}(e:H a=some (.dT kvs))(eb:H b=some (.tup (k.map kV)))(hl:kvs.length<b8) :
  DPut H a (.ref b) v (upd H a (.dT (qI kvs k v))) := .inr ⟨kvs,k,b,e,rfl,eb,hl,rfl⟩
section
variable {X:Cx}{pins:List (Addr×Obj)}{σ:St}{H:Hp}{s:Shared}{a:Addr}{y v:V}{u r:Value}{o:Option V}{A:Around}{E:Value->Shared->Prop}
theorem Inv.big (I:Inv X pins σ H s):jj<s.heap.objs.size:=by
 have h:c9<s.heap.objs.size:=(I.mod.glob.keeps I.bk).lt
 exact qf (by decide) h
theorem yS {Q:Value->Shared->Prop}(hu:A.units+1<cLine)(I:Inv X pins σ H s)(g:DGet H a y (some v))(ry:RelV y u)(h:∀w' s',Inv X pins σ H s'->RelV v w'->Q w' s') :
  wpAny (model X.prog X.w) A (u7 (.ref a) u) Q E s:=by
 rcases g with⟨kvs,k,e,ey,l⟩ | ⟨kvs,k,b,e,ey,eb,l⟩
 ·subst ey
  obtain⟨z,hd,vs,rel,dd⟩:=wM I.hok e
  obtain⟨w',hw,rw'⟩:=RelO.some_of (v:=v) (o:=zp vs k) (by rw[l];exact rel.val k)
  exact wpAny_getItem_of (wL ry) dd.mapOf hw (h w' _ (I.tok _) rw')
 ·subst ey
  cases (show u=Value.ref b from ry)
  obtain⟨z,hd,xs,rel,dd⟩:=aAB I.hok e
  obtain⟨w',hw,rw'⟩:=RelO.some_of (v:=v) (o:=(atKey xs k).map (·.2)) (by rw[l];exact rel.val k)
  obtain⟨p,hp,hp2⟩:=ku.mp hw
  refine wpAny_getItem_heap (n6 hu) (sB I.hok eb) dd hp ?_
  rw[hp2]
  exact h w' _ (I.tok _) rw'
theorem aHZ {Q:Value->Shared->Prop}(hu:A.units+1<cLine)(I:Inv X pins σ H s)(g:DGet H a y o)(ry:RelV y u)(h:∀s',Inv X pins σ H s'->Q (.bool o.isSome) s') :
  wpAny (model X.prog X.w) A (fi .In u (.ref a)) Q E s:=by
 rcases g with⟨kvs,k,e,ey,l⟩ | ⟨kvs,k,b,e,ey,eb,l⟩
 ·subst ey
  obtain⟨z,hd,vs,rel,dd⟩:=wM I.hok e
  refine wpAny_in_of (wL ry) hd dd.mapOf ?_
  rw[<- (rel.val k).isSome_eq,<- l]
  exact h _ (I.tok _)
 ·subst ey
  cases (show u=Value.ref b from ry)
  obtain⟨z,hd,xs,rel,dd⟩:=aAB I.hok e
  refine wpAny_in_heap (n6 hu) (sB I.hok eb) hd dd ?_
  have q:=(rel.val k).isSome_eq
  rw[um] at q
  rw[<- q,<- l]
  exact h _ (I.tok _)
theorem aDP {Q:Value->Shared->Prop}(hu:A.units+1<cLine)(I:Inv X pins σ H s)(g:DGet H a y o)(ry:RelV y u)(h:∀s',Inv X pins σ H s'->Q (.bool (!o.isSome)) s') :
  wpAny (model X.prog X.w) A (fi .NotIn u (.ref a)) Q E s:=by
 rcases g with⟨kvs,k,e,ey,l⟩ | ⟨kvs,k,b,e,ey,eb,l⟩
 ·subst ey
  obtain⟨z,hd,vs,rel,dd⟩:=wM I.hok e
  refine wpAny_notIn_of (wL ry) hd dd.mapOf ?_
  rw[<- (rel.val k).isSome_eq,<- l]
  exact h _ (I.tok _)
 ·subst ey
  cases (show u=Value.ref b from ry)
  obtain⟨z,hd,xs,rel,dd⟩:=aAB I.hok e
  refine wpAny_notIn_heap (n6 hu) (sB I.hok eb) hd dd ?_
  have q:=(rel.val k).isSome_eq
  rw[um] at q
  rw[<- q,<- l]
  exact h _ (I.tok _)
theorem tR {h':Heap}{t':Nat}{ob:HO}(I:Inv X pins σ H s)(mu:Mut (H a))(hs:ir a s.heap h')(he:∃q,h'.get? a=some q)(new:ObjOk X.prog X.w (upd H a ob) h' a ob) :
  Inv X pins σ (upd H a ob) { s with heap:=h',toks:=t' }:=
 I.write (x:=a) (e:=a) mu (.inl rfl) (λb q hb z=>(hs.2 b hb).trans z) he new
theorem aCO {P:Program}{w:World}{H':Hp}{h':Heap}{kvs:List (Key×V)}{vs:List (Key×Value)}(z:kvs.length<=b8)(hd:(a == jj)=false)(rel:KV kvs vs)(dd:h'.DictOf (cM P w) a vs) :
  ObjOk P w H' h' a (.dK kvs):=⟨z,hd,vs,rel,dd⟩
theorem aAc {H':Hp}{Q:Unit->Shared->Prop}(hu:A.units+1<cLine)(I:Inv X pins σ H s)(g:DPut H a y v H')(ry:RelV y u)(rv:RelV v r)(h:∀s',Inv X pins σ H' s'->Q () s') :
  wpAny (model X.prog X.w) A (setItem (.ref a) u r) Q E s:=by
 rcases g with⟨kvs,k,e,ey,l,eH⟩ | ⟨kvs,k,b,e,ey,eb,l,eH⟩
 ·subst ey eH
  obtain⟨z,hd,vs,rel,dd⟩:=aFW I.hok e
  have hz:vs.length<=b8:=by rw[<- rel.length];exact z
  have hl:(qI kvs k v).length<=b8:=by have:=gR kvs k v;omega
  refine wpAny_setItem_pairs (hsz:=hz) (wL ry) dd λh' dd' hs=>h _ ?_
  have he:∃q,h'.get? a=some q:=let⟨q,_,_,hq,_⟩:=dd';⟨q,hq⟩
  exact tR I (by rw[e];exact True.intro) hs he (aCO hl hd (rel.put k rv) dd')
 ·subst ey eH
  cases (show u=Value.ref b from ry)
  obtain⟨z,hd,xs,rel,dd⟩:=aGY I.hok e
  have hz:xs.length<=b8:=by rw[<- u3 rel];exact z
  have hl:(qI kvs k v).length<=b8:=by have:=gR kvs k v;omega
  refine wpAny_setItem_heap (hsz:=hz) (n6 hu) (sB I.hok eb) dd λh' dd' hs=>h _ ?_
  obtain⟨q,es,ep,hq,h2,h3,h4,_,h5⟩:=dd'
  refine tR I (by rw[e];exact True.intro) hs ⟨q,hq⟩ ⟨hl,hd,_,(rel.put k eb rv).keeps λc ys ec=>?_,q,es,ep,hq,h2,h3,h4,h5⟩
  rw[aR (ne_of ec e (λz=>nomatch z))]
  exact ec
end
section
variable {X:Cx}{pins:List (Addr×Obj)}{σ:St}{H:Hp}{s:Shared}{a:Addr}{kvs:List (Key×V)}{k:Key}{u:Value}{A:Around}{E:Value->Shared->Prop}
theorem aHt {Q:Value->Shared->Prop}(I:Inv X pins σ H s)(e:Rd H a (.dK kvs))(h:∀t s',Inv X pins σ H s'->Q (.int kvs.length t) s'):wpAny (model X.prog X.w) A (call (.builtin "len") [.ref a]) Q E s:=by
 obtain⟨z,hd,vs,rel,dd⟩:=wM I.hok e
 refine call_len_dict hd dd (by rw[<- rel.length];rw[jt] at z;omega) ?_
 rw[<- rel.length]
 exact h _ _ (I.tok _)
end
def aHB (i:Expr):Prop:=∀ov iv,yp i false ov iv=operate [ov,iv] (u7 ov iv)
theorem aDK {prog:Program}{w:World}{A:Around}{E:Value->Shared->Prop}{s:Shared}{env:Env}{value slice:Expr}{pos:Pos}{T id:String}{Q:Value->Shared->Prop}
  (hl:typeLookup (.type T) "__getitem__" = pure (some (.builtin id))) (hs:aHB slice)
  (h:wpAny (model prog w) A (eval value env) (λo s₁=>wpAny (model prog w) A (eval slice env) (λi s₂=>s₂.TypeIs o T/\wpAny (model prog w) A (u7 o i) Q E s₂) E s₁) E s) :
  wpAny (model prog w) A (eval (.Subscript value slice pos) env) Q E s:=by
 refine zm (gj h (λo s₁ h₁=>gj h₁ (λi s₂ h₂=>?_) λ_ _ x=>x) λ_ _ x=>x)
 obtain⟨hT,h₂⟩:=h₂
 unfold u9
 refine af ?_
 rw[getitemInPython_of_ne hT.not_modules]
 refine af (ll hT hl ?_)
 have fin:wpAny (model prog w) A (yp slice false o i) (λr s₃=>wpAny (model prog w) A (letTemporaryGo value o r >>= λ_=>pure r) Q E s₃) E s₂:=by
  rw[hs o i]
  exact wpAny_operating (gj h₂ (λr s₃ h₃=>af (wpAny_letTemporaryGo (ao h₃))) λ_ _ x=>x)
 first
  |exact ao (af fin)
  |exact af (ao (af fin))
  |exact af fin
theorem tV {X:Cx}{pins:List (Addr×Obj)}{σ:St}{H:Hp}{s:Shared}{a:Addr}{y:V}{o:Option V}(I:Inv X pins σ H s)(g:DGet H a y o):s.TypeIs (.ref a) "dict":=by
 rcases g with⟨kvs,k,e,_,_⟩ | ⟨kvs,k,b,e,_,_,_⟩
 ·obtain⟨_,_,vs,_,dd⟩:=wM I.hok e
  exact dd.typeIs
 ·obtain⟨_,_,xs,_,dd⟩:=aAB I.hok e
  exact dd.typeIs
def aEd (td ty:TE):TE:=λσ H Q=>td σ H λx H1=>ty σ H1 λy H2=>∃a v,x = .ref a/\DGet H2 a y (some v)/\Q v H2
def aGp (ty td:TE):TE:=λσ H Q=>ty σ H λy H1=>td σ H1 λx H2=>∃a o,x = .ref a/\DGet H2 a y o/\Q (.bl o.isSome) H2
def lP (ty td:TE):TE:=λσ H Q=>ty σ H λy H1=>td σ H1 λx H2=>∃a o,x = .ref a/\DGet H2 a y o/\Q (.bl (!o.isSome)) H2
def aBM (td ty tv:TE):TS:=λD σ H=>tv σ H λv H1=>td σ H1 λx H2=>ty σ H2 λy H3=>∃a H4,x = .ref a/\DPut H3 a y v H4/\D.nx σ H4
section
variable {X:Cx}{o i e value:Expr}{pos pos' tpos:Pos}{td ty tv:TE}
theorem zJ (hu:X.A.units+1<cLine)(ho:PE X o td)(hi:PE X i ty)(hs:aHB i):PE X (.Subscript o i pos) (aEd td ty):=by
 intro pins s σ H Q I h
 refine aDK PySem.F.slot_dict_getitem.lookup hs (thn (ho pins s σ H _ I h) λu s1 ⟨x,H1,I1,rx,q1⟩=>thn (hi pins s1 σ H1 _ I1 q1) λiv s2 ⟨y,H2,I2,ry,a,v,ex,g,q2⟩=>?_)
 subst ex
 obtain rfl:u=Value.ref a:=rx
 exact⟨tV I2 g,yS hu I2 g ry λw' s3 I3 rw'=>⟨v,H2,I3,rw',q2⟩⟩
theorem aCS (hu:X.A.units+1<cLine)(hi:PE X i ty)(ho:PE X o td):PC X .In i o (aGp ty td):=by
 intro pins s σ H Q I h
 refine thn (hi pins s σ H _ I h) λiv s1 ⟨y,H1,I1,ry,q1⟩=>thn (ho pins s1 σ H1 _ I1 q1) λu s2 ⟨x,H2,I2,rx,a,ov,ex,g,q2⟩=>?_
 subst ex
 obtain rfl:u=Value.ref a:=rx
 exact aHZ hu I2 g ry λs3 I3=>⟨.bl ov.isSome,H2,I3,rfl,q2⟩
theorem mS (hu:X.A.units+1<cLine)(hi:PE X i ty)(ho:PE X o td):PC X .NotIn i o (lP ty td):=by
 intro pins s σ H Q I h
 refine thn (hi pins s σ H _ I h) λiv s1 ⟨y,H1,I1,ry,q1⟩=>thn (ho pins s1 σ H1 _ I1 q1) λu s2 ⟨x,H2,I2,rx,a,ov,ex,g,q2⟩=>?_
 subst ex
 obtain rfl:u=Value.ref a:=rx
 exact aDP hu I2 g ry λs3 I3=>⟨.bl (!ov.isSome),H2,I3,rfl,q2⟩
theorem yQ (hu:X.A.units+1<cLine)(ho:PE X o td)(hi:PE X i ty)(hv:PE X value tv)(hs:Ag value (some (.Subscript o i pos')) pos.line X.env=pure false) :
  PS X (.Assign [.Subscript o i pos'] value pos) (aBM td ty tv):=by
 intro pins s σ H D I h
 refine wpAny_Assign_Subscript (thn (hv pins s σ H _ I h) λr s1 ⟨v,H1,I1,rv,q1⟩=>thn (ho pins s1 σ H1 _ I1 q1) λu s2 ⟨x,H2,I2,rx,q2⟩=>thn (hi pins s2 σ H2 _ I2 q2) λiv s3 ⟨y,H3,I3,ry,a,H4,ex,g,q3⟩=>?_) hs
 subst ex
 obtain rfl:u=Value.ref a:=rx
 exact aAc hu I3 g ry rv λs4 I4=>⟨σ,H4,I4,q3⟩
end
theorem aBs {P:Program}{w:World}{H:Hp}(h:Heap)(hb:jj<h.objs.size):ObjOk P w H (h.push { cls := .type "dict",data := .dict #[] }) h.objs.size (.dK []):=
 ⟨bc _,beq_eq_false_iff_ne.mpr (gh (dt hb)),[], .nil,Heap.DictOf.new h⟩
section
variable {X:Cx}{pos:Pos}
end
def aBh:List (TE×TE)->St->Hp->(List (V×V)->Hp->Prop)->Prop
 |[],_,H,Q=>Q [] H
 | (tk,tv) :: r,σ,H,Q=>tk σ H λx H1=>tv σ H1 λy H2=>aBh r σ H2 λps H3=>Q ((x,y) :: ps) H3
abbrev VV:List (V×V)->List (Value×Value)->Prop:=Paired λp q=>RelV p.1 q.1/\RelV p.2 q.2
def PPs (X:Cx) (pos:Pos) (keys:List (Option Expr)) (values:List Expr) (trs:List (TE×TE)):Prop:=
 ∀(pins:List (Addr×Obj)) (s:Shared) (σ:St) (H:Hp) (Q:List (V×V)->Hp->Prop),Inv X pins σ H s->aBh trs σ H Q ->
  wpAny (model X.prog X.w) X.A (evalPairs (pairTrees keys values X.env pos)) (λvs s'=>∃ps H',Inv X pins σ H' s'/\VV ps vs/\Q ps H') X.xe s
theorem aDX {X:Cx}{pos:Pos}:PPs X pos [] [] []:=λpins s σ H Q I h=>pairTrees_nil_walk ⟨[],H,I, .nil,h⟩
theorem aBX {X:Cx}{pos:Pos}{k v:Expr}{ks:List (Option Expr)}{vs:List Expr}{tk tv:TE}{trs:List (TE×TE)}(hk:PE X k tk)(hv:PE X v tv)(hr:PPs X pos ks vs trs) :
  PPs X pos (some k :: ks) (v :: vs) ((tk,tv) :: trs):=λpins s σ H Q I h=>
 pairTrees_cons_walk (thn (hk pins s σ H _ I h) λu s1 ⟨x,H1,I1,rx,q1⟩=>thn (hv pins s1 σ H1 _ I1 q1) λw2 s2 ⟨y,H2,I2,ry,q2⟩=>
  thn (hr pins s2 σ H2 _ I2 q2) λws s3 ⟨ps,H3,I3,rel,q3⟩=>⟨(x,y) :: ps,H3,I3, .cons ⟨rx,ry⟩ rel,q3⟩)
def rY (kvs more:List (Key×V)):List (Key×V):=more.foldl (λacc kv=>qI acc kv.1 kv.2) kvs
theorem KV.merge:∀{more:List (Key×V)}{rs:List (Key×Value)}{kvs:List (Key×V)}{vs:List (Key×Value)},KV more rs->KV kvs vs->KV (rY kvs more) (merged vs rs):=by
 intro more rs kvs vs r
 unfold KV at r
 induction r generalizing kvs vs with
 |nil=>intro q;exact q
 | @cons p q ps qs h t ih=>
  intro r0
  have e:KV (qI kvs p.1 p.2) (stored vs q.1 q.2):=by
   have:=r0.put p.1 h.2
   rw[<- h.1];exact this
  exact ih e
theorem jC:∀(more kvs:List (Key×V)),(rY kvs more).length<=kvs.length+more.length
 |[],kvs=>by show kvs.length<=kvs.length+0;omega
 |p :: r,kvs=>by
  have h1:=jC r (qI kvs p.1 p.2)
  have h2:=gR kvs p.1 p.2
  show(rY (qI kvs p.1 p.2) r).length<=_
  rw[ba];omega
theorem oC {P:Program}{w:World}:∀{kvs:List (Key×V)}{ws:List (Value×Value)},VV (kvs.map λkv=>(kV kv.1,kv.2)) ws->∃rs,Carries (cM P w) ws rs/\KV kvs rs
 |[],_,r=>by rw[j7] at r;cases r;exact⟨[],True.intro, .nil⟩
 |p :: kvs,_,r=>by
  rw[bx] at r
  cases r with
  | @cons a b as bs h t=>
   obtain⟨rs,c,q⟩:=oC (P:=P) (w:=w) t
   obtain⟨b1,b2⟩:=b
   exact⟨(p.1,b2) :: rs,⟨wL h.1,rfl,c⟩, .cons ⟨rfl,h.2⟩ q⟩
def aFa (trs:List (TE×TE)):TE:=λσ H Q=>∀p,H p=none->aBh trs σ (upd H p (.dK [])) λps H2=>H2 p=some (.dK [])/\∃kvs:List (Key×V),ps=kvs.map (λkv=>(kV kv.1,kv.2))/\kvs.length<=15/\Q (.ref p) (upd H2 p (.dK (rY [] kvs)))
theorem aEz {X:Cx}{pos:Pos}{keys:List (Option Expr)}{values:List Expr}{trs:List (TE×TE)}(h:PPs X pos keys values trs)(hall:keys.all (·.isSome)=true)(hl:keys.length=values.length)(h0:keys≠[])
  (h15:keys.length<=15):PE X (.Dict keys values pos) (aFa trs):=by
 intro pins s σ H Q I q
 have hn:=I.hok.fresh (az s.heap.objs.size)
 have I1:=I.laid (a:=s.heap.objs.size) (o := .dK []) (h':=s.heap.push { cls := .type "dict",data := .dict #[] }) (t':=s.toks) (λ_ _ q=>aq _ q) (az _) (aBs s.heap I.big)
 refine wpAny_Dict_walk (knd:=cM X.prog X.w) hall hl h0 h15 (thn (h pins _ σ _ _ I1 (q _ hn)) λws s2 ⟨ps,H2,I2,rel,e,kvs,ep,lk,q2⟩=>?_)
 subst ep
 obtain⟨rs,c,rk⟩:=oC (P:=X.prog) (w:=X.w) rel
 obtain⟨z,hd,vs0,r0,dd⟩:=aFW I2.hok e
 cases r0
 refine⟨rs,c,dd,λh' dd' hs=>⟨.ref s.heap.objs.size,_,?_,rfl,q2⟩⟩
 have hz:(rY [] kvs).length<=b8:=by
  have h1:=jC kvs []
  rw[j3] at h1
  rw[jt];omega
 have he:∃q,h'.get? s.heap.objs.size=some q:=let⟨q,_,_,hq,_⟩:=dd';⟨q,hq⟩
 exact tR I2 (by rw[e];exact True.intro) hs he (aCO hz hd (rk.merge .nil) dd')
section
variable {X:Cx}{pins:List (Addr×Obj)}{σ:St}{H:Hp}{s:Shared}{a:Addr}{y d:V}{u r:Value}{o:Option V}{A:Around}{E:Value->Shared->Prop}
end
section
variable {X:Cx}{o e f:Expr}{apos cpos:Pos}{td ty tx:TE}
end
section
variable {X:Cx}{pins:List (Addr×Obj)}{σ:St}{H:Hp}{s:Shared}{a:Addr}{kvs:List (Key×V)}{A:Around}{E:Value->Shared->Prop}
end
section
variable {X:Cx}{pins:List (Addr×Obj)}{σ:St}{H:Hp}{s:Shared}{a:Addr}{y:V}{u:Value}{A:Around}{E:Value->Shared->Prop}
end
section
variable {X:Cx}
theorem zE:CallR X (.builtin "len") (λxs H Q=>∃a kvs,xs=[V.ref a]/\H a=some (.dK kvs)/\Q (.int kvs.length) H):=by
 intro pins s σ H xs us Q I r h
 obtain⟨a,kvs,rfl,ha,q⟩:=h
 obtain⟨u,rfl,ru⟩:=pP r
 cases ru
 exact aHt I (.inl ha) λt s' I'=>⟨.int kvs.length,H,I',⟨t,rfl⟩,q⟩
end
section
variable {κ:Type}[DecidableEq κ]
theorem tK:∀{l:List κ}{k:κ},l.Nodup->¬ k∈l->(l++[k]).Nodup
 |[],k,_,_=>by simp
 |a :: r,k,h,hk=>by
  obtain⟨h1,h2⟩:=dk.mp h
  show(a :: (r++[k])).Nodup
  refine dk.mpr ⟨λm=>?_,tK h2 λm=>hk (a9.mpr (Or.inr m))⟩
  rcases bo.mp m with q | q
  ·exact h1 q
  ·exact hk (a9.mpr (Or.inl (ay.mp q).symm))
end
def gB (J:It) (g:TG) (tb:TS):TS:=λD σ H=>∃W:Nat->Nat->St->Hp->Prop,(∃m,W 0 m σ H)/\∀i m σ H,W i m σ H ->
 (J.stop i H/\D.nx σ H)\/(J.go i H/\∃N:St->Hp->Prop,(∀σ' H',N σ' H'->∃m',m'<m/\W (i+1) m' σ' H')/\∀x H',J.yld i H x H'->g x σ H' λσ2 H2=>tb { D with nx:=N,ct:=N,bk:=D.nx } σ2 H2)
def rA (elt:Expr) (gens:List Comprehension) (scope:Scope) (pos:Pos) (d:Nat) (acc:Value) (env:Env) (k:Sem Fin):Sem Fin:=
 match gens[d+1]? with
 |some g'=>eval g'.iter env >>= λx=>yn g'.iter.pos >>= λ_=>mf g'.iter env x >>= λx=>wj [x] (Ah x) >>= λi=>
   runOwn (.compStart (.ListComp elt gens scope pos) (d+1) i acc env) env >>= λ_=>k
 |none=>(eval elt env >>= λx=>call (.builtin "list.append") [acc,x] >>= λ_=>pure ()) >>= λ_=>k
theorem tY {elt target iter:Expr}{ifs:List Expr}{gens:List Comprehension}{scope:Scope}{pos:Pos}{d:Nat}(it acc:Value)(env:Env)(hg:gens[d]?=some ⟨target,iter,ifs,0⟩)
  (hn:∀g',gens[d+1]?=some g'->g'.is_async=0) :
  compTurn (.ListComp elt gens scope pos) d it acc env=(yn iter.pos >>= λ_=>wm it >>= λr=>match r with
   |none=>pure (.done .next)
   |some v=>rf target it v >>= λ_=>zu target env v >>= λ_=>
    (forIn ifs true λc r=>if r=true then do let ok <- isTrue c env (eval c env);pure (ForInStep.yield ok) else pure (ForInStep.yield r)) >>= λok=>
     if ok=true then rA elt gens scope pos d acc env (again (.compLoop (.ListComp elt gens scope pos) d it acc env))
     else again (.compLoop (.ListComp elt gens scope pos) d it acc env)):=by
 unfold compTurn rA
 simp only[hg]
 cases h:gens[d+1]? with
 |none=>rfl
 |some g'=>
  obtain⟨t',i',f',a'⟩:=g'
  have e:a'=0:=hn _ h
  subst e
  rfl
def fX:List TT->TS->TS
 |[],tb=>tb
 |c :: r,tb=>fA c (fX r tb) aL
inductive PTs (X:Cx):List Expr->List TT->Prop
 |nil:PTs X [] []
 |cons {c:Expr}{cs:List Expr}{t:TT}{ts:List TT}:PT X c t->PTs X cs ts->PTs X (c :: cs) (t :: ts)
section
variable {X:Cx}
theorem tN {cs:List Expr}{s:Shared}{Q:Bool->Shared->Prop}{E:Value->Shared->Prop}(h:Q false s) :
  wpAny (model X.prog X.w) X.A (forIn cs false λc r=>if r=true then do let ok <- isTrue c X.env (eval c X.env);pure (ForInStep.yield ok) else pure (ForInStep.yield r)) Q E s:=by
 induction cs with
 |nil=>rw[kn];exact ao h
 |cons c cs ih=>
  rw[iw,if_neg cf]
  exact af (ao ih)
theorem qL {tb:TS}{D:jG}{pins:List (Addr×Obj)}:∀{cs:List Expr}{ts:List TT},PTs X cs ts->∀{s:Shared}{σ:St}{H:Hp},Inv X pins σ H s->fX ts tb D σ H ->
  wpAny (model X.prog X.w) X.A (forIn cs true λc r=>if r=true then do let ok <- isTrue c X.env (eval c X.env);pure (ForInStep.yield ok) else pure (ForInStep.yield r))
   (λok s'=>∃H',Inv X pins σ H' s'/\if ok=true then tb D σ H' else D.nx σ H') X.xe s
 |_,_, .nil,s,σ,H,I,h=>by rw[kn];exact ao ⟨H,I,by rw[if_pos rfl];exact h⟩
 |_,_, .cons (cs:=cs) hc hr,s,σ,H,I,h=>by
  rw[iw,if_pos rfl]
  refine af (af (thn (hc pins s σ H _ I h) λb s1 ⟨H1,I1,q1⟩=>ao ?_))
  cases b with
  |true=>
   rw[if_pos rfl] at q1
   exact qL hr I1 q1
  |false=>
   rw[if_neg cf] at q1
   exact tN ⟨H1,I1,by rw[if_neg cf];exact q1⟩
end
def PB (X:Cx) (elt:Expr) (gens:List Comprehension) (scope:Scope) (pos:Pos) (d:Nat) (acc:Addr) (t:TS):Prop:=
 ∀(pins:List (Addr×Obj)) (s:Shared) (σ:St) (H:Hp) (D:jG) (k:Sem Fin) (Q:Fin->Shared->Prop) (E:Value->Shared->Prop),Inv X pins σ H s->t D σ H ->
  (∀s' σ' H',Inv X pins σ' H' s'->D.nx σ' H'->wpAny (model X.prog X.w) X.A k Q E s')->wpAny (model X.prog X.w) X.A (rA elt gens scope pos d (.ref acc) X.env k) Q E s
def eJ (te:TE) (acc:Addr):TS:=λD σ H=>te σ H λx H1=>∃xs,H1 acc=some (.lst xs)/\xs.length<b8/\D.nx σ (upd H1 acc (.lst (xs++[x])))
section
variable {X:Cx}
theorem cV {elt:Expr}{gens:List Comprehension}{scope:Scope}{pos:Pos}{d:Nat}{acc:Addr}{te:TE}(hx:X.xe=λ_ _=>False)(he:PE X elt te)(hl:gens[d+1]?=none):PB X elt gens scope pos d acc (eJ te acc):=by
 intro pins s σ H D k Q E I h hk
 unfold rA
 rw[hl]
 refine af (af (gj (he pins s σ H _ I h) (λv s1 ⟨x,H1,I1,r1,xs,ha,hz,q⟩=>?_) λ_ _ z=>by rw[hx] at z;exact z.elim))
 have hm:=cH (X:=X) pins s1 σ H1 (.ref acc) [x] (.ref acc) [v] (λv H'=>v = .non/\D.nx σ H') I1 rfl (.cons r1 .nil) ⟨acc,xs,x,rfl,rfl,ha,hz,rfl,q⟩
 refine af (gj hm (λ_ s2 ⟨x2,H2,I2,r2,_,q2⟩=>ao (hk s2 σ H2 I2 q2)) λ_ _ z=>by rw[hx] at z;exact z.elim)
theorem rB {elt target iter:Expr}{ifs:List Expr}{gens:List Comprehension}{scope:Scope}{pos:Pos}{d:Nat}{acc it:Addr}{fp:List Addr}{tn:Nat->Heap->Prop}{J:It}{g:TG}{ts:List TT}{tb:TS}{D:jG}{pins:List (Addr×Obj)}{s:Shared}{σ:St}{H:Hp}
  (hx:X.xe=λ_ _=>False) (hc:X.calm=true) (hgd:gens[d]?=some ⟨target,iter,ifs,0⟩) (hn:∀g',gens[d+1]?=some g'->g'.is_async=0)
  (hg:PG X target g) (hts:PTs X ifs ts) (hb:PB X elt gens scope pos d acc tb)
  (T:aEG X.prog X.w X.K target J fp it tn) (I:Inv X pins σ H s) (st:tn 0 s.heap) (hf:∀b∈fp,FpOk X pins H b) (h:gB J g (fX ts tb) D σ H) :
  uf (model X.prog X.w) X.A (.compStart (.ListComp elt gens scope pos) d (.ref it) (.ref acc) X.env) (λr s'=>∃f,r = .ok f/\∃σ' H',Inv X pins σ' H' s'/\D.nx σ' H') s:=by
 have stat:∀{H':Hp},(∀b∈fp,H' b=none)->∀b∈fp,FpOk X pins H' b:=λhn b hb=>⟨hn b hb,(hf b hb).2⟩
 obtain⟨W,⟨m0,w0⟩,turn⟩:=h
 have E0:∀(e:Value) (s':Shared),X.xe e s'->notedBy (model X.prog X.w) X.A X.env (λe s'=>∃f,(Except.error e:vp) = .ok f/\∃σ' H',Inv X pins σ' H' s'/\D.nx σ' H') e s':=λe s' z=>by rw[hx] at z;exact z.elim
 have loop:uf (model X.prog X.w) X.A (.compLoop (.ListComp elt gens scope pos) d (.ref it) (.ref acc) X.env) (λr s'=>∃f,r = .ok f/\∃σ' H',Inv X pins σ' H' s'/\D.nx σ' H') s:=by
  refine codeAny_loop rfl (λn s'=>∃i σ' H',Inv X pins σ' H' s'/\tn i s'.heap/\(∀b∈fp,H' b=none)/\W i n σ' H') ?_ m0 ⟨0,σ,H,I,st,λb hb=>(hf b hb).1,w0⟩
  rintro n s3 ⟨i,σ3,H3,I3,st3,fr3,w3⟩
  show wpAny _ X.A ((compTurn (.ListComp elt gens scope pos) d (.ref it) (.ref acc) X.env).onRaise (λx=>do noteFrame x X.env;theTreesLotGoes x)) _ _ s3
  refine wpAny_noted ?_
  rw[tY _ _ _ hgd hn]
  refine af (qx (af ?_))
  rcases turn i n σ3 H3 w3 with⟨stop,qn⟩ | ⟨go,N,hN,step⟩
  ·refine gj (T.done X rfl rfl rfl hc i pins s3 σ3 H3 (λ_ _=>False) I3 (stat fr3) st3 stop) (λr s4 ⟨hr,I4⟩=>?_) (λ_ _ z=>z.elim)
   subst hr
   exact ao ⟨.next,rfl,σ3,H3,I4,qn⟩
  ·refine gj (T.item X rfl rfl rfl hc i pins s3 σ3 H3 (λ_ _=>False) I3 (stat fr3) st3 go) (λr s4 ⟨u,hr,h4⟩=>?_) (λ_ _ z=>z.elim)
   subst hr
   refine af (gj h4 (λ_ s5 ⟨x,H5,I5,r5,y5,st5,fr5⟩=>?_) (λ_ _ z=>z.elim))
   have I5':=I5.pinned (stat fr5) (T.obj _ _ st5)
   refine af (gj (hg _ s5 σ3 H5 x u _ I5' r5 (step x H5 y5)) (λ_ s6 ⟨σ6,H6,I6,q6⟩=>?_) E0)
   refine af (gj (qL hts I6 q6) (λok s7 ⟨H7,I7,q7⟩=>?_) E0)
   have again:∀{σ7:St}{H7:Hp}{s7:Shared},Inv X (pins++sR fp s5.heap) σ7 H7 s7->N σ7 H7->∃m,m<n/\∃i σ' H',Inv X pins σ' H' s7/\tn i s7.heap/\(∀b∈fp,H' b=none)/\W i m σ' H':=λ{σ7 H7 s7} I7 n7=>by
    obtain⟨m',hm,w7⟩:=hN σ7 H7 n7
    refine⟨m',hm,i+1,σ7,H7,I7.unpinned,T.keep _ _ _ st5 λb hb o e=>(I7.pin (b,o) (cm _ (cm _ (gH hb e)))).1,λb hb=>?_,w7⟩
    obtain⟨o,e,d⟩:=T.obj _ _ st5 b hb
    exact(I7.pin (b,o) (cm _ (cm _ (gH hb e)))).2.1
   cases ok with
   |false=>
    rw[if_neg cf] at q7 ⊢
    exact ao ⟨rfl,again I7 q7⟩
   |true=>
    rw[if_pos rfl] at q7 ⊢
    exact hb _ s7 σ6 H7 _ _ _ _ I7 q7 λs8 σ8 H8 I8 q8=>ao ⟨rfl,again I8 q8⟩
 refine wu ?_
 show wpAny _ _ ((compStart (.ListComp elt gens scope pos) d (.ref it) (.ref acc) X.env).onRaise (λx=>do noteFrame x X.env;yn theWindowsPlace)) _ _ s
 refine wpAny_notedAt ?_
 have hcl:clausesOf (.ListComp elt gens scope pos)=gens:=rfl
 unfold compStart
 rw[hcl,hgd]
 show wpAny _ _ (ask >>= _) _ _ s
 refine af (ki (wpAny_ite ?_))
 split
 ·first
   |exact af (ao (ao (And.intro rfl loop)))
   |exact ao (And.intro rfl loop)
 ·refine af (xm ?_)
  show wpAny _ _ (yn iter.pos >>= _) _ _ s
  exact af (qx (af (T.self X.A 0 s _ _ st (ao (And.intro rfl loop)))))
theorem aBj {elt target iter:Expr}{ifs:List Expr}{gens:List Comprehension}{scope:Scope}{pos:Pos}{d:Nat}{acc:Addr}{wi:TI}{g:TG}{ts:List TT}{tb:TS}
  (hx:X.xe=λ_ _=>False) (hc:X.calm=true) (hgd:gens[d+1]?=some ⟨target,iter,ifs,0⟩) (hn:∀g',gens[d+2]?=some g'->g'.is_async=0)
  (hi:PI X target iter wi) (hg:PG X target g) (hts:PTs X ifs ts) (hb:PB X elt gens scope pos (d+1) acc tb) (hs:∀x,mf iter X.env x=pure x:=by intro _;rfl) :
  PB X elt gens scope pos d acc (hV wi g (fX ts tb)):=by
 intro pins s σ H D k Q E I h hk
 unfold rA
 rw[hgd]
 have EX:∀(e:Value) (s':Shared),X.xe e s'->E e s':=λe s' z=>by rw[hx] at z;exact z.elim
 refine af (gj (hi pins s σ H (λJ H1=>gB J g (fX ts tb) D σ H1) I h) (λv s1 h1=>?_) EX)
 refine af (qx (af (vb (hs v) (af (ft (gj h1 (λitv s2 h2=>?_) EX))))))
 obtain⟨it,fp,tn,J,H2,e,I2,T,st2,f2,q2⟩:=h2
 subst e
 refine af (wpAny_runOwn (jq (rB hx hc hgd hn hg hts hb T I2 st2 f2 q2) λr s3 ⟨f,hr,σ3,H3,I3,q3⟩=>?_))
 subst hr
 exact hk s3 σ3 H3 I3 q3
end
def dQ (cells:List (Str×Addr)):List (Str×NameKind)->List (Str×Addr)->List (Str×Addr)
 |[],acc=>acc
 | (n,k) :: r,acc=>if k == .free then dQ cells r ((n,(cells.lookup n).getD 0) :: acc) else dQ cells r acc
theorem nK {scope:Scope}{env:Env}(h:∀x∈scope.names,x.2 = .free->(env.cells.lookup x.1).isSome=true):closureFor scope env=pure (dQ env.cells scope.names []):=by
 have go:∀(names:List (Str×NameKind)) (acc:List (Str×Addr)),(∀x∈names,x.2 = .free->(env.cells.lookup x.1).isSome=true) ->
   (forIn names acc λx (r:List (Str×Addr))=>if x.2 == NameKind.free then(do let c <- cellOf env x.1;pure (ForInStep.yield ((x.1,c) :: r))) else pure (ForInStep.yield r):Sem (List (Str×Addr)))=pure (dQ env.cells names acc):=by
  intro names
  induction names with
  |nil=>intro acc _;rw[kn];rfl
  |cons x r ih=>
   intro acc hh
   obtain⟨n,k⟩:=x
   rw[iw]
   unfold dQ
   cases hk:k == NameKind.free with
   |false=>
    rw[if_neg cf,if_neg cf]
    exact ih acc λy hy=>hh y (ar _ hy)
   |true=>
    rw[if_pos rfl,if_pos rfl]
    obtain⟨c,hc⟩:=gx.mp (hh (n,k) bp (by simpa using hk))
    have e:cellOf env n=pure c:=by
     unfold cellOf
     rw[show env.cells.lookup n=some c from hc]
    show(do let x <- (do let c <- cellOf env n;pure (ForInStep.yield ((n,c) :: acc)));_)=_
    rw[e]
    rw[show((env.cells.lookup n).getD 0)=c by rw[show env.cells.lookup n=some c from hc];rfl]
    exact ih ((n,c) :: acc) λy hy=>hh y (ar _ hy)
 have:=go scope.names [] h
 unfold closureFor
 refine Eq.trans ?_ (congrArg (λm=>m >>= λr=>pure r) this |>.trans rfl)
 rfl
theorem lR {cells:List (Str×Addr)}{x:Str}:∀(names:List (Str×NameKind)) (acc:List (Str×Addr)),(x,NameKind.free)∉names->(dQ cells names acc).lookup x=acc.lookup x
 |[],_,_=>rfl
 | (n,k) :: r,acc,h=>by
  unfold dQ
  have hr:(x,NameKind.free)∉r:=λz=>h (ar _ z)
  cases hk:k == NameKind.free with
  |false=>rw[if_neg cf];exact lR r acc hr
  |true=>
   rw[if_pos rfl,lR r _ hr,fw]
   have e:k = .free:=by simpa using hk
   have ne:(x == n)=false:=by
    cases q:x == n with
    |false=>rfl
    |true=>exact absurd (by rw[beq_iff_eq.mp q,e];exact bp) h
   rw[ne]
theorem kZ {cells:List (Str×Addr)}{x:Str}{c:Addr}(hc:cells.lookup x=some c):∀(names:List (Str×NameKind)) (acc:List (Str×Addr)),(x,NameKind.free)∈names->(dQ cells names acc).lookup x=some c
 |[],_,h=>by simp at h
 | (n,k) :: r,acc,h=>by
  unfold dQ
  by_cases hr:(x,NameKind.free)∈r
  ·cases hk:k == NameKind.free with
   |false=>rw[if_neg cf];exact kZ hc r acc hr
   |true=>rw[if_pos rfl];exact kZ hc r _ hr
  ·rcases a9.mp h with e | e
   ·cases e
    rw[if_pos (by decide),lR r _ hr,fw]
    simp[hc]
   ·exact absurd e hr
theorem jJ {cells:List (Str×Addr)}{x:Str}{c:Addr}:∀(names:List (Str×NameKind)) (acc:List (Str×Addr)),(∀y∈names,y.2 = .free->(cells.lookup y.1).isSome=true)->(x,c)∈dQ cells names acc ->
  (x,c)∈acc\/((x,NameKind.free)∈names/\cells.lookup x=some c)
 |[],_,_,h => .inl h
 | (n,k) :: r,acc,hh,h=>by
  unfold dQ at h
  have hr:∀y∈r,y.2 = .free->(cells.lookup y.1).isSome=true:=λy hy=>hh y (ar _ hy)
  cases hk:k == NameKind.free with
  |false=>
   rw[hk,if_neg cf] at h
   exact(jJ r acc hr h).imp id λz=>⟨ar _ z.1,z.2⟩
  |true=>
   rw[hk,if_pos rfl] at h
   have ek:k = .free:=by simpa using hk
   rcases jJ r _ hr h with z | z
   ·rcases a9.mp z with z | z
    ·cases z
     obtain⟨d,hd⟩:=gx.mp (hh (x,k) bp ek)
     exact .inr ⟨by rw[ek];exact bp,by rw[hd];rfl⟩
    ·exact .inl z
   ·exact .inr ⟨ar _ z.1,z.2⟩
theorem gS {cells:List (Str×Addr)}(inj:∀x y c,cells.lookup x=some c->cells.lookup y=some c->x=y):∀(names:List (Str×NameKind)) (acc:List (Str×Addr)),(names.map (·.1)).Nodup ->
  (∀y∈names,y.2 = .free->(cells.lookup y.1).isSome=true)->(∀p∈acc,cells.lookup p.1=some p.2/\p.1∉names.map (·.1))->(acc.Pairwise λx y=>x.2≠y.2)->(dQ cells names acc).Pairwise λx y=>x.2≠y.2
 |[],_,_,_,_,h=>h
 | (n,k) :: r,acc,nd,hh,ha,h=>by
  unfold dQ
  have hr:∀y∈r,y.2 = .free->(cells.lookup y.1).isSome=true:=λy hy=>hh y (ar _ hy)
  obtain⟨n1,n2⟩:=dk.mp nd
  cases hk:k == NameKind.free with
  |false=>
   rw[if_neg cf]
   exact gS inj r acc n2 hr (λp hp=>⟨(ha p hp).1,λz=>(ha p hp).2 (ar _ z)⟩) h
  |true=>
   rw[if_pos rfl]
   have ek:k = .free:=by simpa using hk
   obtain⟨d,hd⟩:=gx.mp (hh (n,k) bp ek)
   have hd':cells.lookup n=some d:=hd
   refine gS inj r _ n2 hr (λp hp=>?_) (tm.mpr ⟨λp hp e=>?_,h⟩)
   ·rcases a9.mp hp with e | hp
    ·subst e;exact⟨by rw[hd'];rfl,n1⟩
    ·exact⟨(ha p hp).1,λz=>(ha p hp).2 (ar _ z)⟩
   ·rw[hd'] at e
    have e':d=p.2:=e
    have:n=p.1:=inj n p.1 d hd' (by rw[e'];exact(ha p hp).1)
    exact(ha p hp).2 (by rw[<- this];exact bp)
theorem eM {x:Str}{c:Addr}:∀(names:List (Str×NameKind)) (n:Nat) (acc:List (Str×Addr)),(x,c)∈i8 n names acc->(n<=c/\(x,NameKind.cell)∈names)\/(x,c)∈acc
 |[],_,_,h => .inr h
 | (y,k) :: r,n,acc,h=>by
  unfold i8 at h
  cases hk:k == NameKind.cell with
  |false=>
   rw[hk,if_neg cf] at h
   exact(eM r n acc h).imp (λz=>⟨z.1,ar _ z.2⟩) id
  |true=>
   rw[hk,if_pos rfl] at h
   have ek:k = .cell:=by simpa using hk
   rcases eM r (n+1) _ h with z | z
   ·exact .inl ⟨by omega,ar _ z.2⟩
   ·rcases a9.mp z with z | z
    ·cases z
     exact .inl ⟨az _,by rw[ek];exact bp⟩
    ·exact .inr z
theorem dU:∀(names:List (Str×NameKind)) (n:Nat) (acc:List (Str×Addr)),(∀p∈acc,p.2<n)->(acc.Pairwise λx y=>x.2≠y.2)->(i8 n names acc).Pairwise λx y=>x.2≠y.2
 |[],_,_,_,h=>h
 | (y,k) :: r,n,acc,hl,h=>by
  unfold i8
  cases hk:k == NameKind.cell with
  |false=>rw[if_neg cf];exact dU r n acc hl h
  |true=>
   rw[if_pos rfl]
   refine dU r (n+1) _ (λp hp=>?_) (tm.mpr ⟨λp hp e=>?_,h⟩)
   ·rcases a9.mp hp with e | hp
    ·subst e;exact jk _
    ·exact iq (hl p hp)
   ·have e':n=p.2:=e
    exact jo _ (e' ▸ hl p hp)
theorem fE {x:Str}:∀(names:List (Str×NameKind)) (n:Nat) (acc:List (Str×Addr)),(x,NameKind.cell)∉names->(i8 n names acc).lookup x=acc.lookup x
 |[],_,_,_=>rfl
 | (y,k) :: r,n,acc,h=>by
  unfold i8
  have hr:(x,NameKind.cell)∉r:=λz=>h (ar _ z)
  cases hk:k == NameKind.cell with
  |false=>rw[if_neg cf];exact fE r n acc hr
  |true=>
   rw[if_pos rfl,fE r _ _ hr,fw]
   have e:k = .cell:=by simpa using hk
   have ne:(x == y)=false:=by
    cases q:x == y with
    |false=>rfl
    |true=>exact absurd (by rw[beq_iff_eq.mp q,e];exact bp) h
   rw[ne]
theorem dR {x:Str}{c:Addr}:∀(names:List (Str×NameKind)) (h:Heap) (acc:List (Str×Addr)),(x,c)∈i8 h.objs.size names acc->(x,c)∈acc\/(Ak h names).IsCell c none
 |[],_,_,hm => .inl hm
 | (y,k) :: r,h,acc,hm=>by
  unfold i8 at hm
  unfold Ak
  cases hk:k == NameKind.cell with
  |false=>
   rw[hk,if_neg cf] at hm
   rw[if_neg cf]
   exact dR r h acc hm
  |true=>
   rw[hk,if_pos rfl] at hm
   rw[if_pos rfl]
   have:=dR (x:=x) (c:=c) r (h.push { cls := .type "cell",data := .cell none }) ((y,h.objs.size) :: acc) (by rw[jb];exact hm)
   rcases this with z | z
   ·rcases a9.mp z with z | z
    ·cases z
     exact .inr ⟨_,wx r _ _ _ (br _ rfl),rfl⟩
    ·exact .inl z
   ·exact .inr z
theorem cS {x:Str}{k:NameKind}:∀{names:List (Str×NameKind)},(names.map (·.1)).Nodup->(x,k)∈names->names.lookup x=some k
 |[],_,h=>by simp at h
 | (y,j) :: r,nd,h=>by
  obtain⟨n1,n2⟩:=dk.mp nd
  rw[fw]
  rcases a9.mp h with e | e
  ·cases e;simp
  ·have ne:(x == y)=false:=by
    cases q:x == y with
    |false=>rfl
    |true=>exact absurd (c8.mpr ⟨(x,k),e,beq_iff_eq.mp q⟩) n1
   rw[ne]
   exact cS n2 e
theorem iY {scope:Scope}{env:Env}{x:Str}{k:NameKind}:(zq scope env).names.lookup x=some k->(k = .cell\/k = .free)->scope.names.lookup x=some .cell\/scope.names.lookup x=some .free:=by
 unfold zq
 show(scope.names.map _).lookup x=some k->_
 induction scope.names with
 |nil=>intro h;simp at h
 |cons p r ih=>
  obtain⟨n,j⟩:=p
  intro h hk
  rw[bx] at h
  rw[fw]
  by_cases hc:(j == NameKind.free && env.scope.kind == .function && env.kindOf n == some .cell)=true
  ·simp only[hc,if_true] at h
   rw[fw] at h
   cases q:x == n with
   |true=>
    have:j = .free:=by
     have:=(qt.mp (qt.mp hc).1).1
     simpa using this
    simp[this]
   |false=>rw[q] at h;simpa using ih h hk
  ·simp only[hc,dn,if_false] at h
   rw[fw] at h
   cases q:x == n with
   |true=>
    rw[q] at h
    simp only[Option.some.injEq] at h
    subst h
    rcases hk with e | e <;> simp[e]
   |false=>rw[q] at h;simpa using ih h hk
theorem qX {scope:Scope}{env:Env}{x:Str}(hf:env.scope.kind = .function):scope.names.lookup x=some .free->(zq scope env).names.lookup x=some .cell\/(zq scope env).names.lookup x=some .free:=by
 unfold zq
 show _->(scope.names.map _).lookup x=_\/(scope.names.map _).lookup x=_
 induction scope.names with
 |nil=>intro h;simp at h
 |cons p r ih=>
  obtain⟨n,j⟩:=p
  intro h
  rw[fw] at h
  rw[bx]
  cases q:x == n with
  |true=>
   rw[q] at h
   simp only[Option.some.injEq] at h
   subst h
   by_cases hc:(NameKind.free == NameKind.free && env.scope.kind == .function && env.kindOf n == some .cell)=true
   ·left;simp only[hc,if_true];rw[fw,q]
   ·right;simp only[hc,dn,if_false];rw[fw,q]
  |false=>
   rw[q] at h
   by_cases hc:(j == NameKind.free && env.scope.kind == .function && env.kindOf n == some .cell)=true
   ·simp only[hc,if_true];rw[fw,q];exact ih h
   ·simp only[hc,dn,if_false];rw[fw,q];exact ih h
def eD (X:Cx) (N:List Str) (scope:Scope) (s:Shared) (H:Hp) (fp:List Addr):Cx where
 prog:=X.prog
 w:=X.w
 K:=X.K
 mg:=X.mg
 base:=X.base
 A:=X.A
 N:=N
 s₀:=s
 H₀:=H
 env:=compEnvC scope (i8 (s.heap.objs.size+1) scope.names (dQ X.env.cells scope.names [])) s.heap.objs.size X.env
 outer:=X.stack
 stack:=X.stack
 ex:=fp
 fn:=λx=>scope.names.lookup x == some .cell
 calm:=X.calm
 pn:=[]
 xe:=λ_ _=>False
def aGo (σ:St):Option Nat->Option V
 |none=>none
 |some j=>(σ[j]?).join
def jB (N:List Str) (names encl:List (Str×NameKind)) (N':List Str) (ix:List (Option Nat)):Bool:=
 decide ((names.map (·.1)).Nodup) && names.all (λp=>!(p.2 == NameKind.free) || (encl.lookup p.1 == some NameKind.cell || encl.lookup p.1 == some NameKind.free)) && ix.length == N'.length &&
  ((N'.zip ix).all λp=>match p.2 with
   |none=>true
   |some j=>N[j]? == some p.1 && names.lookup p.1 == some NameKind.free)
def fS (ix:List (Option Nat)) (wi:TI) (g:TG) (ts:List TT) (tb:Addr->TS):TE:=λσ H Q=>wi σ H λJ H1=>∀acc,H1 acc=none ->
 gB J g (fX ts (tb acc)) { nx:=λ_ H'=>Q (.ref acc) H',rt:=λ_ _=>False } (ix.map (aGo σ)) (upd H1 acc (.lst []))
section
variable {X:Cx}{elt target iter:Expr}{ifs:List Expr}{rest:List Comprehension}{scope:Scope}{pos:Pos}{N':List Str}{ix:List (Option Nat)}{wi:TI}{g:TG}{ts:List TT}{tb:Addr->TS}
theorem xF {pins:List (Addr×Obj)}{σ:St}{H:Hp}{s:Shared}{fp:List Addr}{Q:Env->Shared->Prop}{E:Value->Shared->Prop}(I:Inv X pins σ H s)(hok:jB X.N scope.names X.env.scope.names N' ix=true)(hk:scope.kind = .function)
  (hf:∀b∈fp,FpOk X pins H b) (hfo:∀b∈fp,∃o,s.heap.get? b=some o)
  (h:∀s',(∀b o,s.heap.get? b=some o->s'.heap.get? b=some o)->Inv (eD X N' scope s H fp) [] (ix.map (aGo σ)) H s'->Q (newEnv scope s.heap.objs.size X.env.globals (i8 (s.heap.objs.size+1) scope.names (dQ X.env.cells scope.names [])) X.env.qual none .none (some X.env) zj) s') :
  wpAny (model X.prog X.w) X.A (yc scope X.env.globals (dQ X.env.cells scope.names []) [] X.env.qual none .none (some X.env)) Q E s:=by
 have hok2:=hok
 simp only[jB,du,decide_eq_true_eq,e7] at hok
 obtain⟨⟨⟨nd,hfr⟩,hlen⟩,hix⟩:=hok
 have hlen:ix.length=N'.length:=by simpa using hlen
 have isF:∀y∈scope.names,y.2 = .free->X.env.kindOf y.1=some .cell\/X.env.kindOf y.1=some .free:=λy hy e=>by
  have:=hfr y hy
  have:X.env.scope.names.lookup y.1=some .cell\/X.env.scope.names.lookup y.1=some .free:=by simpa[e] using this
  exact this
 have hasC:∀y∈scope.names,y.2 = .free->(X.env.cells.lookup y.1).isSome=true:=λy hy e=>by
  obtain⟨c,hc⟩:=I.ok.has y.1 (isF y hy e)
  rw[hc];rfl
 have oldC:∀x c,(x,c)∈dQ X.env.cells scope.names []->(x,NameKind.free)∈scope.names/\X.env.cells.lookup x=some c:=λx c hm=>(jJ _ _ hasC hm).resolve_left (by simp)
 have ltC:∀x c,X.env.cells.lookup x=some c->c<s.heap.objs.size:=λx c e=>by obtain⟨v,q⟩:=I.cell x c e;exact q.lt
 have apart:(i8 (s.heap.objs.size+1) scope.names (dQ X.env.cells scope.names [])).Pairwise λx y=>x.2≠y.2:=
  dU _ _ _ (λp hp=>iq (ltC p.1 p.2 (oldC p.1 p.2 hp).2)) (gS I.ok.inj _ _ nd hasC (by simp) List.Pairwise.nil)
 have fromC:∀x c,(i8 (s.heap.objs.size+1) scope.names (dQ X.env.cells scope.names [])).lookup x=some c->(s.heap.objs.size+1<=c/\(x,NameKind.cell)∈scope.names)\/((x,NameKind.free)∈scope.names/\X.env.cells.lookup x=some c):=λx c e=>
  (eM _ _ _ (e9 e)).imp id λz=>oldC x c z
 have sz1:(s.heap.push { cls := .type "dict",data := .dict #[] }).objs.size=s.heap.objs.size+1:=jb ..
 simp only[yc,Option.isSome_some,if_true]
 refine af (wpAny_alloc ?_)
 refine af (wpAny_layCells _ (λname kind cells=>by cases hkc:kind == NameKind.cell <;> simp[hkc]) _ _ _ _ ?_)
 rw[show({ s with heap:=s.heap.push { cls := .type "dict",data := .dict #[] } }:Shared).heap.objs.size=s.heap.objs.size+1 from sz1]
 refine af ?_
 rw[kn]
 refine ao (ao ?_)
 have keep:∀b o,s.heap.get? b=some o->(Ak (s.heap.push { cls := .type "dict",data := .dict #[] }) scope.names).get? b=some o:=λb o e=>wx _ _ b o (aq _ e)
 refine h _ keep ?_
 have kk:∀x:Str,(eD X N' scope s H fp).env.kindOf x=(zq scope X.env).names.lookup x:=λ_=>rfl
 have emptyC:∀x c,(i8 (s.heap.objs.size+1) scope.names (dQ X.env.cells scope.names [])).lookup x=some c->∃v,(Ak (s.heap.push { cls := .type "dict",data := .dict #[] }) scope.names).IsCell c v:=λx c e=>by
  have:=dR (x:=x) (c:=c) scope.names (s.heap.push { cls := .type "dict",data := .dict #[] }) (dQ X.env.cells scope.names []) (by rw[sz1];exact e9 e)
  rcases this with z | z
  ·obtain⟨v,q⟩:=I.cell x c (oldC x c z).2
   exact⟨v,q.keeps keep⟩
  ·exact⟨none,z⟩
 refine⟨⟨I.ok.mod,hk,I.ok.glob,I.ok.blt,az _,λy z c h1 h2=>?_,λy hy=>?_,λy c hy e=>?_,I.ok.hd,I.ok.frames, .inl rfl,λb hb=>⟨?_,λx c e=>?_⟩,I.bs,bq I.ok.bsz I.sz,λb o e hb=>?_,λb hb hs=>?_,I.stack,I.stkFree⟩,
  rfl,I.bare,Un.kept keep,⟨λ_=>none,(Heap.Ns.new s.heap (.type "dict")).keeps (wx _ _),λi x v e1 e2 e3=>?_⟩,emptyC,I.hok.fresh (az _),λy c e=>?_,λp hp=>absurd (show p∈([]:List (Addr×Obj)) from hp) (by simp),I.hok.kept keep,by rw[ai];exact hlen⟩
 ·exact name_of_addr apart (e9 h1) (e9 h2)
 ·rw[kk] at hy
  have hy':scope.names.lookup y=some .cell\/scope.names.lookup y=some .free:=by
   rcases hy with q | q
   ·exact iY q (.inl rfl)
   ·exact iY q (.inr rfl)
  refine gx.mp (oq _ _ _ ?_)
  rcases hy' with q | q
  ·exact .inl q
  ·have hm:=e9 q
   obtain⟨c,hc⟩:=gx.mp (hasC _ hm rfl)
   exact .inr (by rw[kZ hc _ _ hm];rfl)
 ·have hy:scope.names.lookup y=some .cell:=by simpa using(show(scope.names.lookup y == some NameKind.cell)=true from hy)
  rcases fromC y c e with z | z
  ·exact uo z.1
  ·have:=cS nd z.1
   rw[hy] at this;cases this
 ·obtain⟨o,ho⟩:=hfo b hb
  exact dt (b7 ho)
 ·rcases fromC x c e with z | z
  ·obtain⟨o,ho⟩:=hfo b hb
   exact sr (c5 (b7 ho) (uo z.1))
  ·exact(hf b hb).2.2.2.2.1 x c z.2
 ·rcases(hf b hb).2.2.2.1 with z | z
  ·exact I.ok.noex b o e z
  ·exact absurd (c5 (b7 (I.ok.bs b o e).1) z) (jo _)
 ·rcases a9.mp (I.stkSub b hs) with z | z
  ·exact(hf b hb).2.1 z
  ·exact(hf b hb).2.2.1 z
 ·rw[bg] at e2
  cases hj:ix[i]? with
  |none=>rw[hj] at e2;cases e2
  |some oj=>
   rw[hj] at e2
   have e2:aGo σ oj=some v:=by simpa using e2
   cases oj with
   |none=>cases e2
   |some j=>
    have hv:σ[j]?=some (some v):=by
     have e2':(σ[j]?).join=some v:=e2
     cases q:σ[j]? with
     |none=>rw[q] at e2';cases e2'
     |some w=>rw[q] at e2';have:w=some v:=e2';rw[this]
    have hz:(x,some j)∈N'.zip ix:=by
     refine a8 (i:=i) ?_
     rw[uh]
     exact⟨e1,hj⟩
    have:=hix _ hz
    simp only[du,beq_iff_eq] at this
    obtain⟨n1,n2⟩:=this
    have hm:=e9 n2
    obtain⟨m,hn,hl⟩:=I.loc
    have kf:=isF (x, .free) hm rfl
    have vis:Vis X.env.scope x:=by
     rcases kf with q | q
     ·exact .inr (.inl q)
     ·exact .inr (.inr q)
    obtain⟨u,r,l⟩:=hl j x v n1 hv vis
    refine⟨u,r, .inr ?_⟩
    rcases l with⟨k1,_⟩ | ⟨_,c,hc,hcell⟩
    ·rcases kf with q | q <;> (rw[show X.env.kindOf x=some NameKind.local from k1] at q;cases q)
    ·refine⟨?_,c,?_,hcell.keeps keep⟩
     ·rw[kk];exact qX I.ok.kind n2
     ·show(i8 _ _ _).lookup x=some c
      rw[fE,kZ hc _ _ hm]
      intro z
      have:=cS nd z
      rw[n2] at this;cases this
 ·rcases fromC y c e with z | z
  ·exact I.hok.fresh (uo z.1)
  ·exact I.freeC y c z.2
theorem nU {pins:List (Addr×Obj)}{σ:St}{H:Hp}{s:Shared}{it:Addr}{fp:List Addr}{tn:Nat->Heap->Prop}{J:It}{RR:Value->Addr->vp->Shared->Prop}{E:Value->Shared->Prop}{D:Addr->jG}
  (hc:X.calm=true) (hok:jB X.N scope.names X.env.scope.names N' ix=true) (hk:scope.kind = .function) (hn:∀g',rest[0]?=some g'->g'.is_async=0)
  (hg:∀s H fp,PG (eD X N' scope s H fp) target g) (hts:∀s H fp,PTs (eD X N' scope s H fp) ifs ts)
  (hb:∀s H fp acc,PB (eD X N' scope s H fp) elt (⟨target,iter,ifs,0⟩ :: rest) scope pos 0 acc (tb acc))
  (I:Inv X pins σ H s) (T:aEG X.prog X.w X.K target J fp it tn) (st:tn 0 s.heap) (hf:∀b∈fp,FpOk X pins H b)
  (h:∀acc,H acc=none->gB J g (fX ts (tb acc)) (D acc) (ix.map (aGo σ)) (upd H acc (.lst [])))
  (hR:∀acc C s' H' σ',H acc=none->s.heap.objs.size<=C->Inv X pins σ H' s'->FpOk X pins H' C->(∃m,s'.heap.Ns C m)->(D acc).nx σ' H'->RR (.ref acc) C (.ok .next) s') :
  wpAny (model X.prog X.w) X.A (newList []) (λacc s₃=>wpAny (model X.prog X.w) X.A (yc scope X.env.globals (dQ X.env.cells scope.names []) [] X.env.qual none .none (some X.env)) (λcenv s₄=>
   uf (model X.prog X.w) X.A (.compStart (.ListComp elt (⟨target,iter,ifs,0⟩ :: rest) scope pos) 0 (.ref it) acc { cenv with scope:=zq scope X.env }) (λr s'=>∃f,r = .ok f/\RR acc cenv.locals (.ok .next) s') s₄) E s₃) E s:=by
 refine gk ?_
 have hnone:H s.heap.objs.size=none:=I.hok.fresh (az _)
 have I3:Inv X pins σ (upd H s.heap.objs.size (.lst [])) { s with heap:=s.heap.push { cls := .type "list",data := .seq ([]:List Value).toArray } }:=
  I.laid (t':=s.toks) (λb u e=>aq _ e) (az _) ⟨bc _,[],0, .nil,br _ rfl⟩
 have hlt:∀b∈fp,b<s.heap.objs.size:=λb hb=>by obtain⟨o,ho,_⟩:=T.obj 0 _ st b hb;exact b7 ho
 have hf3:∀b∈fp,FpOk X pins (upd H s.heap.objs.size (.lst [])) b:=λb hb=>⟨by rw[aR (dt (hlt b hb))];exact(hf b hb).1,(hf b hb).2⟩
 refine xF (fp:=fp) I3 hok hk hf3 (λb hb=>?_) λs4 keep I4=>?_
 ·obtain⟨o,ho,_⟩:=T.obj 0 _ st b hb
  exact⟨o,aq _ ho⟩
 have st4:tn 0 s4.heap:=T.keep 0 _ _ st λb hb o e=>keep b o (aq _ e)
 have size3:({ s with heap:=s.heap.push { cls := .type "list",data := .seq ([]:List Value).toArray } }:Shared).heap.objs.size=s.heap.objs.size+1:=jb ..
 have hf4:∀b∈fp,FpOk (eD X N' scope { s with heap:=s.heap.push { cls := .type "list",data := .seq ([]:List Value).toArray } } (upd H s.heap.objs.size (.lst [])) fp) [] (upd H s.heap.objs.size (.lst [])) b:=λb hb=>
  ⟨(hf3 b hb).1,(I4.ok.exf b hb).1,I4.ok.exfs b hb, .inl hb,(I4.ok.exf b hb).2,λp hp=>absurd (show p∈([]:List (Addr×Obj)) from hp) (by simp)⟩
 refine jq (rB (X:=eD X N' scope { s with heap:=s.heap.push { cls := .type "list",data := .seq ([]:List Value).toArray } } (upd H s.heap.objs.size (.lst [])) fp) rfl hc (d:=0) (gens:=⟨target,iter,ifs,0⟩ :: rest) rfl hn (hg _ _ _) (hts _ _ _) (hb _ _ _ _) T I4 st4 hf4 (h _ hnone)) λr s5 ⟨f,hr,σ5,H5,I5,q5⟩=>⟨f,hr,?_⟩
 have I6:Inv X pins σ H5 s5:=I3.call' (ch:=fp) (I5.os.trans rfl) I5.base I5.hok I5.bare λb hb=>⟨(hf3 b hb).2.2.2.1,(hf3 b hb).2.1,(hf3 b hb).2.2.2.2.1,(hf3 b hb).2.2.2.2.2⟩
 have hC:s.heap.objs.size<=(eD X N' scope { s with heap:=s.heap.push { cls := .type "list",data := .seq ([]:List Value).toArray } } (upd H s.heap.objs.size (.lst [])) fp).env.locals:=by
  show s.heap.objs.size<=_
  exact bq (nj _) (Nat.le_of_eq size3.symm)
 refine hR _ _ s5 H5 σ5 hnone hC I6 (I3.fpOk (az _) I5.free) ?_ q5
 obtain⟨m,hm,_⟩:=I5.loc
 exact⟨m,hm⟩
theorem jX (hok:jB X.N scope.names X.env.scope.names N' ix=true):∀x∈scope.names,x.2 = .local->scope.names.lookup x.1=some .local:=by
 simp only[jB,du,decide_eq_true_eq,e7] at hok
 intro x hx e
 obtain⟨n,k⟩:=x
 have e:k = .local:=e
 subst e
 exact cS hok.1.1.1 hx
theorem mL {pins:List (Addr×Obj)}{σ:St}{H:Hp}{s:Shared}(I:Inv X pins σ H s)(hok:jB X.N scope.names X.env.scope.names N' ix=true):closureFor scope X.env=pure (dQ X.env.cells scope.names []):=by
 refine nK λy hy e=>?_
 simp only[jB,du,decide_eq_true_eq,e7] at hok
 have:=hok.1.1.2 y hy
 have:X.env.scope.names.lookup y.1=some .cell\/X.env.scope.names.lookup y.1=some .free:=by simpa[e] using this
 obtain⟨c,hc⟩:=I.ok.has y.1 this
 rw[hc];rfl
theorem dS (hok:jB X.N scope.names X.env.scope.names N' ix=true)(hk:scope.kind = .function)(hc:X.calm=true)(hi:PI X target iter wi)
  (hg:∀s H fp,PG (eD X N' scope s H fp) target g) (hts:∀s H fp,PTs (eD X N' scope s H fp) ifs ts)
  (hb:∀s H fp acc,PB (eD X N' scope s H fp) elt (⟨target,iter,ifs,0⟩ :: rest) scope pos 0 acc (tb acc))
  (hn:∀g',rest[0]?=some g'->g'.is_async=0:=by intro _ h;first | cases h;rfl | cases h) (hs:∀x,mf iter X.env x=pure x:=by intro _;rfl) :
  PE X (.ListComp elt (⟨target,iter,ifs,0⟩ :: rest) scope pos) (fS ix wi g ts tb):=by
 intro pins s σ H Q I h
 rw[eval_ListComp]
 refine uq (use:=none) rfl hs (mL I hok) hk (jX hok) (thn (hi pins s σ H _ I h) λxv s₁ h₁=>thn h₁ λitv s₂ h₂=>?_)
 obtain⟨it,fp,tn,J,H2,e,I2,T,st2,f2,q2⟩:=h₂
 subst e
 refine thn (nU (RR:=λacc C r s'=>compPost (model X.prog X.w) X.A X.xe none (EP X pins σ Q) acc C r s') hc hok hk hn hg hts hb I2 T st2 f2 q2 λacc C s' H' σ' ha hC I' fC hns q=>?_) λacc s3 h3=>thn h3 λcenv s4 h4=>jq h4 λr s5 ⟨f,hr,h5⟩=>?_
 ·obtain⟨m,hm⟩:=hns
  refine⟨m,hm,λh' hs'=>⟨.ref acc,H',I'.turned (t':=s'.toks) (λb o hb e=>(hs'.2 b hb).trans e) fC.1 fC.2.1 fC.2.2.2.1 fC.2.2.2.2.1 fC.2.2.2.2.2,rfl,q⟩⟩
 ·subst hr
  exact h5
theorem gG {i:Nat}{x:Str}{pos' spos:Pos}(hN:X.N.Nodup)(hix:X.N[i]?=some x)(hx:Loc X.env.scope x)(hok:jB X.N scope.names X.env.scope.names N' ix=true)(hk:scope.kind = .function)(hc:X.calm=true)(hi:PI X target iter wi)
  (hg:∀s H fp,PG (eD X N' scope s H fp) target g) (hts:∀s H fp,PTs (eD X N' scope s H fp) ifs ts)
  (hb:∀s H fp acc,PB (eD X N' scope s H fp) elt (⟨target,iter,ifs,0⟩ :: rest) scope pos 0 acc (tb acc))
  (hsw:Ag (.ListComp elt (⟨target,iter,ifs,0⟩ :: rest) scope pos) (some (.Name x pos')) spos.line X.env=pure true:=by rfl)
  (hf:X.fn x=true\/X.env.scope.names.lookup x=some .local:=by first | exact .inl rfl | exact .inr rfl | assumption)
  (hn:∀g',rest[0]?=some g'->g'.is_async=0:=by intro _ h;first | cases h;rfl | cases h) (hs:∀x,mf iter X.env x=pure x:=by intro _;rfl) :
  PS X (.Assign [.Name x pos'] (.ListComp elt (⟨target,iter,ifs,0⟩ :: rest) scope pos) spos) (bO (fS ix wi g ts tb) (aJ i)):=by
 intro pins s σ H D I h
 rw[exec_Assign_Name_used _ _ _ _ hsw]
 refine af (qx (af ?_))
 show wpAny _ X.A (do let _ <- comprehension (.ListComp elt (⟨target,iter,ifs,0⟩ :: rest) scope pos) scope X.env _ (newList []) false (eval iter X.env) (some (zu (.Name x pos') X.env))) _ _ s
 refine af (gj (uq (use:=some (zu (.Name x pos') X.env)) (Q:=λ_ s'=>SP X pins D .next s') rfl hs (mL I hok) hk (jX hok) (thn (hi pins s σ H _ I h) λxv s₁ h₁=>thn h₁ λitv s₂ h₂=>?_)) (λ_ s' hq=>ao (ao hq)) λ_ _ e=>e)
 obtain⟨it,fp,tn,J,H2,e,I2,T,st2,f2,q2⟩:=h₂
 subst e
 refine thn (nU (RR:=λacc C r s'=>compPost (model X.prog X.w) X.A X.xe (some (zu (.Name x pos') X.env)) (λ_ s'=>SP X pins D .next s') acc C r s') hc hok hk hn hg hts hb I2 T st2 f2 q2 λacc C s' H' σ' ha hC I' fC hns q=>?_) λacc s3 h3=>thn h3 λcenv s4 h4=>jq h4 λr s5 ⟨f,hr,h5⟩=>?_
 ·obtain⟨m,hm⟩:=hns
  show wpAny _ X.A (zu (.Name x pos') X.env (.ref acc)) _ _ _
  refine wpAny_assign_Name (sQ I' hN hix hx (v := .ref acc) rfl (λs6 I6 ⟨a,hsb,ha6⟩=>?_) hf)
  have hCa:C≠a:=by
   rcases ha6 with z | z
   ·rw[z];exact fC.2.1
   ·exact(fC.2.2.2.2.1 x a z).symm
  refine⟨m,hm.sameBut hsb hCa,λh' hs'=>⟨_,H',I6.turned (t':=s6.toks) (λb o hb e=>(hs'.2 b hb).trans e) fC.1 fC.2.1 fC.2.2.2.1 fC.2.2.2.2.1 fC.2.2.2.2.2,q⟩⟩
 ·subst hr
  exact h5
end
theorem Same.tup {K:aa}{H H':Hp}{a:Addr}{xs:List V}(e:Same H H')(h:SqT K H a xs):SqT K H' a xs:=by
 rcases h with(h | ⟨o,h⟩) | h
 ·exact .inl (.inl (e _ _ h))
 ·exact .inl (.inr ⟨o,e _ _ h⟩)
 ·exact .inr h
inductive Dt where
 |non | bl (b:Bool) | int (i:Int) | str (x:Str) | tup (ds:List Dt) | lst (ds:List Dt)
mutual
def Sh (K:aa) (H:Hp):Dt->V->Prop
 | .non,v=>v = .non
 | .bl b,v=>v = .bl b
 | .int i,v=>v = .int i
 | .str x,v=>v = .str x
 | .tup ds,v=>∃a xs,v = .ref a/\SqT K H a xs/\ShL K H ds xs
 | .lst ds,v=>∃a xs,v = .ref a/\SqL K H a xs/\ShL K H ds xs
def ShL (K:aa) (H:Hp):List Dt->List V->Prop
 |[],xs=>xs=[]
 |d :: ds,xs=>∃x r,xs=x :: r/\Sh K H d x/\ShL K H ds r
end
mutual
def eqD:Dt->Dt->Bool
 | .non, .non=>true
 | .bl a, .bl b=>a == b
 | .int a, .int b=>a == b
 | .str a, .str b=>a == b
 | .bl a, .int b=>(if a then 1 else 0) == b
 | .int a, .bl b=>a == (if b then 1 else 0)
 | .tup ds, .tup es=>eqL ds es
 | .lst ds, .lst es=>eqL ds es
 |_,_=>false
def eqL:List Dt->List Dt->Bool
 |[],[]=>true
 |d :: ds,e :: es=>eqD d e && eqL ds es
 |_,_=>false
end
mutual
def dep:Dt->Nat
 | .tup ds=>kS ds+1
 | .lst ds=>kS ds+1
 |_=>0
def kS:List Dt->Nat
 |[]=>0
 |d :: ds=>max (dep d) (kS ds)
end
section
variable {K:aa}{H H':Hp}
mutual
theorem Sh.same (e:Same H H'):∀{d:Dt}{v:V},Sh K H d v->Sh K H' d v
 | .non,_,h=>h
 | .bl _,_,h=>h
 | .int _,_,h=>h
 | .str _,_,h=>h
 | .tup ds,_,⟨a,xs,h1,h2,h3⟩=>⟨a,xs,h1,e.tup h2,ShL.same e h3⟩
 | .lst ds,_,⟨a,xs,h1,h2,h3⟩=>⟨a,xs,h1,e.seq h2,ShL.same e h3⟩
theorem ShL.same (e:Same H H'):∀{ds:List Dt}{xs:List V},ShL K H ds xs->ShL K H' ds xs
 |[],_,h=>h
 |d :: ds,_,⟨x,r,h1,h2,h3⟩=>⟨x,r,h1,Sh.same e h2,ShL.same e h3⟩
end
theorem ShL.length:∀{ds:List Dt}{xs:List V},ShL K H ds xs->ds.length=xs.length
 |[],_,h=>by rw[show _=[] from h];rfl
 |d :: ds,_,⟨x,r,h1,h2,h3⟩=>by rw[h1,ba,ba,ShL.length h3]
theorem ShL.get:∀{ds:List Dt}{xs:List V}{j:Nat}{d:Dt},ShL K H ds xs->ds[j]?=some d->∃x,xs[j]?=some x/\Sh K H d x
 |[],_,_,_,_,h=>by simp at h
 |d :: ds,_,0,e,⟨x,r,h1,h2,h3⟩,h=>by
  have:d=e:=by simpa using h
  subst this
  exact⟨x,by rw[h1];rfl,h2⟩
 |d :: ds,_,j+1,e,⟨x,r,h1,h2,h3⟩,h=>by
  obtain⟨y,h4,h5⟩:=ShL.get (j:=j) h3 (by simpa using h)
  exact⟨y,by rw[h1];simpa using h4,h5⟩
theorem ShL.ints:∀(ns:List Int),ShL K H (ns.map Dt.int) (ns.map V.int)
 |[]=>rfl
 |n :: ns=>⟨.int n,ns.map V.int,rfl,rfl,ShL.ints ns⟩
theorem ShL.of_ints:∀{ns:List Int}{xs:List V},ShL K H (ns.map Dt.int) xs->xs=ns.map V.int
 |[],_,h=>h
 |n :: ns,_,⟨x,r,h1,h2,h3⟩=>by rw[h1,ShL.of_ints h3,show x=V.int n from h2];rfl
end
mutual
theorem lB:∀d:Dt,eqD d d=true
 | .non=>by unfold eqD;rfl
 | .bl b=>by unfold eqD;simp
 | .int b=>by unfold eqD;simp
 | .str b=>by unfold eqD;simp
 | .tup ds=>by unfold eqD;exact iO ds
 | .lst ds=>by unfold eqD;exact iO ds
theorem iO:∀ds:List Dt,eqL ds ds=true
 |[]=>by unfold eqL;rfl
 |d :: ds=>by unfold eqL;rw[lB d,iO ds];rfl
end
theorem jO:∀{ds es:List Dt},eqL ds es=true->ds.length=es.length
 |[],[],_=>rfl
 |[],_ :: _,h=>by unfold eqL at h;cases h
 |_ :: _,[],h=>by unfold eqL at h;cases h
 |d :: ds,e :: es,h=>by
  unfold eqL at h
  rw[ba,ba,jO (qt.mp h).2]
theorem gQ (n:Nat)(f:Nat->Bool):(aj (n+1)).all f=(f 0 && (aj n).all λj=>f (j+1)):=by
 rw[jh,n5,zy]
 rfl
theorem lX:∀(ds es:List Dt),((aj (min ds.length es.length)).all (λj=>eqD (ds.getD j .non) (es.getD j .non)) && ds.length == es.length)=eqL ds es
 |[],[]=>by unfold eqL;rfl
 |[],e :: es=>by unfold eqL;simp
 |d :: ds,[]=>by unfold eqL;simp
 |d :: ds,e :: es=>by
  have ih:=lX ds es
  unfold eqL
  rw[<- ih,ba,ba,Nat.succ_min_succ,gQ,Bool.and_assoc]
  congr 1
  congr 1
  simp
theorem pZ {ds:List Dt}{j:Nat}{d:Dt}(h:ds[j]?=some d):dep d<=kS ds:=by
 induction ds generalizing j with
 |nil=>simp at h
 |cons e es ih=>
  unfold kS
  cases j with
  |zero=>
   have:e=d:=by simpa using h
   subst this
   exact Nat.le_max_left _ _
  |succ j=>exact bq (ih (by simpa using h)) (Nat.le_max_right _ _)
section
variable {X:Cx}{pins:List (Addr×Obj)}{σ:St}{H:Hp}{s:Shared}
theorem Inv.tl_ne (I:Inv X pins σ H s){a:Addr}{xs ys:List V}(h:SqT X.K H a xs)(h':SqL X.K H a ys):False:=by
 obtain⟨its,r,⟨o,e,c,n,d⟩,_⟩:=I.tuple h
 obtain⟨its',r',⟨o',n',e',c',_,d'⟩,_⟩:=I.list h'
 rw[e] at e';cases e'
 rw[c] at c';simp at c'
mutual
theorem Inv.sh_inj (I:Inv X pins σ H s):∀{d e:Dt}{v:V},Sh X.K H d v->Sh X.K H e v->d=e
 | .non,e,v,h,h'=>by
  have h:v = .non:=h
  subst h
  cases e <;> first | rfl | (exact absurd (show V.non=_ from h') (λz=>nomatch z)) | (obtain⟨_,_,z,_⟩:=h';cases z)
 | .bl b,e,v,h,h'=>by
  have h:v = .bl b:=h
  subst h
  cases e <;> first | (cases (show V.bl b=V.bl _ from h');rfl) | (exact absurd (show V.bl b=_ from h') (λz=>nomatch z)) | (obtain⟨_,_,z,_⟩:=h';cases z)
 | .int b,e,v,h,h'=>by
  have h:v = .int b:=h
  subst h
  cases e <;> first | (cases (show V.int b=V.int _ from h');rfl) | (exact absurd (show V.int b=_ from h') (λz=>nomatch z)) | (obtain⟨_,_,z,_⟩:=h';cases z)
 | .str b,e,v,h,h'=>by
  have h:v = .str b:=h
  subst h
  cases e <;> first | (cases (show V.str b=V.str _ from h');rfl) | (exact absurd (show V.str b=_ from h') (λz=>nomatch z)) | (obtain⟨_,_,z,_⟩:=h';cases z)
 | .tup ds,e,v,⟨a,xs,h1,h2,h3⟩,h'=>by
  subst h1
  cases e with
  |tup es=>
   obtain⟨a',xs',z,h2',h3'⟩:=h'
   cases z
   rw[I.tuple_inj h2' h2] at h3'
   rw[Inv.shL_inj I h3 h3']
  |lst es=>
   obtain⟨a',xs',z,h2',h3'⟩:=h'
   cases z
   exact(I.tl_ne h2 h2').elim
  |_=>exact absurd (show V.ref a=_ from h') (λz=>nomatch z)
 | .lst ds,e,v,⟨a,xs,h1,h2,h3⟩,h'=>by
  subst h1
  cases e with
  |lst es=>
   obtain⟨a',xs',z,h2',h3'⟩:=h'
   cases z
   rw[I.list_inj h2' h2] at h3'
   rw[Inv.shL_inj I h3 h3']
  |tup es=>
   obtain⟨a',xs',z,h2',h3'⟩:=h'
   cases z
   exact(I.tl_ne h2' h2).elim
  |_=>exact absurd (show V.ref a=_ from h') (λz=>nomatch z)
theorem Inv.shL_inj (I:Inv X pins σ H s):∀{ds es:List Dt}{xs:List V},ShL X.K H ds xs->ShL X.K H es xs->ds=es
 |[],[],_,_,_=>rfl
 |[],e :: es,_,h,⟨x,r,h1,_⟩=>by rw[show _=[] from h] at h1;cases h1
 |d :: ds,[],_,⟨x,r,h1,_⟩,h=>by rw[show _=[] from h] at h1;cases h1
 |d :: ds,e :: es,_,⟨x,r,h1,h2,h3⟩,⟨x',r',h1',h2',h3'⟩=>by
  rw[h1] at h1'
  cases h1'
  rw[Inv.sh_inj I h2 h2',Inv.shL_inj I h3 h3']
end
end
section
variable {X:Cx}{pins:List (Addr×Obj)}{σ:St}{H:Hp}{s:Shared}
open PySem.SeqAt
theorem lD {ds es:List Dt}{xs ys:List V}{us vs:List Value}(hs:ShL X.K H ds xs)(hr:Vals xs us)(hs':ShL X.K H es ys)(hr':Vals ys vs){A:Around}
  (h:∀(d e:Dt) (x y:V) (u v:Value),(∃j:Nat,ds[j]?=some d)->RelV x u->RelV y v->Sh X.K H d x->Sh X.K H e y->EqAt A s u v (eqD d e)) :
  ∀j (h1:j<us.toArray.size) (h2:j<vs.toArray.size),EqAt A s us.toArray[j] vs.toArray[j] (eqD (ds.getD j .non) (es.getD j .non)):=by
 intro j h1 h2
 have l1:=hs.length
 have l2:=hr.length
 have l3:=hs'.length
 have l4:=hr'.length
 have g1:j<us.length:=by simpa using h1
 have g2:j<vs.length:=by simpa using h2
 have e1:ds[j]?=some (ds.getD j .non):=by rw[ak,ae (by omega)];rfl
 have e2:es[j]?=some (es.getD j .non):=by rw[ak,ae (by omega)];rfl
 obtain⟨x,hx,sx⟩:=hs.get e1
 obtain⟨y,hy,sy⟩:=hs'.get e2
 obtain⟨u,hu,ru⟩:=hr.get hx
 obtain⟨v,hv,rv⟩:=hr'.get hy
 have q1:us.toArray[j]=u:=by
  rw[ae g1] at hu
  simpa using hu
 have q2:vs.toArray[j]=v:=by
  rw[ae g2] at hv
  simpa using hv
 rw[q1,q2]
 exact h _ _ x y u v ⟨j,e1⟩ ru rv sx sy
theorem Inv.eq_sh (I:Inv X pins σ H s):∀(n:Nat) (A:Around) (d e:Dt) (x y:V) (u v:Value),dep d<=n->A.units+n<cLine->RelV x u->RelV y v->Sh X.K H d x->Sh X.K H e y->RcAt A s u v (eqD d e)/\EqAt A s u v (eqD d e):=by
 intro n
 induction n with
 |zero=>
  intro A d e x y u v hd hu rx ry hx hy
  have hu0:A.units<cLine:=by omega
  cases d with
  |tup ds=>unfold dep at hd;omega
  |lst ds=>unfold dep at hd;omega
  |non=>
   obtain rfl:x = .non:=hx
   obtain rfl:u=Value.none:=rx
   cases e with
   |non=>obtain rfl:y = .non:=hy;obtain rfl:v=Value.none:=ry;unfold eqD;exact⟨RcAt.none_none,EqAt.same _⟩
   |bl b=>obtain rfl:y = .bl b:=hy;obtain rfl:v=Value.bool b:=ry;unfold eqD;exact⟨RcAt.none_bool b,EqAt.none_bool b⟩
   |int b=>obtain rfl:y = .int b:=hy;obtain⟨t,rfl⟩:=ry;unfold eqD;exact⟨RcAt.none_int b t,EqAt.none_int b t⟩
   |str b=>obtain rfl:y = .str b:=hy;obtain⟨t,rfl⟩:=ry;unfold eqD;exact⟨RcAt.none_str b t,EqAt.none_str b t⟩
   |tup es=>obtain⟨b,ys,rfl,hq,_⟩:=hy;obtain rfl:v=Value.ref b:=ry;obtain⟨its,_,p,_⟩:=I.tuple hq;unfold eqD;exact⟨RcAt.none_tuple (show s.heap.IsTuple b its.toArray from p) hu0,EqAt.none_tuple (show s.heap.IsTuple b its.toArray from p) hu0⟩
   |lst es=>obtain⟨b,ys,rfl,hq,_⟩:=hy;obtain rfl:v=Value.ref b:=ry;obtain⟨its,_,p,_⟩:=I.list hq;unfold eqD;exact⟨RcAt.none_list p.isList hu0,EqAt.none_list p.isList hu0⟩
  |bl a=>
   obtain rfl:x = .bl a:=hx
   obtain rfl:u=Value.bool a:=rx
   cases e with
   |non=>obtain rfl:y = .non:=hy;obtain rfl:v=Value.none:=ry;unfold eqD;exact⟨RcAt.bool_none a,EqAt.bool_none a⟩
   |bl b=>obtain rfl:y = .bl b:=hy;obtain rfl:v=Value.bool b:=ry;unfold eqD;exact⟨RcAt.bool_bool a b,EqAt.bool_bool a b⟩
   |int b=>obtain rfl:y = .int b:=hy;obtain⟨t,rfl⟩:=ry;unfold eqD;exact⟨RcAt.bool_int a b t,EqAt.bool_int a b t⟩
   |str b=>obtain rfl:y = .str b:=hy;obtain⟨t,rfl⟩:=ry;unfold eqD;exact⟨RcAt.bool_str a b t,EqAt.bool_str a b t⟩
   |tup es=>obtain⟨b,ys,rfl,hq,_⟩:=hy;obtain rfl:v=Value.ref b:=ry;obtain⟨its,_,p,_⟩:=I.tuple hq;unfold eqD;exact⟨RcAt.bool_tuple a (show s.heap.IsTuple b its.toArray from p) hu0,EqAt.bool_tuple a (show s.heap.IsTuple b its.toArray from p) hu0⟩
   |lst es=>obtain⟨b,ys,rfl,hq,_⟩:=hy;obtain rfl:v=Value.ref b:=ry;obtain⟨its,_,p,_⟩:=I.list hq;unfold eqD;exact⟨RcAt.bool_list a p.isList hu0,EqAt.bool_list a p.isList hu0⟩
  |int a=>
   obtain rfl:x = .int a:=hx
   obtain⟨t0,rfl⟩:=rx
   cases e with
   |non=>obtain rfl:y = .non:=hy;obtain rfl:v=Value.none:=ry;unfold eqD;exact⟨RcAt.int_none a t0,EqAt.int_none a t0⟩
   |bl b=>obtain rfl:y = .bl b:=hy;obtain rfl:v=Value.bool b:=ry;unfold eqD;exact⟨RcAt.int_bool a t0 b,EqAt.int_bool a t0 b⟩
   |int b=>obtain rfl:y = .int b:=hy;obtain⟨t,rfl⟩:=ry;unfold eqD;exact⟨RcAt.int_int a t0 b t,EqAt.int_int a t0 b t⟩
   |str b=>obtain rfl:y = .str b:=hy;obtain⟨t,rfl⟩:=ry;unfold eqD;exact⟨RcAt.int_str a t0 b t,EqAt.int_str a t0 b t⟩
   |tup es=>obtain⟨b,ys,rfl,hq,_⟩:=hy;obtain rfl:v=Value.ref b:=ry;obtain⟨its,_,p,_⟩:=I.tuple hq;unfold eqD;exact⟨RcAt.int_tuple a t0 (show s.heap.IsTuple b its.toArray from p) hu0,EqAt.int_tuple a t0 (show s.heap.IsTuple b its.toArray from p) hu0⟩
   |lst es=>obtain⟨b,ys,rfl,hq,_⟩:=hy;obtain rfl:v=Value.ref b:=ry;obtain⟨its,_,p,_⟩:=I.list hq;unfold eqD;exact⟨RcAt.int_list a t0 p.isList hu0,EqAt.int_list a t0 p.isList hu0⟩
  |str a=>
   obtain rfl:x = .str a:=hx
   obtain⟨t0,rfl⟩:=rx
   cases e with
   |non=>obtain rfl:y = .non:=hy;obtain rfl:v=Value.none:=ry;unfold eqD;exact⟨RcAt.str_none a t0,EqAt.str_none a t0⟩
   |bl b=>obtain rfl:y = .bl b:=hy;obtain rfl:v=Value.bool b:=ry;unfold eqD;exact⟨RcAt.str_bool a t0 b,EqAt.str_bool a t0 b⟩
   |int b=>obtain rfl:y = .int b:=hy;obtain⟨t,rfl⟩:=ry;unfold eqD;exact⟨RcAt.str_int a t0 b t,EqAt.str_int a t0 b t⟩
   |str b=>obtain rfl:y = .str b:=hy;obtain⟨t,rfl⟩:=ry;unfold eqD;exact⟨RcAt.str_str a t0 b t,EqAt.str_str a t0 b t⟩
   |tup es=>obtain⟨b,ys,rfl,hq,_⟩:=hy;obtain rfl:v=Value.ref b:=ry;obtain⟨its,_,p,_⟩:=I.tuple hq;unfold eqD;exact⟨RcAt.str_tuple a t0 (show s.heap.IsTuple b its.toArray from p) hu0,EqAt.str_tuple a t0 (show s.heap.IsTuple b its.toArray from p) hu0⟩
   |lst es=>obtain⟨b,ys,rfl,hq,_⟩:=hy;obtain rfl:v=Value.ref b:=ry;obtain⟨its,_,p,_⟩:=I.list hq;unfold eqD;exact⟨RcAt.str_list a t0 p.isList hu0,EqAt.str_list a t0 p.isList hu0⟩
 |succ n ih=>
  intro A d e x y u v hd hu rx ry hx hy
  have hu0:A.units<cLine:=by omega
  by_cases hd0:dep d<=n
  ·exact ih A d e x y u v hd0 (by omega) rx ry hx hy
  cases d with
  |non=>exact absurd (bc _) hd0
  |bl a=>exact absurd (bc _) hd0
  |int a=>exact absurd (bc _) hd0
  |str a=>exact absurd (bc _) hd0
  |tup ds=>
   have hdd:kS ds<=n:=by unfold dep at hd;omega
   have hx0:=hx
   obtain⟨a,xs,rfl,hq,hl⟩:=hx
   obtain rfl:u=Value.ref a:=rx
   obtain⟨its,rv,p,_⟩:=I.tuple hq
   have p:s.heap.IsTuple a its.toArray:=p
   cases e with
   |non=>obtain rfl:y = .non:=hy;obtain rfl:v=Value.none:=ry;unfold eqD;exact⟨RcAt.tuple_none p hu0,EqAt.tuple_none p hu0⟩
   |bl b=>obtain rfl:y = .bl b:=hy;obtain rfl:v=Value.bool b:=ry;unfold eqD;exact⟨RcAt.tuple_bool b p hu0,EqAt.tuple_bool b p hu0⟩
   |int b=>obtain rfl:y = .int b:=hy;obtain⟨t,rfl⟩:=ry;unfold eqD;exact⟨RcAt.tuple_int b t p hu0,EqAt.tuple_int b t p hu0⟩
   |str b=>obtain rfl:y = .str b:=hy;obtain⟨t,rfl⟩:=ry;unfold eqD;exact⟨RcAt.tuple_str b t p hu0,EqAt.tuple_str b t p hu0⟩
   |lst es=>obtain⟨b,ys,rfl,hq',_⟩:=hy;obtain rfl:v=Value.ref b:=ry;obtain⟨its',_,p',_⟩:=I.list hq';unfold eqD;exact⟨RcAt.tuple_list p p'.isList hu0,EqAt.tuple_list p p'.isList hu0⟩
   |tup es=>
    have hy0:=hy
    obtain⟨b,ys,rfl,hq',hl'⟩:=hy
    obtain rfl:v=Value.ref b:=ry
    obtain⟨its',rv',p',_⟩:=I.tuple hq'
    have p':s.heap.IsTuple b its'.toArray:=p'
    have he:=lD (A:=A.in1) (s:=s) hl rv hl' rv' (λd e x y u v ⟨j,hj⟩ r1 r2 s1 s2=>(ih A.in1 d e x y u v (bq (pZ hj) hdd) (by show A.units+1+n<cLine;omega) r1 r2 s1 s2).2)
    have rc:=RcAt.tuples p p' hu0 he
    have l1:=hl.length
    have l2:=rv.length
    have l3:=hl'.length
    have l4:=rv'.length
    rw[aw,aw,<- l2,<- l4,<- l1,<- l3,lX] at rc
    unfold eqD
    refine⟨rc,?_⟩
    by_cases hab:a=b
    ·subst hab
     have:=I.sh_inj hx0 hy0
     cases this
     rw[iO]
     exact EqAt.same _
    ·exact EqAt.of_refs hab rc
  |lst ds=>
   have hdd:kS ds<=n:=by unfold dep at hd;omega
   have hx0:=hx
   obtain⟨a,xs,rfl,hq,hl⟩:=hx
   obtain rfl:u=Value.ref a:=rx
   obtain⟨its,rv,p,_⟩:=I.list hq
   have p:=p.isList
   cases e with
   |non=>obtain rfl:y = .non:=hy;obtain rfl:v=Value.none:=ry;unfold eqD;exact⟨RcAt.list_none p hu0,EqAt.list_none p hu0⟩
   |bl b=>obtain rfl:y = .bl b:=hy;obtain rfl:v=Value.bool b:=ry;unfold eqD;exact⟨RcAt.list_bool b p hu0,EqAt.list_bool b p hu0⟩
   |int b=>obtain rfl:y = .int b:=hy;obtain⟨t,rfl⟩:=ry;unfold eqD;exact⟨RcAt.list_int b t p hu0,EqAt.list_int b t p hu0⟩
   |str b=>obtain rfl:y = .str b:=hy;obtain⟨t,rfl⟩:=ry;unfold eqD;exact⟨RcAt.list_str b t p hu0,EqAt.list_str b t p hu0⟩
   |tup es=>obtain⟨b,ys,rfl,hq',_⟩:=hy;obtain rfl:v=Value.ref b:=ry;obtain⟨its',_,p',_⟩:=I.tuple hq';unfold eqD;exact⟨RcAt.list_tuple p (show s.heap.IsTuple b its'.toArray from p') hu0,EqAt.list_tuple p (show s.heap.IsTuple b its'.toArray from p') hu0⟩
   |lst es=>
    have hy0:=hy
    obtain⟨b,ys,rfl,hq',hl'⟩:=hy
    obtain rfl:v=Value.ref b:=ry
    obtain⟨its',rv',p',_⟩:=I.list hq'
    have p':=p'.isList
    have l1:=hl.length
    have l2:=rv.length
    have l3:=hl'.length
    have l4:=rv'.length
    have rc:RcAt A s (.ref a) (.ref b) (eqL ds es):=by
     by_cases hz:ds.length=es.length
     ·have he:=lD (A:=A.in1) (s:=s) hl rv hl' rv' (λd e x y u v ⟨j,hj⟩ r1 r2 s1 s2=>(ih A.in1 d e x y u v (bq (pZ hj) hdd) (by show A.units+1+n<cLine;omega) r1 r2 s1 s2).2)
      have rc:=RcAt.lists p p' (by rw[aw,aw];omega) hu0 he
      rw[aw,<- l2,<- l1] at rc
      have q:=lX ds es
      rw[<- hz,Nat.min_self,beq_self_eq_true,Bool.and_true] at q
      rw[<- q]
      exact rc
     ·have q:eqL ds es=false:=by
       cases q:eqL ds es with
       |false=>rfl
       |true=>exact absurd (jO q) hz
      rw[q]
      exact RcAt.lists_lengths p p' (by rw[aw,aw];simp;omega) hu0
    unfold eqD
    refine⟨rc,?_⟩
    by_cases hab:a=b
    ·subst hab
     have:=I.sh_inj hx0 hy0
     cases this
     rw[iO]
     exact EqAt.same _
    ·exact EqAt.of_refs hab rc
def fZ (K:aa):R2:=λx y H Q=>∃d e,dep d<=100/\Sh K H d x/\Sh K H e y/\Q (.bl (eqD d e)) H
theorem aGh (hu:X.A.units+100<cLine):OpR X (fi .Eq) (fZ X.K):=by
 intro pins s σ H x y v u Q I rx ry ⟨d,e,hd,hx,hy,q⟩
 exact(I.eq_sh 100 X.A d e x y v u hd hu rx ry hx hy).1 X.prog X.w X.xe _ ⟨.bl _,H,I,rfl,q⟩
end
section
variable {X:Cx}{pins:List (Addr×Obj)}{σ:St}{H:Hp}{s:Shared}
open PySem.SeqAt
theorem Inv.ne_sh (I:Inv X pins σ H s){A:Around}(d e:Dt)(x y:V)(u v:Value)(hd:dep d<=100)(hu:A.units+101<cLine)(rx:RelV x u)(ry:RelV y v)(hx:Sh X.K H d x)(hy:Sh X.K H e y):RcNeAt A s u v (!eqD d e):=by
 have hu0:A.units<cLine:=by omega
 cases d with
 |non=>
  obtain rfl:x = .non:=hx
  obtain rfl:u=Value.none:=rx
  cases e with
  |non=>obtain rfl:y = .non:=hy;obtain rfl:v=Value.none:=ry;unfold eqD;exact RcNeAt.none_none
  |bl b=>obtain rfl:y = .bl b:=hy;obtain rfl:v=Value.bool b:=ry;unfold eqD;exact RcNeAt.none_bool b
  |int b=>obtain rfl:y = .int b:=hy;obtain⟨t,rfl⟩:=ry;unfold eqD;exact RcNeAt.none_int b t
  |str b=>obtain rfl:y = .str b:=hy;obtain⟨t,rfl⟩:=ry;unfold eqD;exact RcNeAt.none_str b t
  |tup es=>obtain⟨b,ys,rfl,hq,_⟩:=hy;obtain rfl:v=Value.ref b:=ry;obtain⟨its,_,p,_⟩:=I.tuple hq;unfold eqD;exact RcNeAt.none_tuple (show s.heap.IsTuple b its.toArray from p) hu0
  |lst es=>obtain⟨b,ys,rfl,hq,_⟩:=hy;obtain rfl:v=Value.ref b:=ry;obtain⟨its,_,p,_⟩:=I.list hq;unfold eqD;exact RcNeAt.none_list p.isList hu0
 |bl a=>
  obtain rfl:x = .bl a:=hx
  obtain rfl:u=Value.bool a:=rx
  cases e with
  |non=>obtain rfl:y = .non:=hy;obtain rfl:v=Value.none:=ry;unfold eqD;exact RcNeAt.bool_none a
  |bl b=>obtain rfl:y = .bl b:=hy;obtain rfl:v=Value.bool b:=ry;unfold eqD;exact RcNeAt.bool_bool a b
  |int b=>obtain rfl:y = .int b:=hy;obtain⟨t,rfl⟩:=ry;unfold eqD;exact RcNeAt.bool_int a b t
  |str b=>obtain rfl:y = .str b:=hy;obtain⟨t,rfl⟩:=ry;unfold eqD;exact RcNeAt.bool_str a b t
  |tup es=>obtain⟨b,ys,rfl,hq,_⟩:=hy;obtain rfl:v=Value.ref b:=ry;obtain⟨its,_,p,_⟩:=I.tuple hq;unfold eqD;exact RcNeAt.bool_tuple a (show s.heap.IsTuple b its.toArray from p) hu0
  |lst es=>obtain⟨b,ys,rfl,hq,_⟩:=hy;obtain rfl:v=Value.ref b:=ry;obtain⟨its,_,p,_⟩:=I.list hq;unfold eqD;exact RcNeAt.bool_list a p.isList hu0
 |int a=>
  obtain rfl:x = .int a:=hx
  obtain⟨t0,rfl⟩:=rx
  cases e with
  |non=>obtain rfl:y = .non:=hy;obtain rfl:v=Value.none:=ry;unfold eqD;exact RcNeAt.int_none a t0
  |bl b=>obtain rfl:y = .bl b:=hy;obtain rfl:v=Value.bool b:=ry;unfold eqD;exact RcNeAt.int_bool a t0 b
  |int b=>obtain rfl:y = .int b:=hy;obtain⟨t,rfl⟩:=ry;unfold eqD;exact RcNeAt.int_int a t0 b t
  |str b=>obtain rfl:y = .str b:=hy;obtain⟨t,rfl⟩:=ry;unfold eqD;exact RcNeAt.int_str a t0 b t
  |tup es=>obtain⟨b,ys,rfl,hq,_⟩:=hy;obtain rfl:v=Value.ref b:=ry;obtain⟨its,_,p,_⟩:=I.tuple hq;unfold eqD;exact RcNeAt.int_tuple a t0 (show s.heap.IsTuple b its.toArray from p) hu0
  |lst es=>obtain⟨b,ys,rfl,hq,_⟩:=hy;obtain rfl:v=Value.ref b:=ry;obtain⟨its,_,p,_⟩:=I.list hq;unfold eqD;exact RcNeAt.int_list a t0 p.isList hu0
 |str a=>
  obtain rfl:x = .str a:=hx
  obtain⟨t0,rfl⟩:=rx
  cases e with
  |non=>obtain rfl:y = .non:=hy;obtain rfl:v=Value.none:=ry;unfold eqD;exact RcNeAt.str_none a t0
  |bl b=>obtain rfl:y = .bl b:=hy;obtain rfl:v=Value.bool b:=ry;unfold eqD;exact RcNeAt.str_bool a t0 b
  |int b=>obtain rfl:y = .int b:=hy;obtain⟨t,rfl⟩:=ry;unfold eqD;exact RcNeAt.str_int a t0 b t
  |str b=>obtain rfl:y = .str b:=hy;obtain⟨t,rfl⟩:=ry;unfold eqD;exact RcNeAt.str_str a t0 b t
  |tup es=>obtain⟨b,ys,rfl,hq,_⟩:=hy;obtain rfl:v=Value.ref b:=ry;obtain⟨its,_,p,_⟩:=I.tuple hq;unfold eqD;exact RcNeAt.str_tuple a t0 (show s.heap.IsTuple b its.toArray from p) hu0
  |lst es=>obtain⟨b,ys,rfl,hq,_⟩:=hy;obtain rfl:v=Value.ref b:=ry;obtain⟨its,_,p,_⟩:=I.list hq;unfold eqD;exact RcNeAt.str_list a t0 p.isList hu0
 |tup ds=>
  have hdd:kS ds<=100:=by unfold dep at hd;omega
  obtain⟨a,xs,rfl,hq,hl⟩:=hx
  obtain rfl:u=Value.ref a:=rx
  obtain⟨its,rv,p,_⟩:=I.tuple hq
  have p:s.heap.IsTuple a its.toArray:=p
  cases e with
  |non=>obtain rfl:y = .non:=hy;obtain rfl:v=Value.none:=ry;unfold eqD;exact RcNeAt.tuple_none p hu0
  |bl b=>obtain rfl:y = .bl b:=hy;obtain rfl:v=Value.bool b:=ry;unfold eqD;exact RcNeAt.tuple_bool b p hu0
  |int b=>obtain rfl:y = .int b:=hy;obtain⟨t,rfl⟩:=ry;unfold eqD;exact RcNeAt.tuple_int b t p hu0
  |str b=>obtain rfl:y = .str b:=hy;obtain⟨t,rfl⟩:=ry;unfold eqD;exact RcNeAt.tuple_str b t p hu0
  |lst es=>obtain⟨b,ys,rfl,hq',_⟩:=hy;obtain rfl:v=Value.ref b:=ry;obtain⟨its',_,p',_⟩:=I.list hq';unfold eqD;exact RcNeAt.tuple_list p p'.isList hu0
  |tup es=>
   obtain⟨b,ys,rfl,hq',hl'⟩:=hy
   obtain rfl:v=Value.ref b:=ry
   obtain⟨its',rv',p',_⟩:=I.tuple hq'
   have p':s.heap.IsTuple b its'.toArray:=p'
   have he:=lD (A:=A.in1) (s:=s) hl rv hl' rv' (λd e x y u v ⟨j,hj⟩ r1 r2 s1 s2=>(I.eq_sh 100 A.in1 d e x y u v (bq (pZ hj) hdd) (by show A.units+1+100<cLine;omega) r1 r2 s1 s2).2)
   have rc:=RcNeAt.tuples p p' hu0 he
   have l1:=hl.length
   have l2:=rv.length
   have l3:=hl'.length
   have l4:=rv'.length
   rw[aw,aw,<- l2,<- l4,<- l1,<- l3,lX] at rc
   unfold eqD
   exact rc
 |lst ds=>
  have hdd:kS ds<=100:=by unfold dep at hd;omega
  obtain⟨a,xs,rfl,hq,hl⟩:=hx
  obtain rfl:u=Value.ref a:=rx
  obtain⟨its,rv,p,_⟩:=I.list hq
  have p:=p.isList
  cases e with
  |non=>obtain rfl:y = .non:=hy;obtain rfl:v=Value.none:=ry;unfold eqD;exact RcNeAt.list_none p hu0
  |bl b=>obtain rfl:y = .bl b:=hy;obtain rfl:v=Value.bool b:=ry;unfold eqD;exact RcNeAt.list_bool b p hu0
  |int b=>obtain rfl:y = .int b:=hy;obtain⟨t,rfl⟩:=ry;unfold eqD;exact RcNeAt.list_int b t p hu0
  |str b=>obtain rfl:y = .str b:=hy;obtain⟨t,rfl⟩:=ry;unfold eqD;exact RcNeAt.list_str b t p hu0
  |tup es=>obtain⟨b,ys,rfl,hq',_⟩:=hy;obtain rfl:v=Value.ref b:=ry;obtain⟨its',_,p',_⟩:=I.tuple hq';unfold eqD;exact RcNeAt.list_tuple p (show s.heap.IsTuple b its'.toArray from p') hu0
  |lst es=>
   obtain⟨b,ys,rfl,hq',hl'⟩:=hy
   obtain rfl:v=Value.ref b:=ry
   obtain⟨its',rv',p',_⟩:=I.list hq'
   have p':=p'.isList
   have l1:=hl.length
   have l2:=rv.length
   have l3:=hl'.length
   have l4:=rv'.length
   unfold eqD
   by_cases hz:ds.length=es.length
   ·have he:=lD (A:=A.in1) (s:=s) hl rv hl' rv' (λd e x y u v ⟨j,hj⟩ r1 r2 s1 s2=>(I.eq_sh 100 A.in1 d e x y u v (bq (pZ hj) hdd) (by show A.units+1+100<cLine;omega) r1 r2 s1 s2).2)
    have rc:=RcNeAt.lists p p' (by rw[aw,aw];omega) hu0 he
    rw[aw,<- l2,<- l1] at rc
    have q:=lX ds es
    rw[<- hz,Nat.min_self,beq_self_eq_true,Bool.and_true] at q
    rw[<- q]
    exact rc
   ·have q:eqL ds es=false:=by
     cases q:eqL ds es with
     |false=>rfl
     |true=>exact absurd (jO q) hz
    rw[q]
    exact RcNeAt.lists_lengths p p' (by rw[aw,aw];simp;omega) hu0
def vN (K:aa):R2:=λx y H Q=>∃d e,dep d<=100/\Sh K H d x/\Sh K H e y/\Q (.bl (!eqD d e)) H
theorem aEH (hu:X.A.units+101<cLine):OpR X (fi .NotEq) (vN X.K):=by
 intro pins s σ H x y v u Q I rx ry ⟨d,e,hd,hx,hy,q⟩
 exact(I.ne_sh d e x y v u hd hu rx ry hx hy) X.prog X.w X.xe _ ⟨.bl _,H,I,rfl,q⟩
def aDp:Dt->String->Bool
 | .non,_=>false
 | .bl _,T=>T == "bool" || T == "int"
 | .int _,T=>T == "int"
 | .str _,T=>T == "str"
 | .tup _,T=>T == "tuple"
 | .lst _,T=>T == "list"
def xM (K:aa):List V->Hp->VK->Prop:=λvs H Q=>∃x d T,vs=[x, .ty T]/\(T="int"\/T="bool"\/T="tuple"\/T="list"\/T="str")/\Sh K H d x/\Q (.bl (aDp d T)) H
theorem aBT:CallR X (.builtin "isinstance") (xM X.K):=by
 intro pins s σ H xs us Q I r ⟨x,d,T,e,hT,hx,q⟩
 subst e
 obtain⟨u,w',rfl,rx,rt⟩:=r.two
 obtain rfl:w'=Value.type T:=rt
 have fin:∀(b:Bool) (t:Nat),aDp d T=b->EP X pins σ Q (.bool b) { s with toks:=t }:=λb t e=>⟨.bl b,H,I.tok t,rfl,by rw[<- e];exact q⟩
 have fin0:∀(b:Bool),aDp d T=b->EP X pins σ Q (.bool b) s:=λb e=>⟨.bl b,H,I,rfl,by rw[<- e];exact q⟩
 cases d with
 |non=>
  obtain rfl:x = .non:=hx
  obtain rfl:u=Value.none:=rx
  rcases hT with rfl | rfl | rfl | rfl | rfl
  ·exact IsiPair.NoneType_int (fin _ _ rfl)
  ·exact IsiPair.NoneType_bool (fin _ _ rfl)
  ·exact IsiPair.NoneType_tuple (fin _ _ rfl)
  ·exact IsiPair.NoneType_list (fin _ _ rfl)
  ·exact IsiPair.NoneType_str (fin _ _ rfl)
 |bl b=>
  obtain rfl:x = .bl b:=hx
  obtain rfl:u=Value.bool b:=rx
  rcases hT with rfl | rfl | rfl | rfl | rfl
  ·exact IsiPair.bool_int (fin0 _ rfl)
  ·exact IsiPair.bool_bool (fin0 _ rfl)
  ·exact IsiPair.bool_tuple (fin _ _ rfl)
  ·exact IsiPair.bool_list (fin _ _ rfl)
  ·exact IsiPair.bool_str (fin _ _ rfl)
 |int b=>
  obtain rfl:x = .int b:=hx
  obtain⟨t,rfl⟩:=rx
  rcases hT with rfl | rfl | rfl | rfl | rfl
  ·exact IsiPair.int_int (fin0 _ rfl)
  ·exact IsiPair.int_bool (fin _ _ rfl)
  ·exact IsiPair.int_tuple (fin _ _ rfl)
  ·exact IsiPair.int_list (fin _ _ rfl)
  ·exact IsiPair.int_str (fin _ _ rfl)
 |str b=>
  obtain rfl:x = .str b:=hx
  obtain⟨t,rfl⟩:=rx
  rcases hT with rfl | rfl | rfl | rfl | rfl
  ·exact IsiPair.str_int (fin _ _ rfl)
  ·exact IsiPair.str_bool (fin _ _ rfl)
  ·exact IsiPair.str_tuple (fin _ _ rfl)
  ·exact IsiPair.str_list (fin _ _ rfl)
  ·exact IsiPair.str_str (fin0 _ rfl)
 |tup ds=>
  obtain⟨a,ys,rfl,hq,_⟩:=hx
  obtain rfl:u=Value.ref a:=rx
  obtain⟨its,_,⟨o,ho,hc,_⟩,_⟩:=I.tuple hq
  rcases hT with rfl | rfl | rfl | rfl | rfl
  ·exact IsiPair.tuple_int ho hc (fin _ _ rfl)
  ·exact IsiPair.tuple_bool ho hc (fin _ _ rfl)
  ·exact IsiPair.tuple_tuple ho hc (fin0 _ rfl)
  ·exact IsiPair.tuple_list ho hc (fin _ _ rfl)
  ·exact IsiPair.tuple_str ho hc (fin _ _ rfl)
 |lst ds=>
  obtain⟨a,ys,rfl,hq,_⟩:=hx
  obtain rfl:u=Value.ref a:=rx
  obtain⟨its,_,p,_⟩:=I.list hq
  obtain⟨o,ho,hc,_⟩:=p.isList
  rcases hT with rfl | rfl | rfl | rfl | rfl
  ·exact IsiPair.list_int ho hc (fin _ _ rfl)
  ·exact IsiPair.list_bool ho hc (fin _ _ rfl)
  ·exact IsiPair.list_tuple ho hc (fin _ _ rfl)
  ·exact IsiPair.list_list ho hc (fin0 _ rfl)
  ·exact IsiPair.list_str ho hc (fin _ _ rfl)
theorem tT {prog:Program}{w:World}{A:Around}(hh:A.handled=none)(It ax:Addr)(hne:ax≠It)(items:Array Value) :
  Walks prog w A It [It,ax] [It] items.size (λi v=>items[i]?=some v) (λi h=>h.IsTupleIter It ax i/\h.IsTuple ax items) where
 sub:=λb hb=>by simp at hb;simp[hb]
 frame:=λ_ _ _ st hk=>⟨st.1.at λo e=>hk It (by simp) o e,let⟨o,e,r⟩:=st.2;⟨o,hk ax (by simp) o e,r⟩⟩
 item:=λi s Q E hi st hQ=>by
  refine u5 st.1 st.2 (x:=items[i]) (by simp[hi]) λh' hit' hs'=>?_
  refine hQ _ h' s.toks (by simp[hi]) ⟨hit',?_⟩ λb o hb e=>hs'.extBut b o (λh=>hb (by simp[h])) e
  obtain⟨o,e,r⟩:=st.2
  exact⟨o,hs'.extBut _ _ hne e,r⟩
 done:=λs Q E st hQ=>v8 hh st.1 st.2 (by simp) λh' he'=>hQ h' s.toks λb o hb e=>he' b o (λh=>hb (by simp[h])) e
 self:=λ_ _ _ _ st hQ=>v9 st.1 hQ
def Sq (K:aa) (H:Hp) (a:Addr) (xs:List V):Prop:=SqL K H a xs\/SqT K H a xs
theorem iI {A:Around}{a:Addr}{xs:List V}{Q:Value->Shared->Prop}{E:Value->Shared->Prop}(hh:A.handled=none)(I:Inv X pins σ H s)(h:Sq X.K H a xs)
  (hq:∀(its:List Value) (It:Addr) (fp wr:List Addr) (S:Nat->Heap->Prop) (s2:Shared),Vals xs its->xs.length<=b8->Walks X.prog X.w A It fp wr its.length (λi v=>its[i]?=some v) S->S 0 s2.heap->(∀b∈fp,b<s2.heap.objs.size) ->
   (∀h' tk,(∀b o,b∉wr->s2.heap.get? b=some o->h'.get? b=some o)->Inv X pins σ H { s2 with heap:=h',toks:=tk })->Q (.ref It) s2):wpAny (model X.prog X.w) A (Ah (.ref a)) Q E s:=by
 rcases h with h | h
 ·obtain⟨its,rv,p,hz⟩:=I.list h
  refine ur p.isList ?_
  have ha:a<s.heap.objs.size:=by obtain⟨o,e,_⟩:=p.isList;exact b7 e
  refine hq its s.heap.objs.size [s.heap.objs.size,a] [s.heap.objs.size] (λi h=>h.IsListIter s.heap.objs.size a i/\h.IsList a its.toArray) _ rv hz (by simpa using Walks.list (prog:=X.prog) (w:=X.w) hh s.heap.objs.size a (dt ha) its.toArray) ⟨⟨_,br _ rfl,rfl,rfl⟩,?_⟩ (λb hb=>?_) λh' tk hk=>?_
  ·obtain⟨o,e,r⟩:=p.isList
   exact⟨o,aq _ e,r⟩
  ·simp at hb
   show b<(s.heap.push _).objs.size
   rw[jb]
   rcases hb with rfl | rfl
   ·exact jk _
   ·exact iq ha
  ·exact I.kept λb o e=>hk b o (by simpa using dt (b7 e)) (aq _ e)
 ·obtain⟨its,rv,p,hz⟩:=I.tuple h
  have p:s.heap.IsTuple a its.toArray:=p
  refine wpAny_pyIter_tuple p ?_
  have ha:a<s.heap.objs.size:=by obtain⟨o,e,_⟩:=p;exact b7 e
  refine hq its s.heap.objs.size [s.heap.objs.size,a] [s.heap.objs.size] (λi h=>h.IsTupleIter s.heap.objs.size a i/\h.IsTuple a its.toArray) _ rv hz (by simpa using tT (prog:=X.prog) (w:=X.w) hh s.heap.objs.size a (dt ha) its.toArray) ⟨⟨_,br _ rfl,rfl,rfl⟩,?_⟩ (λb hb=>?_) λh' tk hk=>?_
  ·obtain⟨o,e,r⟩:=p
   exact⟨o,aq _ e,r⟩
  ·simp at hb
   show b<(s.heap.push _).objs.size
   rw[jb]
   rcases hb with rfl | rfl
   ·exact jk _
   ·exact iq ha
  ·exact I.kept λb o e=>hk b o (by simpa using dt (b7 e)) (aq _ e)
theorem Vals.getR:∀{xs:List V}{us:List Value}{i:Nat}{u:Value},Vals xs us->us[i]?=some u->∃x,xs[i]?=some x/\RelV x u
 |_,_,_,_, .nil,e=>by simp at e
 |_,_,0,_, .cons r _,e=>by simp at e;subst e;exact⟨_,rfl,r⟩
 |_,_,i+1,u, .cons _ t,e=>by
  obtain⟨x,h1,h2⟩:=Vals.getR (i:=i) (u:=u) t (by simpa using e)
  exact⟨x,by simpa using h1,h2⟩
theorem aCj (hc:X.calm=true):CallR X (.builtin "all") (λvs H Q=>∃(a:Addr) (bs:List Bool),vs=[.ref a]/\Sq X.K H a (bs.map V.bl)/\Q (.bl (bs.all id)) H):=by
 intro pins s σ H xs us Q I r ⟨a,bs,e,hq,q⟩
 subst e
 obtain⟨u,rfl,ru⟩:=r.one
 obtain rfl:u=Value.ref a:=ru
 refine call_all_walk (iI (I.ok.hd hc) I hq λits It fp wr S s2 rv hz W st hf hI=>?_)
 refine⟨It,fp,wr,its.length,_,S,λj=>bs.getD j false,rfl,W,st,λi v s' Q' E' hv hQ'=>?_,λh' tk hk=>?_⟩
 ·obtain⟨x,hx,rx⟩:=rv.getR hv
  rw[bg] at hx
  cases hb:bs[i]? with
  |none=>rw[hb] at hx;cases hx
  |some b=>
   rw[hb] at hx
   obtain rfl:V.bl b=x:=by simpa using hx
   obtain rfl:v=Value.bool b:=rx
   have:bs.getD i false=b:=by rw[ak,hb];rfl
   have hQ':Q' (bs.getD i false) s':=hQ'
   rw[this] at hQ'
   exact f9 hQ'
 ·refine⟨.bl (bs.all id),H,hI h' tk hk,?_,q⟩
  show Value.bool _=Value.bool _
  congr 1
  have hl:its.length=bs.length:=by rw[<- rv.length,ai]
  rw[hl]
  clear q hq rv hl hz
  induction bs with
  |nil=>rfl
  |cons b bs ih=>rw[ba,gQ,n5];exact congrArg (λz=>b && z) ih
theorem lY:∀(ns:List Int) (k:Nat),k<=ns.length->preSum (λj=>ns.getD j 0) k=(ns.take k).sum
 |ns,0,_=>by simp[preSum]
 |ns,k+1,h=>by
  have e:ns.take (k+1)=ns.take k++[ns[k]]:=by
   rw[e8,ae (by omega)];rfl
  have g:ns.getD k 0=ns[k]:=by rw[ak,ae (by omega)];rfl
  rw[preSum,lY ns k (by omega),e,List.sum_append_int,g]
  simp
theorem aCs (hc:X.calm=true):CallR X (.builtin "sum") (λvs H Q=>∃(a:Addr) (ns:List Int),vs=[.ref a]/\Sq X.K H a (ns.map V.int)/\Q (.int ns.sum) H):=by
 intro pins s σ H xs us Q I r ⟨a,ns,e,hq,q⟩
 subst e
 obtain⟨u,rfl,ru⟩:=r.one
 obtain rfl:u=Value.ref a:=ru
 refine call_sum_walkG (iI (I.ok.hd hc) I hq λits It fp wr S s2 rv hz W st hf hI=>?_)
 refine⟨It,fp,wr,its.length,_,S,λj=>ns.getD j 0,rfl,W,st,hf,λi v hv=>?_,λh' tk t' hk=>?_⟩
 ·obtain⟨x,hx,rx⟩:=rv.getR hv
  rw[bg] at hx
  cases hb:ns[i]? with
  |none=>rw[hb] at hx;cases hx
  |some b=>
   rw[hb] at hx
   obtain rfl:V.int b=x:=by simpa using hx
   obtain⟨t,rfl⟩:=rx
   exact⟨t,by show Value.int b t=Value.int (ns.getD i 0) t;rw[ak,hb];rfl⟩
 ·have hl:its.length=ns.length:=by rw[<- rv.length,ai]
  refine⟨.int ns.sum,H,hI h' tk hk,⟨t',?_⟩,q⟩
  rw[hl,lY ns ns.length (az _),fh]
theorem jM {bt:Nat->Nat->Bool}:∀k,j4 bt k<=k
 |0=>az _
 |k+1=>by
  unfold j4
  split
  ·exact az _
  ·exact Nat.le_succ_of_le (jM k)
theorem iV {ns:List Int}:∀(k:Nat),∀j,j<=k->ns.getD (j4 (λi j=>decide (ns.getD i 0<ns.getD j 0)) k) 0<=ns.getD j 0
 |0,j,h=>by
  have:j=0:=by omega
  subst this
  exact lq _
 |k+1,j,h=>by
  have ih:=iV (ns:=ns) k
  unfold j4
  by_cases c:ns.getD (k+1) 0<ns.getD (j4 (λi j=>decide (ns.getD i 0<ns.getD j 0)) k) 0
  ·rw[if_pos (decide_eq_true c)]
   by_cases e:j=k+1
   ·subst e;exact lq _
   ·have:=ih j (by omega);omega
  ·rw[if_neg (by simpa using c)]
   by_cases e:j=k+1
   ·subst e;omega
   ·exact ih j (by omega)
theorem jV {ns:List Int}:∀(k:Nat),∀j,j<=k->ns.getD j 0<=ns.getD (j4 (λi j=>decide (ns.getD j 0<ns.getD i 0)) k) 0
 |0,j,h=>by
  have:j=0:=by omega
  subst this
  exact lq _
 |k+1,j,h=>by
  have ih:=jV (ns:=ns) k
  unfold j4
  by_cases c:ns.getD (j4 (λi j=>decide (ns.getD j 0<ns.getD i 0)) k) 0<ns.getD (k+1) 0
  ·rw[if_pos (decide_eq_true c)]
   by_cases e:j=k+1
   ·subst e;exact lq _
   ·have:=ih j (by omega);omega
  ·rw[if_neg (by simpa using c)]
   by_cases e:j=k+1
   ·subst e;omega
   ·exact ih j (by omega)
theorem aCc (hc:X.calm=true):CallR X (.builtin "min") (λvs H Q=>∃(a:Addr) (ns:List Int),vs=[.ref a]/\Sq X.K H a (ns.map V.int)/\ns≠[]/\∀m:Int,m∈ns->(∀k∈ns,m<=k)->Q (.int m) H):=by
 intro pins s σ H xs us Q I r ⟨a,ns,e,hq,hne,q⟩
 subst e
 obtain⟨u,rfl,ru⟩:=r.one
 obtain rfl:u=Value.ref a:=ru
 refine call_min_walk (iI (I.ok.hd hc) I hq λits It fp wr S s2 rv hz W st hf hI=>?_)
 have hl:its.length=ns.length:=by rw[<- rv.length,ai]
 have hpos:0<ns.length:=rj.mpr hne
 have item:∀(i:Nat) (v:Value),its[i]?=some v->∃t,v = .int (ns.getD i 0) t:=λi v hv=>by
  obtain⟨x,hx,rx⟩:=rv.getR hv
  rw[bg] at hx
  cases hb:ns[i]? with
  |none=>rw[hb] at hx;cases hx
  |some b=>
   rw[hb] at hx
   obtain rfl:V.int b=x:=by simpa using hx
   obtain⟨t,rfl⟩:=rx
   exact⟨t,by rw[ak,hb];rfl⟩
 refine⟨It,fp,wr,its.length,_,S,λi j=>decide (ns.getD i 0<ns.getD j 0),rfl,W,st,hf,by omega,λi j vi vj s' Q' E' hi hj hQ'=>?_,λv h' tk hv hk=>?_⟩
 ·obtain⟨t,rfl⟩:=item i vi hi
  obtain⟨t',rfl⟩:=item j vj hj
  exact(lt_int hQ':wpAny (model X.prog X.w) X.A.in1 (fi .Lt _ _) Q' E' s')
 ·obtain⟨t,rfl⟩:=item _ v hv
  have hb:=jM (bt:=λi j=>decide (ns.getD i 0<ns.getD j 0)) (its.length - 1)
  refine⟨.int _,H,hI h' tk hk,⟨t,rfl⟩,q _ ?_ λk hk=>?_⟩
  ·rw[ak,ae (by omega)]
   exact dg _
  ·obtain⟨j,hj,rfl⟩:=xu.mp hk
   have:=iV (ns:=ns) (its.length - 1) j (by omega)
   rw[ak (l:=ns) (i:=j),ae hj] at this
   exact this
theorem aBI (hc:X.calm=true):CallR X (.builtin "max") (λvs H Q=>∃(a:Addr) (ns:List Int),vs=[.ref a]/\Sq X.K H a (ns.map V.int)/\ns≠[]/\∀m:Int,m∈ns->(∀k∈ns,k<=m)->Q (.int m) H):=by
 intro pins s σ H xs us Q I r ⟨a,ns,e,hq,hne,q⟩
 subst e
 obtain⟨u,rfl,ru⟩:=r.one
 obtain rfl:u=Value.ref a:=ru
 refine call_max_walk (iI (I.ok.hd hc) I hq λits It fp wr S s2 rv hz W st hf hI=>?_)
 have hl:its.length=ns.length:=by rw[<- rv.length,ai]
 have hpos:0<ns.length:=rj.mpr hne
 have item:∀(i:Nat) (v:Value),its[i]?=some v->∃t,v = .int (ns.getD i 0) t:=λi v hv=>by
  obtain⟨x,hx,rx⟩:=rv.getR hv
  rw[bg] at hx
  cases hb:ns[i]? with
  |none=>rw[hb] at hx;cases hx
  |some b=>
   rw[hb] at hx
   obtain rfl:V.int b=x:=by simpa using hx
   obtain⟨t,rfl⟩:=rx
   exact⟨t,by rw[ak,hb];rfl⟩
 refine⟨It,fp,wr,its.length,_,S,λi j=>decide (ns.getD j 0<ns.getD i 0),rfl,W,st,hf,by omega,λi j vi vj s' Q' E' hi hj hQ'=>?_,λv h' tk hv hk=>?_⟩
 ·obtain⟨t,rfl⟩:=item i vi hi
  obtain⟨t',rfl⟩:=item j vj hj
  exact(gt_int hQ':wpAny (model X.prog X.w) X.A.in1 (fi .Gt _ _) Q' E' s')
 ·obtain⟨t,rfl⟩:=item _ v hv
  have hb:=jM (bt:=λi j=>decide (ns.getD j 0<ns.getD i 0)) (its.length - 1)
  refine⟨.int _,H,hI h' tk hk,⟨t,rfl⟩,q _ ?_ λk hk=>?_⟩
  ·rw[ak,ae (by omega)]
   exact dg _
  ·obtain⟨j,hj,rfl⟩:=xu.mp hk
   have:=jV (ns:=ns) (its.length - 1) j (by omega)
   rw[ak (l:=ns) (i:=j),ae hj] at this
   exact this
end
section
variable {X:Cx}
def aFn (K:aa):R2:=λx y H Q=>∃a b xs ys,x = .ref a/\y = .ref b/\SqT K H a xs/\SqT K H b ys/\xs.length+ys.length<=b8 /\
 ∀p H',((p=a/\H'=H/\ys=[])\/(p=b/\H'=H/\xs=[])\/(H p=none/\H'=upd H p (.tup (xs++ys))))->SqT K H' p (xs++ys)->Same H H'->Q (.ref p) H'
theorem aH {H:Hp}{p:Addr}(h:H p=none)(o:HO):Same H (upd H p o):=λb u q=>by rw[aR (aN q h)];exact q
theorem aEk:OpR X (jv .Add) (aFn X.K):=by
 intro pins s σ H x y v u Q I rx ry ⟨a,b,xs,ys,ex,ey,ha,hb,hz,q⟩
 subst ex ey
 obtain rfl:v=Value.ref a:=rx
 obtain rfl:u=Value.ref b:=ry
 by_cases hx:xs=[]
 ·obtain⟨its,r1,p1,_⟩:=I.tuple ha
  obtain⟨its2,r2,p2,_⟩:=I.tuple hb
  have he:its=[]:=r1.nil_iff.mpr hx
  obtain⟨⟨cls,dd,data,sl⟩,ho,hc,n,hd⟩:=id p1
  obtain⟨⟨cls2,dd2,data2,sl2⟩,ho2,hc2,n2,hd2⟩:=id p2
  simp only at hc hd hc2 hd2
  subst hc hd hc2 hd2
  refine zv ⟨_,ho,rfl⟩ ⟨_,ho2,rfl⟩ vq y9 ot n4 (ny _ _)
   (tuple_addW0 a b its.toArray its2.toArray n n2 dd dd2 sl sl2 (by simp[he])) ⟨ho,ho2,?_⟩
  exact⟨.ref b,H,I,rfl,q b H (.inr (.inl ⟨rfl,rfl,hx⟩)) (by rw[hx];exact hb) (Same.refl H)⟩
 ·refine aEb (X:=X) pins s σ H (.ref a) (.ref b) (.ref a) (.ref b) Q I rfl rfl ⟨a,b,xs,ys,rfl,rfl,ha,hb,hx,hz,λhy=>?_,λhy p hp=>?_⟩
  ·exact q a H (.inl ⟨rfl,rfl,hy⟩) (by rw[hy,iu];exact ha) (Same.refl H)
  ·exact q p _ (.inr (.inr ⟨hp,rfl⟩)) (.of aF) (aH hp _)
def bN (K:aa):R2:=λx y H Q=>match x,y with
 | .int i, .int j=>Q (.int (i+j)) H
 | .str i, .str j=>i.length+j.length<=b8/\Q (.str (i++j)) H
 | .ref a, .ref b=>aHH (.ref a) (.ref b) H Q\/aFn K (.ref a) (.ref b) H Q
 |_,_=>False
theorem aEs:OpR X (jv .Add) (bN X.K):=by
 intro pins s σ H x y v u Q I rx ry h
 unfold bN at h
 split at h
 ·exact aEN (X:=X) pins s σ H _ _ v u Q I rx ry ⟨_,_,rfl,rfl,h⟩
 ·exact xX (X:=X) pins s σ H _ _ v u Q I rx ry ⟨_,_,rfl,rfl,h.1,h.2⟩
 ·rcases h with h | h
  ·exact aFY (X:=X) pins s σ H _ _ v u Q I rx ry h
  ·exact aEk (X:=X) pins s σ H _ _ v u Q I rx ry h
 ·exact h.elim
theorem aGJ:IxR X (λx y H Q=>aGx X.K x y H Q\/aGt X.K x y H Q):=aEv.or aFz
theorem Vals.of_get:∀{xs:List V}{us:List Value},xs.length=us.length->(∀(i:Nat) x u,xs[i]?=some x->us[i]?=some u->RelV x u)->Vals xs us
 |[],[],_,_ => .nil
 |[],_ :: _,h,_=>by simp at h
 |_ :: _,[],h,_=>by simp at h
 |x :: xs,u :: us,h,hr => .cons (hr 0 x u rfl rfl) (Vals.of_get (by simpa using h) λi y w h1 h2=>hr (i+1) y w (by simpa using h1) (by simpa using h2))
theorem aAj:CallR X (.type "range") (λvs H Q=>∃n:Int,vs=[.int n]/\∀p,H p=none->Q (.ref p) (upd H p (.rng 0 n))):=by
 intro pins s σ H xs us Q I r ⟨n,e,q⟩
 subst e
 obtain⟨u,rfl,ru⟩:=r.one
 obtain⟨t,rfl⟩:=ru
 refine call_range_1 ⟨.ref s.heap.objs.size,_,I.laid (a:=s.heap.objs.size) (o := .rng 0 n) (λb o e=>aq _ e) (az _) ⟨_,_,_,br _ rfl⟩,rfl,q _ (I.hok.fresh (az _))⟩
theorem aAd:CallR X (.type "range") (λvs H Q=>∃m n:Int,vs=[.int m, .int n]/\∀p,H p=none->Q (.ref p) (upd H p (.rng m n))):=by
 intro pins s σ H xs us Q I r ⟨m,n,e,q⟩
 subst e
 obtain⟨u,u',rfl,ru,ru'⟩:=r.two
 obtain⟨t,rfl⟩:=ru
 obtain⟨t',rfl⟩:=ru'
 refine call_range_2 ⟨.ref s.heap.objs.size,_,I.laid (a:=s.heap.objs.size) (o := .rng m n) (λb o e=>aq _ e) (az _) ⟨_,_,_,br _ rfl⟩,rfl,q _ (I.hok.fresh (az _))⟩
theorem aCh:CallR X (.type "range") (λvs H Q=>(∃n:Int,vs=[.int n]/\∀p,H p=none->Q (.ref p) (upd H p (.rng 0 n)))\/∃m n:Int,vs=[.int m, .int n]/\∀p,H p=none->Q (.ref p) (upd H p (.rng m n))):=aAj.or aAd
def yU (lo hi:Int):List Int:=(aj (hi - lo).toNat).map λi:Nat=>lo+(i:Int)
theorem pI (hc:X.calm=true):CallR X (.type "list") (λvs H Q=>∃(a:Addr) (lo hi:Int),vs=[.ref a]/\H a=some (.rng lo hi)/\(-(2 ^ 62)<=lo/\lo<2 ^ 62/\-(2 ^ 62)<=hi/\hi<2 ^ 62/\hi - lo<=1000000) /\
  ∀p,H p=none->Q (.ref p) (upd H p (.lst ((yU lo hi).map V.int)))):=by
 intro pins s σ H xs us Q I r ⟨a,lo,hi,e,ha,⟨b1,b2,b3,b4,b5⟩,q⟩
 subst e
 obtain⟨u,rfl,ru⟩:=r.one
 obtain rfl:u=Value.ref a:=ru
 obtain⟨t,u,v,hr⟩:=I.hok a _ ha
 refine call_list_range (a:=lo) (b:=hi) (c:=1) (n:=(hi - lo).toNat) (I.ok.hd hc) hr (small_one b1 b2 b3 b4) (by rw[rangeSize_one];split <;> omega) (by omega) λh' tk acc' c' hk hS hI=>?_
 refine⟨.ref s.heap.objs.size,_,I.laid (a:=s.heap.objs.size) (o := .lst ((yU lo hi).map V.int)) hk (az _) ⟨?_,acc'.toList,c',?_,by simpa using hS⟩,rfl,q _ (I.hok.fresh (az _))⟩
 ·rw[ai];unfold yU;rw[ai,cq]
  exact bq (show(hi - lo).toNat<=1000000 by omega) (by decide)
 ·refine Vals.of_get ?_ λi x u hx hu=>?_
  ·have el:acc'.toList.length=(hi - lo).toNat:=by rw[<- hI.1];simp
   rw[ai,el];unfold yU;rw[ai,cq]
  ·obtain⟨t,rfl⟩:=hI.2 i u (by simpa using hu)
   rw[bg] at hx
   unfold yU at hx
   rw[bg] at hx
   cases hi':(aj (hi - lo).toNat)[i]? with
   |none=>rw[hi'] at hx;cases hx
   |some j=>
    rw[hi'] at hx
    have:j=i:=by
     obtain⟨h1,h2⟩:=ah.mp hi'
     simpa using h2.symm
    subst this
    obtain rfl:V.int (lo+(j:Int))=x:=by simpa using hx
    exact⟨t,by rw[Int.mul_one]⟩
theorem oR (hc:X.calm=true):CallR X (.type "list") (λvs H Q=>(∃p ys,vs=[.ref p]/\(SqL X.K H p ys\/SqT X.K H p ys)/\∀l,H l=none->Q (.ref l) (upd H l (.lst ys))) \/
  ∃(a:Addr) (lo hi:Int),vs=[.ref a]/\H a=some (.rng lo hi)/\(-(2 ^ 62)<=lo/\lo<2 ^ 62/\-(2 ^ 62)<=hi/\hi<2 ^ 62/\hi - lo<=1000000)/\∀p,H p=none->Q (.ref p) (upd H p (.lst ((yU lo hi).map V.int)))):=rR.or (pI hc)
def gL (K:aa) (tl:TE):TI:=λσ H R=>tl σ H λx H1=>∃a,x = .ref a/\(((∃xs,SqL K H1 a xs)/\R (Itl K a) H1)\/((∃xs,SqT K H1 a xs)/\R (Itt K a) H1))
theorem aFF {tg l:Expr}{tl:TE}(hl:PE X l tl):PI X tg l (gL X.K tl):=by
 intro pins s σ H R I h
 refine thn (hl pins s σ H _ I h) λv s1 ⟨x,H1,I1,r1,q1⟩=>?_
 obtain⟨a,e,q⟩:=q1
 subst e
 cases r1
 rcases q with⟨⟨xs,hq⟩,q⟩ | ⟨⟨xs,hq⟩,q⟩
 ·obtain⟨its,rv,p,hz⟩:=I1.list hq
  refine ur p.isList ?_
  refine⟨s1.heap.objs.size,[s1.heap.objs.size],_,_,H1,rfl,I1.kept (t':=s1.toks) λb o e=>aq _ e,aBc a _,⟨_,br _ rfl,rfl,rfl⟩,λb hb=>?_,q⟩
  have e:b=s1.heap.objs.size:=by simpa using hb
  subst e
  exact I1.fpOk (az _) (I1.hok.fresh (az _))
 ·obtain⟨its,rv,p,hz⟩:=I1.tuple hq
  refine wpAny_pyIter_tuple (show s1.heap.IsTuple a its.toArray from p) ?_
  refine⟨s1.heap.objs.size,[s1.heap.objs.size],_,_,H1,rfl,I1.kept (t':=s1.toks) λb o e=>aq _ e,xU a _,⟨_,br _ rfl,rfl,rfl⟩,λb hb=>?_,q⟩
  have e:b=s1.heap.objs.size:=by simpa using hb
  subst e
  exact I1.fpOk (az _) (I1.hok.fresh (az _))
end
structure Def (P:Program)(w:World)(K:aa)(mg:Str->Option Value)(base:Heap)(x:Str)(k:Nat)(ps:List Str)(sp:Sp):Prop where
 ex:∃(f:Addr) (fd:FuncData),FnOk P w K mg base CX0 k f fd ps sp/\mg x=some (.ref f)/\mx K (.ref f)=true/\Binds K fd ps []
theorem Def.mono {P:Program}{w:World}{K:aa}{mg:Str->Option Value}{base:Heap}{x:Str}{j k:Nat}{ps:List Str}{sp:Sp}(D:Def P w K mg base x j ps sp)(h:j<=k):Def P w K mg base x k ps sp:=by
 obtain⟨f,fd,F,r⟩:=D.ex
 exact⟨f,fd,F.mono h,r⟩
theorem bA {X:Cx}{x:Str}{k:Nat}{ps:List Str}{sp:Sp}{p pos:Pos}{e:Expr}{es:List Expr}{t:TA}(D:Def X.prog X.w X.K X.mg X.base x k ps sp)(hr:Room k X.A)(hg:Gl X x)(ha:PA X (e :: es) t)
  (hdb:(x == ("__debug__" : Str))=false:=by decide) (he:ff (e :: es) X.env=(false,eval e X.env) :: ff es X.env:=by rfl) (hpl:(vo pos (ff es X.env)).any (·.1)=false:=by rfl) :
  PE X (.Call (.Name x p) (e :: es) [] pos) (bD sp [] E0 t):=by
 obtain⟨f,fd,F,hm,hk,hb⟩:=D.ex
 exact zQ F hr hg hm hk hb .nil aHv ha hdb he hpl
def SameX (acc:Addr) (H H':Hp):Prop:=∀b o,b≠acc->H b=some o->H' b=some o
theorem SameX.refl (acc:Addr)(H:Hp):SameX acc H H:=λ_ _ _ h=>h
theorem SameX.trans {acc:Addr}{H H1 H2:Hp}(a:SameX acc H H1)(b:SameX acc H1 H2):SameX acc H H2:=λc o n h=>b c o n (a c o n h)
theorem Same.x {acc:Addr}{H H':Hp}(e:Same H H'):SameX acc H H':=λb o _ h=>e b o h
theorem SameX.put {acc:Addr}{H:Hp}(o:HO):SameX acc H (upd H acc o):=λb u n h=>by rw[aR n];exact h
def Agree (vars:List Nat) (σ σ':St):Prop:=∀k,k∉vars->σ'[k]?=σ[k]?
theorem Agree.refl (vars:List Nat)(σ:St):Agree vars σ σ:=λ_ _=>rfl
theorem Agree.trans {vars:List Nat}{σ σ1 σ2:St}(a:Agree vars σ σ1)(b:Agree vars σ1 σ2):Agree vars σ σ2:=λk h=>(b k h).trans (a k h)
theorem Agree.set {vars:List Nat}{σ:St}{j:Nat}(h:j∈vars)(v:Option V):Agree vars σ (σ.set j v):=λk hk=>i7 (λe:j=k=>hk (by rw[<- e];exact h))
theorem oF {σ:St}{j:Nat}{v:Option V}(h:j<σ.length):(σ.set j v)[j]?=some v:=ip h
def Emits (vars:List Nat) (tb:TS) (acc:Addr) (σ:St) (H:Hp) (L:List V):Prop:=
 ∀(D:jG) (pre:List V),H acc=some (.lst pre)->pre.length+L.length<=1000000->(∀σ' H',σ'.length=σ.length->Agree vars σ σ'->SameX acc H H'->H' acc=some (.lst (pre++L))->D.nx σ' H')->tb D σ H
theorem sU {vars:List Nat}{te:TE}{acc:Addr}{σ:St}{H:Hp}{x:V}(h:∀Q:VK,(∀H',Same H H'->Q x H')->te σ H Q):Emits vars (eJ te acc) acc σ H [x]:=by
 intro D pre ha hz hd
 refine h _ λH' e=>⟨pre,e _ _ ha,?_,hd σ _ rfl (Agree.refl _ _) (e.x.trans (SameX.put _)) aF⟩
 exact cp (show pre.length<=1000000 by simp at hz;omega) (by decide)
theorem aV {α:Type}(f:Nat->List α)(i:Nat):(aj (i+1)).flatMap f=(aj i).flatMap f++f i:=by
 rw[List.range_succ,List.flatMap_append]
 simp
theorem cT {α:Type}(f:Nat->List α){i n:Nat}(h:i<=n):((aj i).flatMap f).length<=((aj n).flatMap f).length:=by
 induction h with
 |refl=>exact az _
 |step _ ih=>rw[aV,au];omega
theorem nT {vars:List Nat}{tb:TS}{acc:Addr}{σ:St}{H:Hp}{lo:Int}{n j:Nat}{L:Nat->List V}(hj:j∈vars)(hjl:j<σ.length)
  (h:∀i σ' H',i<n->σ'.length=σ.length->Agree vars σ σ'->σ'[j]?=some (some (.int (lo+(i:Int))))->SameX acc H H'->(∃pre,H' acc=some (.lst pre))->Emits vars tb acc σ' H' (L i)) :
  Emits vars (gB (Itr lo n) (aJ j) tb) acc σ H ((aj n).flatMap L):=by
 intro D pre ha hz hd
 refine cI (lo:=lo) (n:=n) (g:=aJ j) (D:=D) (λi σ' H'=>i<=n/\σ'.length=σ.length/\Agree vars σ σ'/\SameX acc H H'/\H' acc=some (.lst (pre++(aj i).flatMap L))) ⟨bc _,rfl,Agree.refl _ _,SameX.refl _ _,by simpa using ha⟩ (λi σ1 H1 hi ⟨_,hl1,ag1,sx1,h1⟩=>?_) λσ1 H1 ⟨_,hl1,ag1,sx1,h1⟩=>hd σ1 H1 hl1 ag1 sx1 h1
 have hle:=cT L (show i+1<=n from hi)
 rw[aV,au] at hle
 have fin:∀σ' H',σ'.length=σ1.length->Agree vars (σ1.set j (some (.int (lo+(i:Int))))) σ'->SameX acc H1 H'->H' acc=some (.lst ((pre++(aj i).flatMap L)++L i)) ->
   (i+1<=n/\σ'.length=σ.length/\Agree vars σ σ'/\SameX acc H H'/\H' acc=some (.lst (pre++(aj (i+1)).flatMap L))):=λσ' H' hl ag sx h2=>
  ⟨hi,hl.trans hl1,(ag1.trans (Agree.set hj _)).trans ag,sx1.trans sx,by rw[h2,aV,ez]⟩
 refine h i (σ1.set j (some (.int (lo+(i:Int))))) H1 hi (by rw[fk];exact hl1) (ag1.trans (Agree.set hj _)) (oF (by omega)) sx1 ⟨_,h1⟩ _ _ h1 (by rw[au];omega) λσ' H' hl ag sx h2=>fin σ' H' (hl.trans (fk ..)) ag sx h2
theorem rT {vars:List Nat}{ta:TA}{tb:TS}{acc:Addr}{σ:St}{H:Hp}{n j:Nat}{L:Nat->List V}(hj:j∈vars)(hjl:j<σ.length)(hn:n<=1000000)
  (hta:∀Q:List V->Hp->Prop,(∀H',Same H H'->Q [.int (n:Int)] H')->ta σ H Q)
  (h:∀i σ' H',i<n->σ'.length=σ.length->Agree vars σ σ'->σ'[j]?=some (some (.int (i:Int)))->SameX acc H H'->(∃pre,H' acc=some (.lst pre))->Emits vars tb acc σ' H' (L i)) :
  Emits vars (hV (kH ta) (aJ j) tb) acc σ H ((aj n).flatMap L):=by
 intro D pre ha hz hd
 refine hta _ λH' e=>⟨(n:Int),rfl,by omega,by omega,?_⟩
 rw[dj]
 refine nT (L:=L) hj hjl (λi σ' H2 hi hl ag hs sx hp=>h i σ' H2 hi hl ag (by rw[hs];simp) (e.x.trans sx) hp) D pre (e _ _ ha) hz λσ' H2 hl ag sx h2=>hd σ' H2 hl ag (e.x.trans sx) h2
theorem aBC {K:aa}{vars:List Nat}{tb:TS}{acc a:Addr}{σ:St}{H:Hp}{xs:List V}{j:Nat}{L:Nat->List V}(hj:j∈vars)(hjl:j<σ.length)(hs:∀H',SameX acc H H'->SqT K H' a xs)
  (h:∀i x σ' H',xs[i]?=some x->σ'.length=σ.length->Agree vars σ σ'->σ'[j]?=some (some x)->SameX acc H H'->(∃pre,H' acc=some (.lst pre))->Emits vars tb acc σ' H' (L i)) :
  Emits vars (gB (Itt K a) (aJ j) tb) acc σ H ((aj xs.length).flatMap L):=by
 intro D pre ha hz hd
 refine aAC (K:=K) (a:=a) (xs:=xs) (g:=aJ j) (D:=D) (λi σ' H'=>i<=xs.length/\σ'.length=σ.length/\Agree vars σ σ'/\SameX acc H H'/\H' acc=some (.lst (pre++(aj i).flatMap L))) ⟨bc _,rfl,Agree.refl _ _,SameX.refl _ _,by simpa using ha⟩ (λi σ1 H1 _ ⟨_,_,_,sx1,_⟩=>hs H1 sx1) (λi x σ1 H1 hx ⟨_,hl1,ag1,sx1,h1⟩=>?_) λσ1 H1 ⟨_,hl1,ag1,sx1,h1⟩=>hd σ1 H1 hl1 ag1 sx1 h1
 have hi:i<xs.length:=(ah.mp hx).1
 have hle:=cT L (show i+1<=xs.length from hi)
 rw[aV,au] at hle
 have fin:∀σ' H',σ'.length=σ1.length->Agree vars (σ1.set j (some x)) σ'->SameX acc H1 H'->H' acc=some (.lst ((pre++(aj i).flatMap L)++L i)) ->
   (i+1<=xs.length/\σ'.length=σ.length/\Agree vars σ σ'/\SameX acc H H'/\H' acc=some (.lst (pre++(aj (i+1)).flatMap L))):=λσ' H' hl ag sx h2=>
  ⟨hi,hl.trans hl1,(ag1.trans (Agree.set hj _)).trans ag,sx1.trans sx,by rw[h2,aV,ez]⟩
 refine h i x (σ1.set j (some x)) H1 hx (by rw[fk];exact hl1) (ag1.trans (Agree.set hj _)) (oF (by omega)) sx1 ⟨_,h1⟩ _ _ h1 (by rw[au];omega) λσ' H' hl ag sx h2=>fin σ' H' (hl.trans (fk ..)) ag sx h2
theorem bX:dw "len" = some (.builtin "len"):=by decide+kernel
theorem zV:dw "all" = some (.builtin "all"):=by decide+kernel
theorem rF:dw "min" = some (.builtin "min"):=by decide+kernel
theorem aCW:dw "max" = some (.builtin "max"):=by decide+kernel
theorem aEV:dw "sum" = some (.builtin "sum"):=by decide+kernel
theorem iP:dw "isinstance" = some (.builtin "isinstance"):=by decide+kernel
theorem dW:dw "sorted" = some (.builtin "sorted"):=by decide+kernel
theorem gK:dw "tuple" = some (.type "tuple"):=by decide+kernel
theorem fD:dw "list" = some (.type "list"):=by decide+kernel
theorem lI:dw "range" = some (.type "range"):=by decide+kernel
theorem aCU:dw "int" = some (.type "int"):=by decide+kernel
theorem oQ:dw "bool" = some (.type "bool"):=by decide+kernel
structure Blt (mg:Str->Option Value):Prop where
 len:mg "len" = none
 all:mg "all" = none
 min:mg "min" = none
 max:mg "max" = none
 sum:mg "sum" = none
 isi:mg "isinstance" = none
 sorted:mg "sorted" = none
 tuple:mg "tuple" = none
 list:mg "list" = none
 range:mg "range" = none
 int:mg "int" = none
 bool:mg "bool" = none
end L2
namespace L2
open PySem
theorem aHh {A:Around}{k:Nat}(hr:Room k A):A.units+100<cLine:=by have:=hr.un;omega
theorem aHk {A:Around}{k:Nat}(hr:Room k A):A.units+101<cLine:=by have:=hr.un;omega
end L2
namespace L2
open PySem PySem.Spec PyProof.Rows
section
variable {X:Cx}{K:aa}
theorem aT (hK:X.K=K):IxR X (λx y H Q=>aGx K x y H Q\/aGt K x y H Q):=by subst hK;exact aGJ
theorem aW (hK:X.K=K):OpR X (jv .Add) (bN K):=by subst hK;exact aEs
theorem eB {k:Nat}(hK:X.K=K)(hr:Room k X.A):OpR X (fi .Eq) (fZ K):=by subst hK;exact aGh (aHh hr)
theorem iZ {k:Nat}(hK:X.K=K)(hr:Room k X.A):OpR X (fi .NotEq) (vN K):=by subst hK;exact aEH (aHk hr)
theorem dA (hK:X.K=K):CallR X (.builtin "isinstance") (xM K):=by subst hK;exact aBT
def hU (K:aa):List V->Hp->VK->Prop:=λxs H Q=>∃p ys,xs=[.ref p]/\(SqL K H p ys\/SqT K H p ys)/\Q (.int ys.length) H
theorem aU (hK:X.K=K):CallR X (.builtin "len") (hU K):=by subst hK;exact rZ
def aGs (K:aa):List V->Hp->VK->Prop:=λvs H Q=>∃(a:Addr) (bs:List Bool),vs=[.ref a]/\Sq K H a (bs.map V.bl)/\Q (.bl (bs.all id)) H
theorem lV (hK:X.K=K)(hc:X.calm=true):CallR X (.builtin "all") (aGs K):=by subst hK;exact aCj hc
def aHx (K:aa):List V->Hp->VK->Prop:=λvs H Q=>∃(a:Addr) (ns:List Int),vs=[.ref a]/\Sq K H a (ns.map V.int)/\Q (.int ns.sum) H
theorem aAv (hK:X.K=K)(hc:X.calm=true):CallR X (.builtin "sum") (aHx K):=by subst hK;exact aCs hc
def aHK (K:aa):List V->Hp->VK->Prop:=λvs H Q=>∃(a:Addr) (ns:List Int),vs=[.ref a]/\Sq K H a (ns.map V.int)/\ns≠[]/\∀m:Int,m∈ns->(∀k∈ns,m<=k)->Q (.int m) H
theorem aBe (hK:X.K=K)(hc:X.calm=true):CallR X (.builtin "min") (aHK K):=by subst hK;exact aCc hc
def aHF (K:aa):List V->Hp->VK->Prop:=λvs H Q=>∃(a:Addr) (ns:List Int),vs=[.ref a]/\Sq K H a (ns.map V.int)/\ns≠[]/\∀m:Int,m∈ns->(∀k∈ns,k<=m)->Q (.int m) H
theorem aBa (hK:X.K=K)(hc:X.calm=true):CallR X (.builtin "max") (aHF K):=by subst hK;exact aBI hc
def nL:List V->Hp->VK->Prop:=λxs H Q=>∃i j:Int,xs=[.int i, .int j]/\Q (.int (if j<i then j else i)) H
theorem jN (hc:X.calm=true):CallR X (.builtin "min") nL:=yL hc
def aFk:List V->Hp->VK->Prop:=λxs H Q=>∃i j:Int,xs=[.int i, .int j]/\Q (.int (if j > i then j else i)) H
theorem xC (hc:X.calm=true):CallR X (.builtin "max") aFk:=zK hc
def mE (K:aa):List V->Hp->VK->Prop:=λxs H Q=>∃p ys,xs=[.ref p]/\((SqL K H p ys/\∀l,H l=none->Q (.ref l) (upd H l (.tup ys)))\/(SqT K H p ys/\Q (.ref p) H))
theorem fB (hK:X.K=K):CallR X (.type "tuple") (mE K):=by subst hK;exact pO
def nE (K:aa):List V->Hp->VK->Prop:=λvs H Q=>(∃p ys,vs=[.ref p]/\(SqL K H p ys\/SqT K H p ys)/\∀l,H l=none->Q (.ref l) (upd H l (.lst ys))) \/
  ∃(a:Addr) (lo hi:Int),vs=[.ref a]/\H a=some (.rng lo hi)/\(-(2 ^ 62)<=lo/\lo<2 ^ 62/\-(2 ^ 62)<=hi/\hi<2 ^ 62/\hi - lo<=1000000)/\∀p,H p=none->Q (.ref p) (upd H p (.lst ((yU lo hi).map V.int)))
theorem cW (hK:X.K=K)(hc:X.calm=true):CallR X (.type "list") (nE K):=by subst hK;exact oR hc
theorem bL {tg l:Expr}{tl:TE}(hK:X.K=K)(hl:PE X l tl):PI X tg l (gL K tl):=by subst hK;exact aFF hl
theorem fI {es:List Expr}{k:Nat}{t:TGs}{n:Nat}{pos:Pos}(hK:X.K=K)(hc:X.calm=true)(h:PGs X es t)(hn:(oz es X.env).length=n:=by rfl)(hst:(oz es X.env).findIdx? (·.1)=none:=by rfl):PG X (.Tuple es k pos) (aAU K n t):=by
 subst hK;exact aFs hc h hn hst
end
abbrev yLt:R2:=rI0 λi j => .bl (decide (i<j))
abbrev yLe:R2:=rI0 λi j => .bl (decide (i<=j))
abbrev yGt:R2:=rI0 λi j => .bl (decide (j<i))
abbrev yGe:R2:=rI0 λi j => .bl (decide (j<=i))
abbrev mW:R2:=rI0 λi j => .int (i - j)
abbrev xS:R2:=rI (λ_ j=>0<j) λi j => .int (i % j)
abbrev aCY:R2:=rI aHM λi j => .int (i ^ j.toNat)
abbrev aEt:V->Hp->VK->Prop:=rU λi => .int (-i)
abbrev bC (K:aa):R2:=λx y H Q=>aGx K x y H Q\/aGt K x y H Q
def aEL:List V->Hp->VK->Prop:=λvs H Q=>(∃n:Int,vs=[.int n]/\∀p,H p=none->Q (.ref p) (upd H p (.rng 0 n)))\/∃m n:Int,vs=[.int m, .int n]/\∀p,H p=none->Q (.ref p) (upd H p (.rng m n))
theorem jA {X:Cx}:CallR X (.type "range") aEL:=aCh
end L2
namespace L2
open PySem
def uO (T:List (List Int)):Dt := .tup (T.map λr => .tup (r.map .int))
structure Quad (T:List (List Int))(n:Nat):Prop where
 len:T.length=n
 row:∀r∈T,r.length=n
def at2 (T:List (List Int)) (i j:Nat):Int:=(T.getD i []).getD j 0
section
variable {K:aa}{H:Hp}{T:List (List Int)}{n:Nat}
theorem ShL.rows:∀{T:List (List Int)}{rs:List V},ShL K H (T.map λr=>Dt.tup (r.map Dt.int)) rs->rs.length=T.length/\∀(i:Nat) (row:List Int),T[i]?=some row->∃b,rs[i]?=some (.ref b)/\SqT K H b (row.map V.int)
 |[],rs,h=>by
  have h:rs=[]:=h
  subst h
  exact⟨rfl,λi row e=>by simp at e⟩
 |r :: T,rs,⟨x,rr,h1,⟨b,xs,h2,h3,h4⟩,h5⟩=>by
  obtain⟨e,g⟩:=ShL.rows h5
  subst h1
  refine⟨by rw[ba,ba,e],λi row er=>?_⟩
  cases i with
  |zero=>
   have:r=row:=by simpa using er
   subst this
   exact⟨b,by rw[h2];rfl,by rw[<- ShL.of_ints h4];exact h3⟩
  |succ i=>exact g i row (by simpa using er)
theorem Sh.tab {v:V}(h:Sh K H (uO T) v):∃a rs,v = .ref a/\SqT K H a rs/\rs.length=T.length/\∀(i:Nat) (row:List Int),T[i]?=some row->∃b,rs[i]?=some (.ref b)/\SqT K H b (row.map V.int):=by
 obtain⟨a,rs,e,hq,hl⟩:=h
 obtain⟨e2,g⟩:=ShL.rows hl
 exact⟨a,rs,e,hq,e2,g⟩
theorem ShL.of_rows:∀{T:List (List Int)}{rs:List V},rs.length=T.length->(∀(i:Nat) (row:List Int),T[i]?=some row->∃b,rs[i]?=some (.ref b)/\SqT K H b (row.map V.int))->ShL K H (T.map λr=>Dt.tup (r.map Dt.int)) rs
 |[],rs,h,_=>n9.mp h
 |r :: T,[],h,_=>by simp at h
 |r :: T,x :: rs,h,g=>by
  obtain⟨b,e,hq⟩:=g 0 r rfl
  have e:x = .ref b:=by simpa using e
  exact⟨x,rs,rfl,⟨b,_,e,hq,ShL.ints r⟩,ShL.of_rows (by simpa using h) λi row er=>by
   obtain⟨c,e2,q2⟩:=g (i+1) row (by simpa using er)
   exact⟨c,by simpa using e2,q2⟩⟩
theorem Quad.get (q:Quad T n){i:Nat}(h:i<n):∃row,T[i]?=some row/\row.length=n/\T.getD i []=row:=by
 have hi:i<T.length:=by rw[q.len];exact h
 refine⟨T[i],ae hi,q.row _ (dg hi),?_⟩
 rw[ak,ae hi];rfl
theorem tL {xs:List Int}{j:Nat}(h:j<xs.length):xs[j]?=some (xs.getD j 0):=by
 rw[ak,ae h];rfl
theorem ixT {p:Addr}{xs:List V}{j:Nat}{v:V}{Q:VK}(h:SqT K H p xs)(hj:xs[j]?=some v)(q:Q v H):bC K (.ref p) (.int (j:Int)) H Q := .inr ⟨p,xs,j,v,rfl,rfl,h,aAx hj,q⟩
theorem ixL {p:Addr}{xs:List V}{j:Nat}{v:V}{Q:VK}(h:SqL K H p xs)(hj:xs[j]?=some v)(q:Q v H):bC K (.ref p) (.int (j:Int)) H Q := .inl ⟨p,xs,j,v,rfl,rfl,h,aAx hj,q⟩
theorem aAb {v:V}{i:Nat}{Q:VK}(hS:Sh K H (uO T) v)(hq:Quad T n)(hi:i<n)(q:∀b,SqT K H b ((T.getD i []).map V.int)->Q (.ref b) H):bC K v (.int (i:Int)) H Q:=by
 obtain⟨a,rs,rfl,ha,hl,g⟩:=hS.tab
 obtain⟨row,e1,e2,e3⟩:=hq.get hi
 obtain⟨b,hb,hs⟩:=g i row e1
 exact ixT ha hb (q b (by rw[e3];exact hs))
theorem lW {σ:St}{t si sj:Nat}{v:V}{i j:Nat}{Q:VK}(ht:σ[t]?=some (some v))(hi:σ[si]?=some (some (.int (i:Int))))(hj:σ[sj]?=some (some (.int (j:Int))))(hS:Sh K H (uO T) v)(hq:Quad T n)(li:i<n)(lj:j<n)
  (q:Q (.int (at2 T i j)) H):tOp (bC K) (tOp (bC K) (aD t) (aD si)) (aD sj) σ H Q:=by
 refine⟨_,ht,_,hi,aAb hS hq li λb hb=>⟨_,hj,ixT hb ?_ q⟩⟩
 obtain⟨row,e1,e2,e3⟩:=hq.get li
 rw[bg,tL (by rw[e3];omega)]
 rfl
end
theorem cZ {acc:Addr}{H H2:Hp}{o:HO}(hacc:H acc=none)(sx:SameX acc (upd H acc o) H2):Same H H2:=λb u e=>sx b u (aN e hacc) (by rw[aR (aN e hacc)];exact e)
theorem Emits.mono {vars vars':List Nat}{tb:TS}{acc:Addr}{σ:St}{H:Hp}{L:List V}(h:Emits vars tb acc σ H L)(hs:∀k∈vars,k∈vars'):Emits vars' tb acc σ H L:=
 λD pre ha hz hd=>h D pre ha hz λσ' H' hl ag sx h2=>hd σ' H' hl (λk hk=>ag k λz=>hk (hs k z)) sx h2
theorem Emits.cast {vars:List Nat}{tb:TS}{acc:Addr}{σ:St}{H:Hp}{L L':List V}(h:Emits vars tb acc σ H L)(e:L=L'):Emits vars tb acc σ H L':=e ▸ h
theorem mI (vars:List Nat)(L:List V){g:TG}{J:It}{tb:TS}{acc:Addr}{σ:St}{H:Hp}{D:jG}(ha:H acc=none)(hz:L.length<=1000000)(h:Emits vars (gB J g tb) acc σ (upd H acc (.lst [])) L)
  (q:∀σ' H',Same H H'->H' acc=some (.lst L)->D.nx σ' H'):gB J g tb D σ (upd H acc (.lst [])):=
 h _ [] aF (by simpa using hz) λσ' H' _ _ sx h2=>q σ' H' (cZ ha sx) (by simpa using h2)
theorem cN {α:Type}(f:Nat->List α)(c:Nat):∀n,(∀i,i<n->(f i).length<=c)->((aj n).flatMap f).length<=n*c
 |0,_=>by simp
 |n+1,h=>by
  rw[aV,au,Nat.add_mul,Nat.one_mul]
  have:=cN f c n λi hi=>h i (by omega)
  have:=h n (by omega)
  omega
theorem rV {α β:Type}(g:α->β)(f:Nat->List α)(l:List Nat):(l.flatMap f).map g=l.flatMap λi=>(f i).map g:=by
 induction l with
 |nil=>rfl
 |cons x r ih=>rw[mh,de,ih,mh]
theorem mJ {α:Type}(p:α->Bool)(f:Nat->List α)(l:List Nat):(l.flatMap f).all p=l.all λi=>(f i).all p:=by
 induction l with
 |nil=>rfl
 |cons x r ih=>rw[mh,List.all_append,ih,n5]
section
variable {vars:List Nat}{tb:TS}{acc a:Addr}{σ:St}{H:Hp}{j:Nat}{D:jG}{K:aa}
theorem yP {lo:Int}{n:Nat}(R:Nat->List V->Hp->Prop)(hj:j∈vars)(hjl:j<σ.length)(h0:R 0 [] (upd H acc (.lst [])))(ha:H acc=none)
  (h:∀i σ' H' L (D:jG),i<n->σ'.length=σ.length->Agree vars σ σ'->σ'[j]?=some (some (.int (lo+(i:Int))))->Same H H'->H' acc=some (.lst L)->R i L H' ->
   (∀σ'' H'' L',σ''.length=σ.length->Agree vars σ σ''->Same H H''->H'' acc=some (.lst L')->R (i+1) L' H''->D.nx σ'' H'')->tb D σ' H')
  (q:∀σ' H' L,Same H H'->H' acc=some (.lst L)->R n L H'->D.nx σ' H'):gB (Itr lo n) (aJ j) tb D σ (upd H acc (.lst [])):=by
 refine cI (lo:=lo) (n:=n) (g:=aJ j) (D:=D) (λi σ' H'=>i<=n/\σ'.length=σ.length/\Agree vars σ σ'/\Same H H'/\∃L,H' acc=some (.lst L)/\R i L H') ⟨bc _,rfl,Agree.refl _ _,aH ha _,[],aF,h0⟩ (λi σ1 H1 hi ⟨_,hl1,ag1,sx1,L,h1,r1⟩=>?_) λσ1 H1 ⟨_,_,_,sm,L,h1,r1⟩=>q σ1 H1 L sm h1 r1
 exact h i (σ1.set j (some (.int (lo+(i:Int))))) H1 L _ hi (by rw[fk];exact hl1) (ag1.trans (Agree.set hj _)) (oF (by omega)) sx1 h1 r1 λσ2 H2 L' hl2 ag2 sm2 h2 r2=>⟨hi,hl2,ag2,sm2,L',h2,r2⟩
theorem iH {xs:List V}(R:Nat->List V->Hp->Prop)(hj:j∈vars)(hjl:j<σ.length)(h0:R 0 [] (upd H acc (.lst [])))(ha:H acc=none)(hs:∀i L H',Same H H'->R i L H'->SqL K H' a xs)
  (h:∀i x σ' H' L (D:jG),xs[i]?=some x->σ'.length=σ.length->Agree vars σ σ'->σ'[j]?=some (some x)->Same H H'->H' acc=some (.lst L)->R i L H' ->
   (∀σ'' H'' L',σ''.length=σ.length->Agree vars σ σ''->Same H H''->H'' acc=some (.lst L')->R (i+1) L' H''->D.nx σ'' H'')->tb D σ' H')
  (q:∀σ' H' L,Same H H'->H' acc=some (.lst L)->R xs.length L H'->D.nx σ' H'):gB (Itl K a) (aJ j) tb D σ (upd H acc (.lst [])):=by
 refine bW (K:=K) (a:=a) (xs:=xs) (g:=aJ j) (D:=D) (λi σ' H'=>i<=xs.length/\σ'.length=σ.length/\Agree vars σ σ'/\Same H H'/\∃L,H' acc=some (.lst L)/\R i L H') ⟨bc _,rfl,Agree.refl _ _,aH ha _,[],aF,h0⟩ (λi σ1 H1 _ ⟨_,_,_,sm,L,_,r1⟩=>hs i L H1 sm r1) (λi x σ1 H1 hx ⟨_,hl1,ag1,sx1,L,h1,r1⟩=>?_) λσ1 H1 ⟨_,_,_,sm,L,h1,r1⟩=>q σ1 H1 L sm h1 r1
 have hi:i<xs.length:=(ah.mp hx).1
 exact h i x (σ1.set j (some x)) H1 L _ hx (by rw[fk];exact hl1) (ag1.trans (Agree.set hj _)) (oF (by omega)) sx1 h1 r1 λσ2 H2 L' hl2 ag2 sm2 h2 r2=>⟨hi,hl2,ag2,sm2,L',h2,r2⟩
end
structure Mat (H:Hp)(F:Addr)(ls:List Addr)(M:List (List Int)):Prop where
 top:H F=some (.lst (ls.map V.ref))
 len:ls.length=M.length
 row:∀(i:Nat) (l:Addr) (r:List Int),ls[i]?=some l->M[i]?=some r->H l=some (.lst (r.map V.int))
 nd:ls.Nodup
 out:F∉ls
theorem Mat.same {H H':Hp}{F:Addr}{ls:List Addr}{M:List (List Int)}(m:Mat H F ls M)(e:Same H H'):Mat H' F ls M:=⟨e _ _ m.top,m.len,λi l r a b=>e _ _ (m.row i l r a b),m.nd,m.out⟩
theorem Mat.keep {H H':Hp}{F:Addr}{ls:List Addr}{M:List (List Int)}(m:Mat H F ls M)(e:∀b o,(b=F\/b∈ls)->H b=some o->H' b=some o):Mat H' F ls M:=
 ⟨e _ _ (.inl rfl) m.top,m.len,λi l r a b=>e _ _ (.inr (a8 a)) (m.row i l r a b),m.nd,m.out⟩
def tI (M:List (List Int)) (i j:Nat) (v:Int):List (List Int):=M.set i ((M.getD i []).set j v)
theorem iJ {M:List (List Int)}{n i j:Nat}{v:Int}(q:Quad M n)(hi:i<n):Quad (tI M i j v) n:=by
 refine⟨by unfold tI;rw[fk];exact q.len,λr hr=>?_⟩
 unfold tI at hr
 rcases List.mem_or_eq_of_mem_set hr with h | h
 ·exact q.row r h
 ·obtain⟨row,e1,e2,e3⟩:=q.get hi
  rw[h,fk,e3];exact e2
theorem pU {M:List (List Int)}{n i j:Nat}{v:Int}(q:Quad M n)(hi:i<n)(hj:j<n)(a b:Nat):at2 (tI M i j v) a b=if a=i/\b=j then v else at2 M a b:=by
 obtain⟨row,e1,e2,e3⟩:=q.get hi
 unfold at2 tI
 by_cases ha:a=i
 ·subst ha
  have:(M.set a ((M.getD a []).set j v)).getD a []=(M.getD a []).set j v:=by
   rw[ak,ip (by rw[q.len];exact hi)];rfl
  rw[this,e3]
  by_cases hb:b=j
  ·subst hb
   rw[if_pos ⟨rfl,rfl⟩,ak,ip (by omega)];rfl
  ·rw[if_neg (λz=>hb z.2),ak,i7 (gh hb),<- ak]
 ·have:(M.set i ((M.getD i []).set j v)).getD a []=M.getD a []:=by
   rw[ak,i7 (gh ha),<- ak]
  rw[this,if_neg (λz=>ha z.1)]
theorem Mat.at {K:aa}{H:Hp}{F:Addr}{ls:List Addr}{M:List (List Int)}{n i:Nat}(m:Mat H F ls M)(q:Quad M n)(hi:i<n):∃l,ls[i]?=some l/\(ls.map V.ref)[i]?=some (.ref l)/\H l=some (.lst ((M.getD i []).map V.int)):=by
 obtain⟨row,e1,e2,e3⟩:=q.get hi
 have hl:i<ls.length:=by rw[m.len,q.len];exact hi
 refine⟨ls[i],ae hl,by rw[bg,ae hl];rfl,?_⟩
 rw[e3]
 exact m.row i _ row (ae hl) e1
theorem Mat.put {H:Hp}{F:Addr}{ls:List Addr}{M:List (List Int)}{n i j:Nat}{v:Int}{l:Addr}(m:Mat H F ls M)(q:Quad M n)(hi:i<n)(hl:ls[i]?=some l):Mat (upd H l (.lst (((M.getD i []).set j v).map V.int))) F ls (tI M i j v):=by
 have hm:l∈ls:=a8 hl
 have hF:F≠l:=λe=>m.out (e ▸ hm)
 refine⟨by rw[aR hF];exact m.top,by unfold tI;rw[fk];exact m.len,λa b r h1 h2=>?_,m.nd,m.out⟩
 by_cases ha:a=i
 ·subst ha
  rw[hl] at h1
  cases h1
  rw[aF]
  unfold tI at h2
  rw[ip (by rw[q.len];exact hi)] at h2
  cases h2
  rfl
 ·have hne:b≠l:=by
   intro e
   subst e
   obtain⟨i1,z1⟩:=ah.mp h1
   obtain⟨i2,z2⟩:=ah.mp hl
   exact ha ((List.getElem_inj m.nd).mp (z1.trans z2.symm))
  rw[aR hne]
  unfold tI at h2
  rw[i7 (gh ha)] at h2
  exact m.row a b r h1 h2
theorem vL {K:aa}{H:Hp}{F:Addr}{ls:List Addr}{M:List (List Int)}{n i j t si sj:Nat}{σ:St}{Q:VK}(m:Mat H F ls M)(q:Quad M n)(ht:σ[t]?=some (some (.ref F)))(hi:σ[si]?=some (some (.int (i:Int))))(hj:σ[sj]?=some (some (.int (j:Int))))(li:i<n)(lj:j<n)
  (h:Q (.int (at2 M i j)) H):tOp (bC K) (tOp (bC K) (aD t) (aD si)) (aD sj) σ H Q:=by
 obtain⟨l,h1,h2,h3⟩:=m.at (K:=K) q li
 refine⟨_,ht,_,hi,ixL (.of m.top) h2 ⟨_,hj,ixL (.of h3) ?_ h⟩⟩
 obtain⟨row,e1,e2,e3⟩:=q.get li
 rw[bg,tL (by rw[e3];omega)]
 rfl
theorem tP {K:aa}{H:Hp}{F:Addr}{ls:List Addr}{M:List (List Int)}{n i j t si sj:Nat}{σ:St}{v:Int}{N:St->Hp->Prop}(m:Mat H F ls M)(q:Quad M n)(ht:σ[t]?=some (some (.ref F)))(hi:σ[si]?=some (some (.int (i:Int))))(hj:σ[sj]?=some (some (.int (j:Int))))(li:i<n)(lj:j<n)
  (h:∀l H',l∈ls->H'=upd H l (.lst (((M.getD i []).set j v).map V.int))->Mat H' F ls (tI M i j v)->N σ H'):lC (tOp (bC K) (aD t) (aD si)) (aD sj) dM (.int v) σ H N:=by
 obtain⟨l,h1,h2,h3⟩:=m.at (K:=K) q li
 obtain⟨row,e1,e2,e3⟩:=q.get li
 refine⟨_,ht,_,hi,ixL (.of m.top) h2 ⟨_,hj,l,_,(j:Int),j,rfl,rfl,h3,?_,?_⟩⟩
 rotate_left
 ·rw[<- List.map_set]
  exact h l _ (a8 h1) rfl (m.put q li h1)
 rw[ai,e3,e2]
 unfold ixN
 rw[if_pos (by omega),if_pos (by omega),dj]
theorem rK {K:aa}{σ:St}{H:Hp}{t n:Nat}{F:Addr}{ls:List Addr}{M:List (List Int)}{Q:VK}(ht:σ[t]?=some (some (.ref F)))(m:Mat H F ls M)(q:Quad M n)(hn:n<=100)(h:∀p H',Same H H'->Sh K H' (uO M) (.ref p)->Q (.ref p) H') :
  tCB (mE K) (aB (fS [none] (gL K (aD t)) (aJ 0) [] λacc=>eJ (tCB (mE K) (aB (aD 0) aO)) acc) aO) σ H Q:=by
 refine⟨_,ht,F,rfl, .inl ⟨⟨_, .of m.top⟩,λacc hacc=>?_⟩⟩
 have hlen:(ls.map V.ref).length=n:=by rw[ai,m.len,q.len]
 refine iH (vars:=[0]) (K:=K) (a:=F) (xs:=ls.map V.ref) (λi L H'=>L.length=i/\∀(j:Nat) (row:List Int),j<i->M[j]?=some row->∃b,L[j]?=some (.ref b)/\H' b=some (.tup (row.map V.int))) (by decide) (by show 0<1;decide) ⟨rfl,λj row hj=>absurd hj (lx _)⟩ hacc (λi L H' sm _ => .of (sm _ _ m.top)) (λi x σ1 H1 L D hx l1 ag1 s1 sm1 ha1 ⟨r1,r2⟩ hD=>?_) λσ1 H1 L sm1 ha1 ⟨r1,r2⟩=>?_
 ·have hi:i<n:=by rw[<- hlen];exact(ah.mp hx).1
  have hil:i<ls.length:=by rw[m.len,q.len];exact hi
  obtain⟨row,e1,e2,e3⟩:=q.get hi
  have ex:x = .ref ls[i]:=by
   rw[bg,ae hil] at hx
   simpa using hx.symm
  subst ex
  have hrow:=m.row i _ row (ae hil) e1
  refine⟨_,s1,ls[i],row.map V.int,rfl, .inl ⟨.of (sm1 _ _ hrow),λp hp=>?_⟩⟩
  have hpa:p≠acc:=λe=>by rw[e,ha1] at hp;cases hp
  refine⟨L,by rw[aR (gh hpa)];exact ha1,cp (show L.length<=100 by omega) (by decide),?_⟩
  refine hD σ1 _ (L++[.ref p]) l1 ag1 (λb o e=>?_) aF ⟨by rw[au,r1];rfl,λj row' hj e=>?_⟩
  ·have hb:b≠acc:=aN e hacc
   rw[aR hb,aR (aN (sm1 _ _ e) hp)]
   exact sm1 _ _ e
  ·by_cases hji:j<i
   ·obtain⟨b,g1,g2⟩:=r2 j row' hji e
    refine⟨b,by rw[bh (by omega)];exact g1,?_⟩
    have hb:b≠acc:=ne_of g2 ha1 (λz=>nomatch z)
    rw[aR hb,aR (aN g2 hp)]
    exact g2
   ·have:j=i:=by omega
    subst this
    rw[e1] at e
    cases e
    refine⟨p,by rw[bj (by omega),r1];simp,?_⟩
    rw[aR hpa]
    exact aF
 ·refine⟨acc,L,rfl, .inl ⟨.of ha1,λp hp=>?_⟩⟩
  have sm2:Same H (upd H1 p (.tup L)):=sm1.trans (aH hp _)
  refine h p _ sm2 ⟨p,L,rfl, .of aF,ShL.of_rows (by rw[r1,hlen,q.len]) λi row e=>?_⟩
  have hi:i<n:=by rw[<- q.len];exact(ah.mp e).1
  obtain⟨b,g1,g2⟩:=r2 i row (by omega) e
  exact⟨b,g1, .of (by rw[aR (aN g2 hp)];exact g2)⟩
section
variable {K:aa}{H:Hp}
end
theorem aCv (ns:List Int)(lo hi:Option Int):∃ms:List Int,oT (ns.map V.int) lo hi=ms.map V.int/\ms.length<=ns.length:=by
 refine⟨(ns.drop (HT.sIx ns.length 0 lo)).take (HT.sIx ns.length ns.length hi - HT.sIx ns.length 0 lo),?_,?_⟩
 ·unfold oT
  rw[ai,zd,ze]
 ·rw[fg,qm];omega
end L2
namespace L2
open PySem PySem.Spec PyProof.Rows
section
variable {X:Cx}
theorem jQ {prog:Program}{w:World}{A:Around}{E:Value->Shared->Prop}{s:Shared}{t sl:Addr}{items:Array Value}{vl vu:Value}{lo hi:Option Int}{Q:Value->Shared->Prop}(ht:IsTup s.heap t items)(hs:s.heap.IsSliceOf sl vl vu .none)(pl:IsPart vl lo)(pu:IsPart vu hi)
  (hw:HT.sIx items.size 0 lo=0/\HT.sIx items.size items.size hi=items.size) (h:Q (.ref t) s):wpAny (model prog w) A (u7 (.ref t) (.ref sl)) Q E s:=by
 obtain⟨os,hos,hcs,hds⟩:=id hs
 have hTs:s.TypeIs (.ref sl) "slice":=⟨os,hos,hcs⟩
 unfold u7
 try with_reducible refine ft ?_
 first | refine af (ao ?_) | skip
 refine af (wpAny_sequenceKey ht.typeIs (by decide) ?_)
 refine af (ka (name:=qe "__getitem__") ht.typeIs fj
  (gi fj ht.typeIs yo ?_ (args_tuple_getitem _ _)))
 show wpAny _ _ (mq (.ref t) >>= _) _ _ s
 refine af (tupleItemsOf_ ht ?_)
 refine af (sv hTs ?_)
 rw[if_pos (by decide)]
 refine af (HT.sliceApplied_gen hs pl pu ?_)
 rw[hw.1,hw.2]
 have hyes:((((0:Nat):Int) == 0 && (1:Int) == 1 && (items.size - 0) == items.size)=true):=by simp
 show wpAny _ _ (if(((0:Nat):Int) == 0 && (1:Int) == 1 && (items.size - 0) == items.size)=true then _ else _) _ _ s
 rw[if_pos hyes]
 unfold Builtin.Tuple.tupleIsExact
 refine af (af (sv ht.typeIs (ao ?_)))
 rw[if_pos (show(Value.type "tuple" == Value.type "tuple")=true by rfl)]
 exact af (xm (ao ⟨_,rfl,ao h⟩))
def aHG (K:aa):V->Option Int->Option Int->Hp->VK->Prop:=λx lo hi H Q=>∃a xs,x = .ref a/\SqT K H a xs/\∀p H',Same H H'->SqT K H' p (oT xs lo hi)->Q (.ref p) H'
theorem aEf:SlR X (aHG X.K):=by
 intro pins s σ H x v vl vu lo hi sl Q I rx hs pl pu h
 obtain⟨a,xs,rfl,hx,q⟩:=h
 by_cases hw:HT.sIx xs.length 0 lo=0/\HT.sIx xs.length xs.length hi=xs.length
 ·obtain rfl:v=Value.ref a:=rx
  obtain⟨its,rv,p,hz⟩:=I.tuple hx
  have hl:=rv.length
  have ec:oT xs lo hi=xs:=by unfold oT;rw[hw.1,hw.2,List.drop_zero,Nat.sub_zero,fh]
  refine⟨"tuple",_,fj.lookup,p.typeIs,?_⟩
  refine jQ p hs pl pu (by simp only[aw,<- hl];exact hw) ?_
  exact⟨.ref a,H,I,rfl,q a H (Same.refl H) (by rw[ec];exact hx)⟩
 ·exact aFH (X:=X) pins s σ H (.ref a) v vl vu lo hi sl Q I rx hs pl pu ⟨a,xs,rfl,hx,hw,λp hp=>q p _ (aH hp _) (.of aF)⟩
abbrev qS (K:aa):V->Option Int->Option Int->Hp->VK->Prop:=λx lo hi H Q=>aHO K x lo hi H Q\/aHG K x lo hi H Q
theorem jI {K:aa}(hK:X.K=K):SlR X (qS K):=by subst hK;exact aDk.or aEf
end
section
variable {prog:Program}{w:World}{A:Around}{E:Value->Shared->Prop}{s:Shared}
theorem oH {l:Addr}{ob:Obj}{n:Nat}{T:String}{us:List Value}{Q:List Value->Shared->Prop}(e0:s.heap.get? l=some ob)(ec:ob.cls = .type T)(eT:T="list"\/T="tuple")(ed:ob.data = .seq us.toArray n)
  (q:Q us { s with heap:=(s.heap.push (jr "list" #[] 0)).update s.heap.objs.size (ij (· ++ us.toArray)) }) (z:us.length<=b8):wpAny (model prog w) A (collect (.ref l)) Q E s:=by
 unfold collect
 refine af (yd (gu entry_proto_collect' ?g1))
 case g1=>
  show wpAny _ _ (do again (.builtin "list.__iadd__" ⟨[<- newList [],Value.ref l],[]⟩)) _ _ s
  refine af (qz (ao ⟨Code.quiet_builtin _ (by decide+kernel),gu entry_list_iadd' ?g2⟩))
  case g2=>
   have e1:(s.heap.push (jr "list" #[] 0)).get? l=some ob:=aq _ e0
   show wpAny _ _ (ly (Value.ref s.heap.objs.size) (Value.ref l) (Value.ref s.heap.objs.size)) _ _ { s with heap:=s.heap.push (jr "list" #[] 0) }
   unfold ly
   refine af (sv (T:=T) ⟨ob,e1,ec⟩ ?g3)
   case g3=>
    have ht:((Value.type T == Value.type "list") || (Value.type T == Value.type "tuple"))=true:=by rcases eT with rfl | rfl <;> rfl
    rw[if_pos (by first | exact ht | (rcases eT with rfl | rfl <;> simp))]
    refine af (zz e1 ed (af (zz (xs:=#[]) (n:=0) (br _ rfl) rfl ?g4)))
    case g4=>
     rw[if_neg (by simp)]
     refine af (zg (xs:=#[]) (n:=0) (br _ rfl) rfl ?g5 (bc _) (by show(#[]++us.toArray).size<=b8+1;simp only[Array.size_append,aw,j3];omega))
     case g5=>
      refine ao ?g6
      case g6=>
       show wpAny (model prog w) A (load s.heap.objs.size >>= λo=>match o.data with | .seq xs _=>pure xs.toList | _=>unsupported "internal:collect") Q E { s with heap:=(s.heap.push (jr "list" #[] 0)).update s.heap.objs.size (ij (· ++ us.toArray)) }
       refine af (wpAny_load (get?_update_seq (br _ rfl) _) ?g7)
       case g7=>
        show wpAny _ _ (pure ((#[]:Array Value)++us.toArray).toList) Q E _
        rw[show((#[]:Array Value)++us.toArray).toList=us by simp]
        exact ao q
theorem aAN {l:Addr}{ob:Obj}{n:Nat}{T:String}{us:List Value}{ks:List Int}{Q:Value->Shared->Prop}(e0:s.heap.get? l=some ob)(ec:ob.cls = .type T)(eT:T="list"\/T="tuple")(ed:ob.data = .seq us.toArray n)(hI:IntsAre us ks)(h64:us.length<64)
  (q:∀(out:Array Value) (ns':List Int),IntsAre out.toList ns'->ns'.Perm ks->ns'.Pairwise (·<=·)->Q (.ref (s.heap.objs.size+1)) { s with heap:=sortedAll s.heap us out }):wpAny (model prog w) A (call (.builtin "sorted") [.ref l]) Q E s:=by
 refine mz An Ab Ac (Ad _) ?g1
 case g1=>
  unfold vv
  refine af (m:=checkCount "sorted" 1 1 _) (ao (af (oH e0 ec eT ed ?g2 (bq (gw h64) (by decide)))))
  case g2=>
   refine af (qz ?g3)
   case g3=>
    have z1:((s.heap.push (jr "list" #[] 0)).update s.heap.objs.size (ij (· ++ us.toArray))).objs.size=s.heap.objs.size+1:=by rw[Heap.size_update,size_push']
    have e2:(((s.heap.push (jr "list" #[] 0)).update s.heap.objs.size (ij (· ++ us.toArray))).push (jr "list" us.toArray 0)).get? (s.heap.objs.size+1)=some (jr "list" us.toArray 0):=by rw[<- z1];exact br _ rfl
    show wpAny _ _ _ _ _ { s with heap:=((s.heap.push (jr "list" #[] 0)).update s.heap.objs.size (ij (· ++ us.toArray))).push (jr "list" us.toArray 0) }
    rw[z1]
    refine af (ft (gi ye ⟨_,e2,rfl⟩ wz (list_sort_tree e2 hI h64 λout ns' a1 a2 a3=>⟨_,rfl,ao ⟨_,rfl,q out ns' a1 a2 a3⟩⟩) (yf _)))
end
theorem gE:∀{ns:List Int}{us:List Value},IntsAre us ns->Vals (ns.map V.int) us
 |[],_,h=>by cases h;exact .nil
 |n :: ns,_,h=>by
  cases h with
  |cons _ t h=>exact .cons ⟨t,rfl⟩ (gE h)
theorem IntsAre.len:∀{ns:List Int}{us:List Value},IntsAre us ns->us.length=ns.length
 |[],_,h=>by cases h;rfl
 |n :: ns,_,h=>by
  cases h with
  |cons _ t h=>rw[ba,ba,IntsAre.len h]
def uM (K:aa):List V->Hp->VK->Prop:=λvs H Q=>∃(a:Addr) (ns:List Int),vs=[.ref a]/\Sq K H a (ns.map V.int)/\ns.length<64 /\
 ∀ms:List Int,ms.Perm ns->ms.Pairwise (·<=·)->∀l,H l=none->Q (.ref l) (upd H l (.lst (ms.map V.int)))
theorem uC {X:Cx}:CallR X (.builtin "sorted") (uM X.K):=by
 intro pins s σ H xs us Q I r ⟨a,ns,e,hq,h64,q⟩
 subst e
 obtain⟨u,rfl,ru⟩:=pP r
 obtain rfl:u=Value.ref a:=ru
 have go:∀(its:List Value) (ob:Obj) (n:Nat) (T:String),Vals (ns.map V.int) its->s.heap.get? a=some ob->ob.cls = .type T->(T="list"\/T="tuple")->ob.data = .seq its.toArray n->wpAny (model X.prog X.w) X.A (call (.builtin "sorted") [.ref a]) (EP X pins σ Q) X.xe s:=by
  intro its ob n T rv e0 ec eT ed
  have hi:=gF rv
  refine aAN e0 ec eT ed hi (by rw[IntsAre.len hi];exact h64) λout ns' a1 a2 a3=>?_
  obtain⟨c,he⟩:=sortedAll_at s.heap its out
  refine⟨.ref (s.heap.objs.size+1),_,I.laid (t':=s.toks) (o := .lst (ns'.map V.int)) (λb ob q=>sortedAll_old q) (nj _) ?_,rfl,q ns' a2 a3 _ (I.hok.fresh (nj _))⟩
  refine⟨?_,out.toList,c,gE a1,he⟩
  rw[ai,a2.length_eq]
  exact bq (gw h64) (by decide)
 rcases hq with hq | hq
 ·obtain⟨its,rv,pl,hz⟩:=I.list hq
  obtain⟨o,ho,hc,n,hd⟩:=pl.isList
  exact go its o n "list" rv ho hc (.inl rfl) hd
 ·obtain⟨its,rv,pl,hz⟩:=I.tuple hq
  obtain⟨o,ho,hc,n,hd⟩:=pl
  exact go its o n "tuple" rv ho hc (.inr rfl) hd
theorem sF {X:Cx}{K:aa}(hK:X.K=K):CallR X (.builtin "sorted") (uM K):=by subst hK;exact uC
mutual
def toP:Dt->PyData
 | .non => .none
 | .bl b => .bool b
 | .int i => .int i
 | .str x => .str x
 | .tup ds => .tuple (pT ds)
 | .lst ds => .list (pT ds)
def pT:List Dt->List PyData
 |[]=>[]
 |d :: ds=>toP d :: pT ds
end
mutual
theorem aAS:∀d,(toP d).depth=dep d
 | .non=>rfl
 | .bl b=>rfl
 | .int i=>rfl
 | .str x=>rfl
 | .tup ds=>by show(PyData.tuple (pT ds)).depth=_;unfold PyData.depth dep;rw[qA]
 | .lst ds=>by show(PyData.list (pT ds)).depth=_;unfold PyData.depth dep;rw[qA]
theorem qA:∀ds,w5 (pT ds)=kS ds
 |[]=>by unfold pT kS w5;rfl
 |d :: ds=>by unfold pT kS w5;rw[aAS,qA]
end
mutual
theorem oD:∀d,(toP d).hasDict=false
 | .non=>by unfold toP m9;rfl
 | .bl b=>by unfold toP m9;rfl
 | .int i=>by unfold toP m9;rfl
 | .str x=>by unfold toP m9;rfl
 | .tup ds=>by unfold toP m9;exact hJ ds
 | .lst ds=>by unfold toP m9;exact hJ ds
theorem hJ:∀ds,uu (pT ds)=false
 |[]=>by unfold pT uu;rfl
 |d :: ds=>by unfold pT uu;rw[oD,hJ];rfl
end
section
variable {X:Cx}{pins:List (Addr×Obj)}{σ:St}{H:Hp}{s:Shared}
mutual
theorem Inv.reads (I:Inv X pins σ H s):∀{d:Dt}{x:V}{v:Value},RelV x v->Sh X.K H d x->∃as,Reads s.heap v (toP d) as
 | .non,x,v,r,h=>by obtain rfl:x = .non:=h;obtain rfl:v = .none:=r;exact⟨_, .none⟩
 | .bl b,x,v,r,h=>by obtain rfl:x = .bl b:=h;obtain rfl:v = .bool b:=r;exact⟨_, .bool b⟩
 | .int i,x,v,r,h=>by obtain rfl:x = .int i:=h;obtain⟨t,rfl⟩:=r;exact⟨_, .int i t⟩
 | .str y,x,v,r,h=>by obtain rfl:x = .str y:=h;obtain⟨t,rfl⟩:=r;exact⟨_, .str y t⟩
 | .tup ds,x,v,r,⟨a,xs,h1,h2,h3⟩=>by
  subst h1
  obtain rfl:v=Value.ref a:=r
  obtain⟨its,rv,⟨o,ho,hc,n,hd⟩,_⟩:=I.tuple h2
  obtain⟨as,ha⟩:=Inv.readsAll I rv h3
  exact⟨_, .tuple ho hc hd ha⟩
 | .lst ds,x,v,r,⟨a,xs,h1,h2,h3⟩=>by
  subst h1
  obtain rfl:v=Value.ref a:=r
  obtain⟨its,rv,pl,_⟩:=I.list h2
  obtain⟨o,ho,hc,n,hd⟩:=pl.isList
  obtain⟨as,ha⟩:=Inv.readsAll I rv h3
  exact⟨_, .list ho hc hd ha⟩
theorem Inv.readsAll (I:Inv X pins σ H s):∀{ds:List Dt}{xs:List V}{us:List Value},Vals xs us->ShL X.K H ds xs->∃as,ReadsAll s.heap us (pT ds) as
 |[],xs,us,r,h=>by obtain rfl:xs=[]:=h;cases r;exact⟨_, .nil⟩
 |d :: ds,xs,us,r,⟨x,t,h1,h2,h3⟩=>by
  subst h1
  cases r with
  |cons r1 r2=>
   obtain⟨as,h4⟩:=Inv.reads I r1 h2
   obtain⟨bs,h5⟩:=Inv.readsAll I r2 h3
   exact⟨_, .cons h4 h5⟩
end
end
def okR (d:Dt):Prop:=(toP d).showable=true/\(toP d).leavesShort 1930=true/\(toP d).bulk<=4000/\dep d<=100
def wF (K:aa):List V->Hp->VK->Prop:=λvs H Q=>∃(d:Dt) (x:V),vs=[x]/\Sh K H d x/\okR d/\Q (.str (toP d).shown) H
theorem yJ {X:Cx}{k:Nat}(hr:Room k X.A):CallR X (.builtin "repr") (wF X.K):=by
 intro pins s σ H xs us Q I r ⟨d,x,e,hx,⟨k1,k2,k3,k4⟩,q⟩
 subst e
 obtain⟨u,rfl,ru⟩:=pP r
 obtain⟨as,hR⟩:=I.reads ru hx
 have hsz:(toP d).shown.length<=b8:=by
  refine bq (PyData.shown_le_bulk 1930 (by decide) _ k2) (bq (Nat.add_le_add_right (rl _ k3) _) (by decide))
 have fin:∀(h':Heap) (t:Tok) (tk:Nat),(∀b o,s.heap.get? b=some o->h'.get? b=some o)->EP X pins σ Q (.str (toP d).shown t) { s with heap:=h',toks:=tk }:=λh' t tk kp=>
  ⟨.str (toP d).shown,H,I.kept (t':=tk) kp,⟨t,rfl⟩,q⟩
 cases u with
 |ref a=>
  exact repr_of_reads' hR k1 (PyData.noDict_hsm (oD d)) hr.gd (by rw[aAS];have:=hr.un;omega) (λ_ _ e=>e) (λh' u tk hk=>fin h' u tk hk) hsz
 |none=>
  cases d <;> first | (cases hR;done) | skip
  exact P.repr_of_none (fin _ _ _ λ_ _ e=>e)
 |bool b=>
  cases d <;> cases hR
  exact P.repr_of_bool (fin _ _ _ λ_ _ e=>e)
 |int i t=>
  cases d <;> cases hR
  exact P.repr_of_int (by simpa[toP,w6] using k1) (fin _ _ _ λ_ _ e=>e)
 |str y t=>
  cases d <;> cases hR
  exact P.repr_of_str (fin _ _ _ λ_ _ e=>e) hsz
 |_=>cases d <;> cases hR
theorem nN {X:Cx}{K:aa}{k:Nat}(hK:X.K=K)(hr:Room k X.A):CallR X (.builtin "repr") (wF K):=by subst hK;exact yJ hr
section
variable {prog:Program}{w:World}{A:Around}{E:Value->Shared->Prop}{s:Shared}
end
section
variable {X:Cx}{pins:List (Addr×Obj)}{σ:St}{H:Hp}{s:Shared}{h':Heap}
end
section
variable {X:Cx}{pins:List (Addr×Obj)}{σ:St}{H:Hp}{s:Shared}
end
theorem aBi:dw "repr" = some (.builtin "repr"):=by decide+kernel
structure aIl (mg:Str->Option Value):Prop extends Blt mg where
 zip:mg "zip" = none
 repr:mg "repr" = none
 enumerate:mg "enumerate" = none
 reversed:mg "reversed" = none
 str:mg "str" = none
section
variable {prog:Program}{w:World}{A:Around}{E:Value->Shared->Prop}{s:Shared}
end
theorem Vals.rev:∀{xs:List V}{us:List Value},Vals xs us->Vals xs.reverse us.reverse
 |_,_, .nil => .nil
 |_,_, .cons r t=>by
  rw[List.reverse_cons,List.reverse_cons]
  exact Vals.append (Vals.rev t) (.cons r .nil)
theorem fR {X:Cx}{K:aa}{o e:Expr}{es:List Expr}{to:TE}{t:TA}{name:Str}{apos cpos:Pos}{T id:String}{r:V->List V->Hp->VK->Prop}(hK:X.K=K)(pa:PlainAttrs T)(slot:Slot T name id)(hty:typeOf (.builtin id)=pure (.type "method_descriptor"))(hm:MtM X id r)(ho:PE X o to)(ha:PA X (e :: es) t)
  (b1:attributeBase o name X.env (eval o X.env)=eval o X.env:=by rfl)
  (b2:((vo cpos (ff (e :: es) X.env)).all (λx=>!x.1) && (backToKw cpos (keywordEach [] X.env)).all (λx=>x.1.isSome) && decide ((e :: es).length+([]:List Keyword).length+(if([]:List Keyword).isEmpty then 0 else 1)<30))=true:=by rfl)
  (b3:(apos.endLine == cpos.line)=true:=by rfl) (b4:ff (e :: es) X.env=(false,eval e X.env) :: ff es X.env:=by rfl) (b5:(vo cpos (ff es X.env)).any (·.1)=false:=by rfl) :
  PE X (.Call (.Attribute o name apos) (e :: es) [] cpos) (tBM K T r to t):=by subst hK;exact aGO pa slot hty hm ho ha b1 b2 b3 b4 b5
end L2
namespace L2
open PySem
def aX (p:Nat):V := .int (p:Int)
theorem oW (ps:List Nat):ps.map aX=(ps.map λp:Nat=>(p:Int)).map V.int:=by rw[jc];rfl
theorem cF {c:Bool}{A B:Prop}(e:c=true)(h:A):if c=true then A else B:=by rw[if_pos e];exact h
theorem cA {c:Bool}{A B:Prop}(e:c=false)(h:B):if c=true then A else B:=by subst e;exact aIi h
theorem uF {K:aa}{H:Hp}{a l:Addr}{xs ys:List V}{o:HO}(h:SqT K H a xs)(hl:H l=some (.lst ys)):SqT K (upd H l o) a xs:=by
 have key:∀u,H a=some u->(∀zs,u ≠ .lst zs)->upd H l o a=some u:=λu e n=>by
  rw[aR]
  ·exact e
  ·intro z
   rw[z,hl] at e
   cases e
   exact n _ rfl
 rcases h with(h | ⟨u,h⟩) | h
 ·exact .inl (.inl (key _ h λ_ z=>by cases z))
 ·exact .inl (.inr ⟨u,key _ h λ_ z=>by cases z⟩)
 ·exact .inr h
theorem wP {fs ls:List Nat}{k:Nat}(hk:k<ls.length):((fs++[ls[k]])++ls.eraseIdx k).Perm (fs++ls):=by
 rw[ez]
 refine qg _ ?_
 have e:ls=ls.take k++ls[k] :: ls.drop (k+1):=by simp
 have e2:ls.eraseIdx k=ls.take k++ls.drop (k+1):=pb _ _
 rw[e2]
 refine List.Perm.trans ?_ (List.Perm.of_eq e.symm)
 show(ls[k] :: (ls.take k++ls.drop (k+1))).Perm _
 exact vw.symm
theorem aHc {k n:Nat}(h:k<n):zb (k:Int) n=some k:=by
 have e:zb (k:Int) n=if(decide (0<=(if(k:Int)<0 then(k:Int)+(n:Int) else(k:Int))) && decide ((if(k:Int)<0 then(k:Int)+(n:Int) else(k:Int))<(n:Int)))=true then some (if(k:Int)<0 then(k:Int)+(n:Int) else(k:Int)).toNat else none:=rfl
 rw[e]
 simp only[show ¬ (k:Int)<0 by omega,if_false]
 rw[if_pos (by simp;omega)]
 rfl
theorem qN {α β:Type}(f:α->β):∀(l:List α) (k:Nat),(l.map f).eraseIdx k=(l.eraseIdx k).map f
 |[],_=>rfl
 |_ :: _,0=>rfl
 |a :: l,k+1=>by
  show f a :: (l.map f).eraseIdx k=f a :: (l.eraseIdx k).map f
  rw[qN f l k]
section
variable {K:aa}{H:Hp}
end
theorem aAM {c:Int}{n:Nat}(h:1<=n):∃k:Nat,c % (n:Int)=(k:Int)/\k<n:=by
 have g0:=rm c (show(n:Int)≠0 by omega)
 have g1:=tq c (show(0:Int)<(n:Int) by omega)
 obtain⟨k,hk⟩:=vc g0
 exact⟨k,hk,by omega⟩
theorem aHS {ps:List Nat}{i:Nat}(h:i<ps.length):(ps.map aX)[i]?=some (aX (ps.getD i 0)):=by
 rw[bg,ak,ae h]
 rfl
theorem jL {i j:Int}:(!eqD (.int i) (.int j)) = !decide (i=j):=by rw[eqD];rfl
def Rows (K:aa) (H:Hp) (xs:List V) (T:List (List Int)):Prop:=xs.length=T.length/\∀(i:Nat) (row:List Int),T[i]?=some row->∃b,xs[i]?=some (.ref b)/\SqT K H b (row.map V.int)
section
variable {K:aa}{H H':Hp}{xs:List V}{T:List (List Int)}
theorem Rows.map (h:Rows K H xs T)(f:∀b row,SqT K H b row->SqT K H' b row):Rows K H' xs T:=⟨h.1,λi row e=>by
 obtain⟨b,e1,e2⟩:=h.2 i row e
 exact⟨b,e1,f _ _ e2⟩⟩
theorem Rows.same (h:Rows K H xs T)(e:Same H H'):Rows K H' xs T:=h.map λ_ _ s=>e.tup s
theorem Rows.put (h:Rows K H xs T){l:Addr}{ys:List V}{o:HO}(hl:H l=some (.lst ys)):Rows K (upd H l o) xs T:=h.map λ_ _ s=>uF s hl
theorem Rows.nil:Rows K H [] []:=⟨rfl,λi row e=>by cases e⟩
theorem Rows.snoc (h:Rows K H xs T){b:Addr}{r:List Int}(hb:SqT K H b (r.map V.int)):Rows K H (xs++[.ref b]) (T++[r]):=by
 refine⟨by rw[au,au,h.1];rfl,λi row e=>?_⟩
 by_cases hi:i<T.length
 ·rw[bh hi] at e
  obtain⟨b',e1,e2⟩:=h.2 i row e
  exact⟨b',by rw[bh (by rw[h.1];exact hi)];exact e1,e2⟩
 ·rw[bj (by omega)] at e
  have:i - T.length=0:=by
   rcases hk:i - T.length with _ | k
   ·rfl
   ·rw[hk] at e;cases e
  rw[this] at e
  cases e
  exact⟨b,by rw[bj (by rw[h.1];omega),h.1,this];rfl,hb⟩
theorem Rows.sh (h:Rows K H xs T){l:Addr}(hl:SqL K H l xs):Sh K H (.lst (T.map λr=>Dt.tup (r.map Dt.int))) (.ref l):=⟨l,xs,rfl,hl,ShL.of_rows h.1 h.2⟩
end
theorem qW (T:List (List Int)):dep (.lst (T.map λr=>Dt.tup (r.map Dt.int)))<=100:=by
 have hi:∀r:List Int,kS (r.map Dt.int)=0:=λr=>by
  induction r with
  |nil=>rfl
  |cons a r ih=>rw[bx,kS,ih];rfl
 have:∀T:List (List Int),kS (T.map λr=>Dt.tup (r.map Dt.int))<=1:=λT=>by
  induction T with
  |nil=>decide
  |cons r T ih=>rw[bx,kS,dep,hi];omega
 have:=this T
 rw[dep]
 omega
end L2
namespace L2
open PySem PySem.Spec PyProof.Rows
section
variable {prog:Program}{w:World}{A:Around}{E:Value->Shared->Prop}{s:Shared}
end
end L2
namespace L2
open PySem
section
variable {X:Cx}{es:List Expr}{te:TE}{t:TA}
theorem bK {c:Const}{k:Nat}{p:Pos}(ha:PE X (.Constant c k p) te)(hr:PA X es t):PA X (.Constant c k p :: es) (aB te t):=cD ha hr
theorem aA {n:Str}{p:Pos}(ha:PE X (.Name n p) te)(hr:PA X es t):PA X (.Name n p :: es) (aB te t):=cD ha hr
theorem vC {l:List Expr}{p:Pos}(ha:PE X (.List l p) te)(hr:PA X es t):PA X (.List l p :: es) (aB te t):=cD ha hr
theorem bS {l:List Expr}{k:Nat}{p:Pos}(ha:PE X (.Tuple l k p) te)(hr:PA X es t):PA X (.Tuple l k p :: es) (aB te t):=cD ha hr
theorem cE {a b:Expr}{o:Operator}{p:Pos}(ha:PE X (.BinOp a o b p) te)(hr:PA X es t):PA X (.BinOp a o b p :: es) (aB te t):=cD ha hr
theorem aBS {a:Expr}{o:UnaryOp}{p:Pos}(ha:PE X (.UnaryOp o a p) te)(hr:PA X es t):PA X (.UnaryOp o a p :: es) (aB te t):=cD ha hr
theorem cX {a b:Expr}{p:Pos}(ha:PE X (.Subscript a b p) te)(hr:PA X es t):PA X (.Subscript a b p :: es) (aB te t):=cD ha hr
theorem aP {a:Expr}{l:List Expr}{kw:List Keyword}{p:Pos}(ha:PE X (.Call a l kw p) te)(hr:PA X es t):PA X (.Call a l kw p :: es) (aB te t):=cD ha hr
end
mutual
def thin:Dt->Bool
 | .tup ds=>decide (ds.length<64) && qR ds
 | .lst ds=>qR ds
 |_=>true
def qR:List Dt->Bool
 |[]=>true
 |d :: ds=>thin d && qR ds
end
theorem pV:∀{ds:List Dt},(∀d∈ds,thin d=true)->qR ds=true
 |[],_=>by unfold qR;rfl
 |d :: ds,h=>by unfold qR;rw[h d (by simp),pV λe he=>h e (ar _ he)];rfl
theorem rQ:∀{ds:List Dt},qR ds=true->∀d∈ds,thin d=true
 |[],_,d,h=>by cases h
 |e :: ds,h,d,hd=>by
  unfold qR at h
  rw[du] at h
  rcases a9.mp hd with rfl | hd
  ·exact h.1
  ·exact rQ h.2 d hd
theorem aCg {ds:List Dt}(h:thin (.tup ds)=true):ds.length<64/\∀d∈ds,thin d=true:=by
 unfold thin at h
 rw[du] at h
 exact⟨of_decide_eq_true h.1,rQ h.2⟩
def okM (m e:Nat) (d:Dt):Prop:=(toP d).showable=true/\(toP d).leavesShort 1930=true/\(toP d).bulk<=m/\dep d<=e/\thin d=true
def Am (K:aa) (H:Hp) (m e:Nat) (x:V):Prop:=∃d,Sh K H d x/\okM m e d
def Goo (K:aa) (H:Hp) (v:V):Prop:=∃d,Sh K H d v/\okR d/\thin d=true
section
variable {K:aa}{H H':Hp}
theorem Am.same {m e:Nat}{x:V}(s:Same H H'):Am K H m e x->Am K H' m e x:=λ⟨d,h,o⟩=>⟨d,h.same s,o⟩
theorem Am.le {m k e f:Nat}{x:V}(h1:m<=k)(h2:e<=f):Am K H m e x->Am K H k f x:=λ⟨d,h,a,b,c,g,t⟩=>⟨d,h,a,b,bq c h1,bq g h2,t⟩
theorem Goo.same {v:V}(s:Same H H'):Goo K H v->Goo K H' v:=λ⟨d,h,o⟩=>⟨d,h.same s,o⟩
theorem Am.goo {m e:Nat}{x:V}(h1:m<=4000)(h2:e<=100):Am K H m e x->Goo K H x:=λ⟨d,h,a,b,c,g,t⟩=>⟨d,h,⟨a,b,bq c h1,bq g h2⟩,t⟩
theorem aCH:(10:Nat) ^ 40<2 ^ 1920:=by decide+kernel
theorem aGc {i:Int}(h:i.natAbs<10 ^ 40):Am K H 0 0 (.int i):=by
 refine⟨.int i,rfl,?_,?_,az _,az _,by unfold thin;rfl⟩
 ·show decide (i.natAbs.log2<1920)=true
  refine decide_eq_true ?_
  by_cases h0:i.natAbs=0
  ·rw[h0];decide
  ·exact(yq h0).mpr (qf h aCH)
 ·show decide ((PyData.shown (.int i)).length<=1930)=true
  refine decide_eq_true ?_
  have e:(qe (ve i)).length<=41:=by
   rw[ofString_length]
   exact int_text_length_le10 (k:=40) (by decide) h
  exact bq (show(PyData.shown (.int i)).length<=41 from e) (by decide)
theorem aBw {i:Int}(h0:-2000000<=i)(h1:i<=2000000):Am K H 0 0 (.int i):=aGc (c5 (show i.natAbs<2000001 by omega) (by decide))
theorem aDT {b:Bool}:Am K H 0 0 (.bl b):=⟨.bl b,rfl,rfl,rfl,az _,az _,by unfold thin;rfl⟩
theorem aFB:Am K H 0 0 .non:=⟨.non,rfl,rfl,rfl,az _,az _,by unfold thin;rfl⟩
theorem aFE {x:Str}(h:(x.cps.toList.all λc=>decide (c<16 ^ 8))=true):Am K H x.cps.size 0 (.str x):=⟨.str x,rfl,rfl,h,az _,az _,by unfold thin;rfl⟩
theorem lH {m e:Nat}:∀{xs:List V},(∀x∈xs,Am K H m e x)->∃ds,ShL K H ds xs/\ds.length=xs.length/\(∀d∈ds,thin d=true)/\tu (pT ds)=true/\qh 1930 (pT ds)=true/\yg (pT ds)<=(m+1)*ds.length/\kS ds<=e
 |[],_=>⟨[],rfl,rfl,by simp,by unfold pT tu;rfl,by unfold pT qh;rfl,by unfold pT yg;exact bc _,bc _⟩
 |x :: xs,h=>by
  obtain⟨d,h1,a,b,c,f,t⟩:=h x (by simp)
  obtain⟨ds,g1,g2,gt,a',b',c',f'⟩:=lH λy hy=>h y (ar _ hy)
  refine⟨d :: ds,⟨x,xs,rfl,h1,g1⟩,by rw[ba,ba,g2],λy hy=>?_,?_⟩
  ·rcases a9.mp hy with rfl | hy
   ·exact t
   ·exact gt y hy
  unfold pT tu qh yg
  refine⟨by rw[a,a'];rfl,by rw[b,b'];rfl,?_,by rw[kS];omega⟩
  rw[ba,Nat.mul_add,Nat.mul_one]
  omega
def Tu (K:aa) (H:Hp) (m e k:Nat) (v:V):Prop:=∃a xs,v = .ref a/\SqT K H a xs/\xs.length<=k/\∀x∈xs,Am K H m e x
theorem Tu.same {m e k:Nat}{v:V}(s:Same H H'):Tu K H m e k v->Tu K H' m e k v:=λ⟨a,xs,h1,h2,h3,h4⟩=>⟨a,xs,h1,s.tup h2,h3,λx hx=>(h4 x hx).same s⟩
theorem Tu.am {m e k:Nat}{v:V}(hk:k<64):Tu K H m e k v->Am K H ((m+1)*k) (e+1) v:=λ⟨a,xs,ev,h2,h3,h4⟩=>by
 obtain⟨ds,g1,g2,gt,a1,b1,c1,f1⟩:=lH h4
 have hc:=bq c1 (rl (m+1) (show ds.length<=k by omega))
 exact⟨.tup ds,⟨a,xs,ev,h2,g1⟩,by unfold toP w6;exact a1,by unfold toP PyData.leavesShort;exact b1,by unfold toP PyData.bulk;exact hc,by rw[dep];omega,by unfold thin;rw[decide_eq_true (show ds.length<64 by omega),pV gt];rfl⟩
theorem aCP {m e k:Nat}{a:Addr}{xs:List V}(h2:SqL K H a xs)(h3:xs.length<=k)(h4:∀x∈xs,Am K H m e x):Am K H ((m+1)*k) (e+1) (.ref a):=by
 obtain⟨ds,g1,g2,gt,a1,b1,c1,f1⟩:=lH h4
 have hc:=bq c1 (rl (m+1) (show ds.length<=k by omega))
 exact⟨.lst ds,⟨a,xs,rfl,h2,g1⟩,by unfold toP w6;exact a1,by unfold toP PyData.leavesShort;exact b1,by unfold toP PyData.bulk;exact hc,by rw[dep];omega,by unfold thin;exact pV gt⟩
theorem aAw {xs:List V}{lo hi:Option Int}{x:V}(h:x∈oT xs lo hi):x∈xs:=xw (qu h)
end
theorem vS {c:Int}{n k:Nat}{H:Hp}{Q:VK}(h:1<=n)(e:c % (n:Int)=(k:Int))(q:Q (.int (k:Int)) H):xS (.int c) (.int (n:Int)) H Q:=⟨_,_,rfl,rfl,by omega,by show Q (.int (c % (n:Int))) H;rw[e];exact q⟩
end L2
namespace L2
open PySem PySem.Spec PyProof.Rows
inductive oJ:List (Value×Value)->List (Int×Int)->Prop
 |nil:oJ [] []
 |cons (a b:Int) (t u:Tok) {r:List (Value×Value)}{zs:List (Int×Int)}:oJ r zs->oJ ((.int a t, .int b u) :: r) ((a,b) :: zs)
def vT (f:Bool):List (Int×Int)->Bool
 |[]=>f
 | (a,b) :: r=>if a=b then vT f r else decide (a<b)
theorem qU {prog:Program}{w:World}{A:Around}{E:Value->Shared->Prop}{s:Shared}{a b:Int}{t u:Tok}{Q:Value->Shared->Prop}(h:Q (.bool (decide (a<b))) s):wpAny (model prog w) A (yr .Lt (.int a t) (.int b u)) Q E s:=lt_int h
theorem aAl (l b:Addr)(us vs:Array Value)(n n2:Nat)(dd dd2:Option Addr)(sl sl2:Array (Option Value))(zs:List (Int×Int))(hz:oJ (us.toList.zip vs.toList) zs) :
  Meets (Builtin.«tuple.__lt__» ⟨[.ref l, .ref b],[]⟩)
   (λ_ R s=>s.heap.get? l=some { cls := .type "tuple",dict:=dd,data := .seq us n,slots:=sl }/\s.heap.get? b=some { cls := .type "tuple",dict:=dd2,data := .seq vs n2,slots:=sl2 }/\R (.ok (.ret (.bool (vT (decide (us.size<vs.size)) zs)))) s):=
 .of_wp λprog w A R s h=>by
  obtain⟨s1,s2,s3,s4,s5⟩:=s
  obtain⟨gl,gb,h⟩:=h
  have f2:=AutoSeq1.sub_tuple_tuple
  wp_walk using uv gl,uv gb,wpAny_forIn_list _ (λrest b s'=>b.1=none/\s'=⟨s1,s2,s3,s4,s5⟩/\∃ys,oJ rest ys/\R (.ok (.ret (.bool (vT (decide (us.size<vs.size)) ys)))) ⟨s1,s2,s3,s4,s5⟩) _
  case turn=>
   rintro⟨y,x⟩ rest b s' ⟨hb',rfl,ys,hy,hR⟩
   cases hy with
   |cons p q t u hr=>
    refine af (vn ?_)
    by_cases e:p=q
    ·rw[show(p == q)=true by simpa using e]
     rw[vT,if_pos e] at hR
     wp_walk
     exact⟨rfl,rfl,_,hr,hR⟩
    ·rw[show(p == q)=false by simpa using e]
     rw[vT,if_neg e] at hR
     wp_walk using qU
     exact⟨_,rfl,hR⟩
  case fin=>
   rintro⟨b1,b2⟩ s' ⟨hb',rfl,ys,hy,hR⟩
   simp only at hb'
   subst hb'
   cases hy
   wp_walk
   exact⟨_,rfl,hR⟩
  case h=>
   exact⟨rfl,rfl,zs,hz,h⟩
section
variable {prog:Program}{w:World}{A:Around}{R:vp->Shared->Prop}{It:Addr}{fp wr:List Addr}{n:Nat}{P:Nat->Value->Prop}{St:Nat->Heap->Prop}
def aGB (prog:Program) (w:World) (A:Around) (kp:Heap->Prop) (P:Nat->Value->Prop) (bt:Nat->Nat->Bool):Prop:=
 ∀i j x y (s:Shared) (Q:Value->Shared->Prop) (E:Value->Shared->Prop),kp s.heap->P i x->P j y->Q (.bool (bt i j)) s->wpAny (model prog w) A (yr .Lt x y) Q E s
def Kp (kp:Heap->Prop) (wr:List Addr) (z:Addr):Prop:=∀h h',kp h->(∀b o,b∉wr->b≠z->h.get? b=some o->h'.get? b=some o)->kp h'
theorem aHX (W:Walks prog w A.in1 It fp wr n P St)(bt:Nat->Nat->Bool){kp:Heap->Prop}(z:Addr)(hz:z∉fp)(kk:Kp kp wr z)(hc:aGB prog w A.in1 kp P bt) :
  ∀(k j:Nat) (s:Shared) (x:Value) (c:Nat),n - (j+1)=k->j+1<=n->kp s.heap->St (j+1) s.heap->P (j4 bt j) x->s.heap.get? z=some { cls := .type "list",dict:=none,data := .seq #[x,x] c,slots:=#[] } ->
  (∀v h' tk,P (j4 bt (n - 1)) v->(∀b o,b∉wr->b≠z->s.heap.get? b=some o->h'.get? b=some o)->R (.ok (.ret v)) { s with heap:=h',toks:=tk }) ->
  uf (model prog w) A (.builtin "min.loop" ⟨[.ref It, .none, .ref z],[]⟩) R s:=by
 have zw:z∉wr:=λh=>hz (W.sub _ h)
 have nm:(ve "min" ++ ve ".loop" : String)="min.loop":=by decide
 intro k
 induction k with
 |zero=>
  intro j s x c hk hj kp0 st px gz hR
  have en:j+1=n:=by omega
  refine gu vx ?g
  case g=>
  rw[gp jl _];show wpAny _ A.in1 (seqItems? (.ref z) >>= _) _ _ s;refine af (qb gz rfl ?g)
  case g=>
  show wpAny _ A.in1 (tryCatch (wm (.ref It)) _ >>= _) _ _ s;refine af (ui (W.done s _ _ (en ▸ st) λh' tk kh=>?g))
  case g=>
  show wpAny _ A.in1 (updateSeq z (λ_=>#[]) >>= _) _ _ _;refine af (w8 (kh z _ zw gz) rfl (af (yt (ao ?g))))
  case g=>
  exact hR x _ tk (by rw[<- en];exact px) λb o bw bz e=>(jg _ _ (gh bz)).trans (kh b o bw e)
 |succ k ih=>
  intro j s x c hk hj kp0 st px gz hR
  have lt:j+1<n:=by omega
  refine gu vx ?g
  case g=>
  rw[gp jl _];show wpAny _ A.in1 (seqItems? (.ref z) >>= _) _ _ s;refine af (qb gz rfl ?g)
  case g=>
  show wpAny _ A.in1 (tryCatch (wm (.ref It)) _ >>= _) _ _ s;refine af (ui (W.item (j+1) s _ _ lt st λv h' tk pv st' kh=>?g))
  case g=>
  have gz':=kh z _ zw gz
  have kp1:kp h':=kk _ _ kp0 λb o bw _ e=>kh b o bw e
  show wpAny _ A.in1 (tryCatch (wj [v,v] (yr .Lt v x >>= _)) _ >>= _) _ _ _;refine af (ui (ft (af (hc (j+1) (j4 bt j) v x _ _ _ kp1 pv px ?g))))
  case g=>
  refine af (ft (f9 (af (yt (ao ?g)))))
  case g=>
  cases hb:bt (j+1) (j4 bt j) with
  |true=>
   simp only[if_true];refine af (w8 gz' rfl (af (yt ?g)))
   case g=>
   have up:∀b o,b≠z->h'.get? b=some o->(h'.update z (ij λ_=>#[v,v])).get? b=some o:=λb o bz e=>(jg _ _ (gh bz)).trans e
   rw[nm];refine ao ⟨mi jl _,ih (j+1) _ v _ (by omega) lt (kk _ _ kp1 λb o _ bz e=>up b o bz e) (W.frame _ _ _ st' λb bf o e=>up b o (λq=>hz (by rw[<- q];exact bf)) e) (by simp only[j4,hb,if_true];exact pv) (gy _ gz' rfl) λv' h2 tk2 pv' kh2=>?g⟩
   case g=>
   exact hR v' h2 tk2 pv' λb o bw bz e=>kh2 b o bw bz (up b o bz (kh b o bw e))
  |false=>
   simp only[dn,if_false];refine af (yt ?g)
   case g=>
   rw[nm];refine ao ⟨mi jl _,ih (j+1) _ x c (by omega) lt kp1 st' (by simp only[j4,hb,dn,if_false];exact px) gz' λv' h2 tk2 pv' kh2=>?g⟩
   case g=>
   exact hR v' h2 tk2 pv' λb o bw bz e=>kh2 b o bw bz (kh b o bw e)
theorem aIa (W:Walks prog w A.in1 It fp wr n P St)(bt:Nat->Nat->Bool){kp:Heap->Prop}(z:Addr)(hz:z∉fp)(kk:Kp kp wr z)(hc:aGB prog w A.in1 kp P bt)(hn:0<n){s:Shared}{c:Nat}(kp0:kp s.heap)(st:St 0 s.heap)(gz:s.heap.get? z=some { cls := .type "list",dict:=none,data := .seq #[] c,slots:=#[] })
  (hR:∀v h' tk,P (j4 bt (n - 1)) v->(∀b o,b∉wr->b≠z->s.heap.get? b=some o->h'.get? b=some o)->R (.ok (.ret v)) { s with heap:=h',toks:=tk }) :
  uf (model prog w) A (.builtin "min.loop" ⟨[.ref It, .none, .ref z],[]⟩) R s:=by
 have zw:z∉wr:=λh=>hz (W.sub _ h)
 have nm:(ve "min" ++ ve ".loop" : String)="min.loop":=by decide
 refine gu vx ?g
 case g=>
 rw[gp jl _];show wpAny _ A.in1 (seqItems? (.ref z) >>= _) _ _ s;refine af (qb gz rfl ?g)
 case g=>
 show wpAny _ A.in1 (tryCatch (wm (.ref It)) _ >>= _) _ _ s;refine af (ui (W.item 0 s _ _ hn st λv h' tk pv st' kh=>?g))
 case g=>
 have gz':=kh z _ zw gz
 have kp1:kp h':=kk _ _ kp0 λb o bw _ e=>kh b o bw e
 have up:∀b o,b≠z->h'.get? b=some o->(h'.update z (ij λ_=>#[v,v])).get? b=some o:=λb o bz e=>(jg _ _ (gh bz)).trans e
 show wpAny _ A.in1 (updateSeq z (λ_=>#[v,v]) >>= _) _ _ _;refine af (w8 gz' rfl ?g)
 case g=>
 rw[nm];refine ao ⟨mi jl _,aHX W bt z hz kk hc _ 0 _ v _ rfl hn (kk _ _ kp1 λb o _ bz e=>up b o bz e) (W.frame _ _ _ st' λb bf o e=>up b o (λq=>hz (by rw[<- q];exact bf)) e) pv (gy _ gz' rfl) λv' h2 tk2 pv' kh2=>?g⟩
 case g=>
 exact hR v' h2 tk2 pv' λb o bw bz e=>kh2 b o bw bz (up b o bz (kh b o bw e))
end
section
variable {prog:Program}{w:World}{A:Around}{E:Value->Shared->Prop}{s:Shared}
theorem wY {x:Value}{Q:Value->Shared->Prop}
  (h:wpAny (model prog w) A.in1 (Ah x) (λit s₂=>∃It fp wr n P St bt,∃kp:Heap->Prop,it = .ref It/\Walks prog w A.in1 It fp wr n P St/\St 0 s₂.heap/\(∀b∈fp,b<s₂.heap.objs.size)/\0<n/\kp s₂.heap/\(∀z,s₂.heap.objs.size<=z->Kp kp wr z)/\aGB prog w A.in1 kp P bt /\
   ∀v h' tk,P (j4 bt (n - 1)) v->(∀b o,b∉wr->s₂.heap.get? b=some o->h'.get? b=some o)->Q v { s₂ with heap:=h',toks:=tk }) E s) :
  wpAny (model prog w) A (call (.builtin "min") [x]) Q E s:=by
 have nm:(ve "min" ++ ve ".loop" : String)="min.loop":=by decide
 refine call_function_tree F.kind_min F.plain_min F.entry_min (F.args_min1 _) ?g
 case g=>
 show wpAny _ A.in1 (rq "min" ["key","default"] 0 ⟨[],[]⟩ >>= _) _ _ s;refine af (vb (show rq "min" ["key","default"] 0 ⟨[],[]⟩=pure [none,none] from rfl) (af (ao (af (gj h (λit s2 h2=>?g) λ_ _ e=>e)))))
 case g=>
 obtain⟨It,fp,wr,n,P,St,bt,kp,rfl,W,st,hf,hn,kp0,kk,hc,hQ⟩:=h2
 refine af (gk ?g)
 case g=>
 have zf:s2.heap.objs.size∉fp:=λm=>jo _ (hf _ m)
 have kz:=kk s2.heap.objs.size (az _)
 rw[nm];refine ao ⟨mi jl _,aIa W bt s2.heap.objs.size zf kz hc hn (kz _ _ kp0 λb o _ _ e=>aq _ e) (W.frame _ _ _ st λb _ o e=>aq _ e) (br _ rfl) λv h' tk pv kh=>?g⟩
 case g=>
 exact hQ v h' tk pv λb o bw e=>kh b o bw (dt (b7 e)) (aq _ e)
end
def eY:List Int->List Int->Bool
 |[],[]=>false
 |[],_ :: _=>true
 |_ :: _,[]=>false
 |a :: r,b :: q=>if a=b then eY r q else decide (a<b)
theorem uI:∀(ns ms:List Int),vT (decide (ns.length<ms.length)) (ns.zip ms)=eY ns ms
 |[],[]=>rfl
 |[],m :: ms=>by simp[vT,eY]
 |n :: ns,[]=>by simp[vT,eY]
 |n :: ns,m :: ms=>by
  rw[tw,vT,eY,<- uI ns ms]
  have:decide ((n :: ns).length<(m :: ms).length)=decide (ns.length<ms.length):=by
   by_cases h:ns.length<ms.length <;> simp[h]
  rw[this]
theorem lE:∀ns:List Int,eY ns ns=false
 |[]=>rfl
 |n :: ns=>by rw[eY,if_pos rfl];exact lE ns
theorem gI:∀{a b c:List Int},eY a b=true->eY b c=true->eY a c=true
 |[],[],_,h,_=>by cases h
 |[],_ :: _,[],_,h=>by cases h
 |[],_ :: _,_ :: _,_,_=>rfl
 |_ :: _,[],_,h,_=>by cases h
 |_ :: _,_ :: _,[],_,h=>by cases h
 |x :: a,y :: b,z :: c,h1,h2=>by
  rw[eY] at h1 h2 ⊢
  by_cases e1:x=y <;> by_cases e2:y=z
  ·subst e1 e2
   rw[if_pos rfl] at h1 h2 ⊢
   exact gI h1 h2
  ·subst e1
   rw[if_neg e2] at h2 ⊢
   exact h2
  ·subst e2
   rw[if_neg e1] at h1 ⊢
   exact h1
  ·rw[if_neg e1] at h1
   rw[if_neg e2] at h2
   have g1:=of_decide_eq_true h1
   have g2:=of_decide_eq_true h2
   rw[if_neg (by omega)]
   exact decide_eq_true (by omega)
theorem gU {bt:Nat->Nat->Bool}(irr:∀i,bt i i=false)(tr:∀i j k,bt i j=true->bt j k=true->bt i k=true):∀k j,j<=k->bt j (j4 bt k)=false
 |0,j,h=>by
  obtain rfl:j=0:=by omega
  exact irr 0
 |k+1,j,h=>by
  unfold j4
  by_cases c:bt (k+1) (j4 bt k)=true
  ·rw[if_pos c]
   by_cases e:j=k+1
   ·subst e;exact irr _
   ·refine Bool.eq_false_iff.mpr λq=>?_
    have:=gU irr tr k j (by omega)
    rw[tr _ _ _ q c] at this
    cases this
  ·rw[if_neg c]
   by_cases e:j=k+1
   ·subst e;simpa using c
   ·exact gU irr tr k j (by omega)
theorem aDg:∀{ns ms:List Int}{us vs:List Value},IntsAre us ns->IntsAre vs ms->oJ (us.zip vs) (ns.zip ms)
 |[],_,_,_,h,_=>by cases h;exact .nil
 |_ :: _,[],_,_,h,g=>by cases g;cases h;exact .nil
 |n :: ns,m :: ms,_,_,h,g=>by
  cases h with
  |cons _ t h=>
   cases g with
   |cons _ u g=>exact .cons n m t u (aDg h g)
theorem aDC {prog:Program}{w:World}{A:Around}{E:Value->Shared->Prop}{s:Shared}{a b:Addr}{us vs:List Value}{ns ms:List Int}{Q:Value->Shared->Prop}(hu:A.units<cLine)(ha:IsTup s.heap a us.toArray)(hb:IsTup s.heap b vs.toArray)(h1:IntsAre us ns)(h2:IntsAre vs ms)(q:Q (.bool (eY ns ms)) s) :
  wpAny (model prog w) A (yr .Lt (.ref a) (.ref b)) Q E s:=by
 obtain⟨⟨oc,od,odt,osl⟩,e1,c1,n1,d1⟩:=ha
 obtain⟨⟨pc,pd,pdt,psl⟩,e2,c2,n2,d2⟩:=hb
 subst c1 d1 c2 d2
 refine richCompare_meets_room (op := .Lt) ⟨_,e1,rfl⟩ ⟨_,e2,rfl⟩ F.slot_tuple_lt F.entry_tuple_lt (F.args_tuple_lt_2 _ _) (aAl a b us.toArray vs.toArray n1 n2 od pd osl psl (ns.zip ms) (aDg h1 h2)) ⟨e1,e2,?g⟩ hu
 case g=>
 have l1:=IntsAre.len h1
 have l2:=IntsAre.len h2
 rw[aw,aw,l1,l2,uI]
 exact⟨λz=>(by cases z),q⟩
def aDj (K:aa):List V->Hp->VK->Prop:=λvs H Q=>∃(a:Addr) (xs:List V) (T:List (List Int)),vs=[.ref a]/\Sq K H a xs/\Rows K H xs T/\T≠[]/\∀(i:Nat) (b:Addr) (row:List Int),xs[i]?=some (.ref b)->T[i]?=some row->SqT K H b (row.map V.int)->(∀r∈T,eY r row=false)->Q (.ref b) H
theorem aAZ {X:Cx}{k:Nat}(hr:Room k X.A)(hc:X.calm=true):CallR X (.builtin "min") (aDj X.K):=by
 intro pins s σ H vs us Q I r ⟨a,xs,T,e,hq,hR,hne,q⟩
 subst e
 obtain⟨u,rfl,ru⟩:=r.one
 obtain rfl:u=Value.ref a:=ru
 refine wY (iI (I.ok.hd hc) I hq λits It fp wr S s2 rv hz W st hf hI=>?g)
 case g=>
 have hl:its.length=T.length:=by rw[<- rv.length,hR.1]
 have hpos:0<T.length:=rj.mpr hne
 have item:∀(i:Nat) (v:Value),its[i]?=some v->∃b row,v = .ref b/\T[i]?=some row/\xs[i]?=some (.ref b)/\SqT X.K H b (row.map V.int):=λi v hv=>by
  obtain⟨x,hx,rx⟩:=rv.getR hv
  have hi:i<T.length:=by rw[<- hR.1];exact(ah.mp hx).1
  obtain⟨b,e1,e2⟩:=hR.2 i _ (ae hi)
  rw[e1] at hx
  cases hx
  exact⟨b,_,rx,ae hi,e1,e2⟩
 refine⟨It,fp,wr,its.length,_,S,λi j=>eY (T.getD i []) (T.getD j []),λh=>∀b o,b∉wr->s2.heap.get? b=some o->h.get? b=some o,rfl,W,st,hf,by omega,λb o _ e=>e,λz hz0 h h' k1 k2 b o bw e=>k2 b o bw (λq0=>Nat.not_lt.mpr hz0 (q0 ▸ b7 e)) (k1 b o bw e),λi j vi vj s' Q' E' kp hi hj hQ'=>?g,λv h' tk hv hk=>?h⟩
 case g=>
  obtain⟨b1,r1,rfl,t1,_,q1⟩:=item i vi hi
  obtain⟨b2,r2,rfl,t2,_,q2⟩:=item j vj hj
  have I':=hI s'.heap s'.toks kp
  obtain⟨us1,v1,p1,_⟩:=I'.tuple q1
  obtain⟨us2,v2,p2,_⟩:=I'.tuple q2
  refine aDC (ns:=r1) (ms:=r2) (us:=us1) (vs:=us2) (by have:=hr.un;show X.A.units+1<cLine;omega) p1 p2 (gF v1) (gF v2) ?g
  case g=>
  have e1:T.getD i []=r1:=by rw[ak,t1];rfl
  have e2:T.getD j []=r2:=by rw[ak,t2];rfl
  have hQ2:Q' (Value.bool (eY (T.getD i []) (T.getD j []))) s':=hQ'
  rw[e1,e2] at hQ2
  exact hQ2
 case h=>
  obtain⟨b,row,rfl,t1,e1,q1⟩:=item _ v hv
  refine⟨.ref b,H,hI h' tk hk,rfl,q _ b row e1 t1 q1 λr0 hr0=>?g⟩
  case g=>
  obtain⟨j,hj,rfl⟩:=dq hr0
  have:=gU (bt:=λi j=>eY (T.getD i []) (T.getD j [])) (λi=>lE _) (λi j k=>gI) (its.length - 1) j (by omega)
  have e1:T.getD j []=T[j]:=by rw[ak,ae hj];rfl
  have e2:T.getD (j4 (λi j=>eY (T.getD i []) (T.getD j [])) (its.length - 1)) []=row:=by rw[ak,t1];rfl
  have g:eY (T.getD j []) (T.getD (j4 (λi j=>eY (T.getD i []) (T.getD j [])) (its.length - 1)) [])=false:=this
  rw[e1,e2] at g
  exact g
theorem xV {X:Cx}{K:aa}{k:Nat}(hK:X.K=K)(hr:Room k X.A)(hc:X.calm=true):CallR X (.builtin "min") (aDj K):=by subst hK;exact aAZ hr hc
abbrev aDV (K:aa):List V->Hp->VK->Prop:=λvs H Q=>aHK K vs H Q\/aDj K vs H Q
theorem nZ {X:Cx}{K:aa}{k:Nat}(hK:X.K=K)(hr:Room k X.A)(hc:X.calm=true):CallR X (.builtin "min") (aDV K):=by
 intro pins s σ H vs us Q I r h
 rcases h with h | h
 ·exact aBe hK hc pins s σ H vs us Q I r h
 ·exact xV hK hr hc pins s σ H vs us Q I r h
section
variable {prog:Program}{w:World}{A:Around}{E:Value->Shared->Prop}{s:Shared}
end
section
variable {prog:Program}{w:World}{A:Around}{E:Value->Shared->Prop}{s:Shared}
end
end L2
namespace L2
open PySem
end L2
namespace L2
open PySem PySem.Spec PyProof.Rows
section
variable {prog:Program}{w:World}{A:Around}{E:Value->Shared->Prop}{s:Shared}
end
section
variable {X:Cx}
end
end L2
namespace L2
open PySem
section
variable {X:Cx}
def aGb:V->List V->Hp->VK->Prop:=λx vs H Q=>∃(l:Addr) (ns:List Int) (i:Int) (j:Nat),x = .ref l/\vs=[.int i]/\H l=some (.lst (ns.map V.int))/\ns[j]?=some i/\(∀m,m<j->ns[m]?≠some i)/\Q .non (upd H l (.lst ((ns.eraseIdx j).map V.int)))
theorem lL {ns:List Int}{its:List Value}(r:Vals (ns.map V.int) its){m:Nat}{y:Value}(h:its[m]?=some y):∃n t,ns[m]?=some n/\y = .int n t:=by
 have hm:m<its.length:=(ah.mp h).1
 have hl:(ns.map V.int).length=its.length:=r.length
 rw[ai] at hl
 have e:ns[m]?=some ns[m]:=ae (by omega)
 obtain⟨u,hu,t,ru⟩:=r.get (i:=m) (x := .int ns[m]) (by rw[bg,e];rfl)
 rw[h] at hu
 cases hu
 exact⟨ns[m],t,e,ru⟩
theorem aAt:∀(ns:List Int) (j:Nat),(ns.map V.int).eraseIdx j=(ns.eraseIdx j).map V.int
 |[],_=>rfl
 |_ :: _,0=>rfl
 |n :: ns,j+1=>by
  show V.int n :: (ns.map V.int).eraseIdx j=V.int n :: (ns.eraseIdx j).map V.int
  rw[aAt ns j]
theorem aDQ:MtM X "list.remove" aGb:=by
 intro pins s σ H x vs v us Q I rx rv h
 obtain⟨l,ns,i,j,rfl,rfl,hH,hj,hno,q⟩:=h
 cases rx
 obtain⟨u,rfl,ru⟩:=rv.one
 obtain⟨t,rfl⟩:=ru
 obtain⟨z,its,n,r,hl,e⟩:=I.lstM hH
 have hjn:j<ns.length:=(ah.mp hj).1
 have hlen:its.length=ns.length:=by rw[<- r.length,ai]
 have hji:j<its.length:=by omega
 let f:Value->Bool:=λy=>match y with | .int a _=>a == i | _=>false
 have he:∀y,y∈its.toArray->MeetsSeq.EqGives y (.int i t) (f y):=λy hy=>by
  obtain⟨m,hm⟩:=fq.mp (by simpa using hy:y∈its)
  obtain⟨a,tk,_,rfl⟩:=lL r hm
  exact MeetsSeq.EqGives.int a i tk t
 have at':∀m (hm:m<its.length),∃a tk,ns[m]?=some a/\its[m] = .int a tk:=λm hm=>by
  obtain⟨a,tk,e1,e2⟩:=lL r (ae hm)
  exact⟨a,tk,e1,e2⟩
 refine xl F.slot_list_remove ⟨_,e,rfl⟩ F.entry_list_remove (F.args_list_remove_2 _ _)
  (MeetsSeq.list_remove l its.toArray n (.int i t) f he j (by rw[aw];exact hji) ?_ ?_ (by rw[aw];omega)) ⟨e,?_⟩
 ·obtain⟨a,tk,e1,e2⟩:=at' j hji
  rw[hj] at e1
  cases e1
  show f its[j]=true
  rw[e2]
  show(i == i)=true
  simp
 ·intro m hm hmj
  obtain⟨a,tk,e1,e2⟩:=at' m (by rw[aw] at hm;exact hm)
  show f its[m]=false
  rw[e2]
  show(a == i)=false
  have:=hno m hmj
  rw[e1] at this
  simp
  intro c
  exact this (by rw[c])
 ·have r':Vals ((ns.eraseIdx j).map V.int) (its.eraseIdx j):=by
   have:=r.eraseIdx j
   rw[show(ns.map V.int).eraseIdx j=(ns.eraseIdx j).map V.int from(aAt ns j)] at this
   exact this
  refine⟨.non,_,I.lset (its':=its.eraseIdx j) hH e ?_ r' ?_,rfl,q⟩
  ·show its.toArray.eraseIdxIfInBounds j=(its.eraseIdx j).toArray
   rw[o9]
  ·rw[ai,mr hjn]
   have e3:(ns.map V.int).length=ns.length:=ai ..
   omega
end
end L2
namespace L2
open PySem PySem.Spec PyProof.Rows
section
variable {prog:Program}{w:World}{A:Around}{E:Value->Shared->Prop}{s:Shared}
end
section
variable {X:Cx}
theorem zT:∀{ns:List Int}{us:List Value},Vals (ns.map V.int) us->IntsAre us ns
 |[],us,r=>by cases r;exact .nil
 |n :: ns,us,r=>by
  cases r with
  |cons h t=>
   obtain⟨tk,rfl⟩:=h
   exact .cons n tk (zT t)
end
section
variable {X:Cx}
end
end L2
namespace L2
open PySem
structure aIg (mg:Str->Option Value):Prop extends aIl mg where
 set:mg "set" = none
theorem aEJ:dw "set" = some (.type "set"):=by decide+kernel
section
variable {X:Cx}
def aHJ (K:aa) (ta:TE):TT:=λσ H Q=>ta σ H λx H'=>∃k,aHq K x H' k/\Q k H'
theorem aEg {K:aa}{a:Expr}{ta:TE}(hK:X.K=K)(ha:PE X a ta)(he:∀whole,isTrue a X.env whole=(do let v <- whole;yn a.pos;wj [v] (truthy v))):PT X a (aHJ K ta):=by
 subst hK
 exact aBZ ha he
end
structure aHE (mg:Str->Option Value):Prop extends aIg mg where
 abs:mg "abs" = none
theorem aDb:dw "abs" = some (.builtin "abs"):=by decide+kernel
def yN:List V->Hp->VK->Prop:=λxs H Q=>∃i:Int,xs=[.int i]/\Q (.int (if i<0 then -i else i)) H
theorem rX {X:Cx}:CallR X (.builtin "abs") yN:=aBG
section
variable {vars:List Nat}{tb:TS}{acc a:Addr}{σ:St}{H:Hp}{j:Nat}{D:jG}{K:aa}
end
def EmR (K:aa) (vars:List Nat) (tb:TS) (acc:Addr) (σ:St) (H:Hp) (L:List (List Int)):Prop:=
 ∀(D:jG) (pre:List V) (R:List (List Int)),H acc=some (.lst pre)->Rows K H pre R->R.length+L.length<=100000->(∀σ' H' pre',σ'.length=σ.length->Agree vars σ σ'->SameX acc H H'->H' acc=some (.lst pre')->Rows K H' pre' (R++L)->D.nx σ' H')->tb D σ H
section
variable {K:aa}{vars:List Nat}{tb:TS}{acc:Addr}{σ:St}{H:Hp}
theorem EmR.cast {L L':List (List Int)}(h:EmR K vars tb acc σ H L)(e:L=L'):EmR K vars tb acc σ H L':=e ▸ h
theorem zW {ta:TA}{r:List Int}(hr:r.length<=100)(h:∀Q:List V->Hp->Prop,Q (r.map V.int) H->ta σ H Q):EmR K vars (eJ (eK ta) acc) acc σ H [r]:=by
 intro D pre R ha hR hz hd
 refine h _ ⟨by rw[ai];exact bq hr (by decide),λt ht=>?_⟩
 have st:=aH ht (.tup (r.map V.int))
 have ha':=st _ _ ha
 refine⟨pre,ha',cp (show pre.length<=100000 by rw[hR.1];omega) (by decide),?_⟩
 exact hd σ _ _ rfl (Agree.refl _ _) (st.x.trans (SameX.put _)) aF (Rows.snoc (Rows.put (hR.same st) ha') (uF (.of aF) ha'))
theorem aBQ {lo:Int}{n j:Nat}{L:Nat->List (List Int)}(hj:j∈vars)(hjl:j<σ.length)
  (h:∀i σ' H',i<n->σ'.length=σ.length->Agree vars σ σ'->σ'[j]?=some (some (.int (lo+(i:Int))))->SameX acc H H'->EmR K vars tb acc σ' H' (L i)) :
  EmR K vars (gB (Itr lo n) (aJ j) tb) acc σ H ((aj n).flatMap L):=by
 intro D pre R ha hR hz hd
 refine cI (lo:=lo) (n:=n) (g:=aJ j) (D:=D) (λi σ' H'=>i<=n/\σ'.length=σ.length/\Agree vars σ σ'/\SameX acc H H'/\∃pre',H' acc=some (.lst pre')/\Rows K H' pre' (R++(aj i).flatMap L)) ⟨bc _,rfl,Agree.refl _ _,SameX.refl _ _,pre,ha,by simpa using hR⟩ (λi σ1 H1 hi ⟨_,hl1,ag1,sx1,pre1,h1,r1⟩=>?_) λσ1 H1 ⟨_,hl1,ag1,sx1,pre1,h1,r1⟩=>hd σ1 H1 pre1 hl1 ag1 sx1 h1 r1
 have hle:=cT L (show i+1<=n from hi)
 rw[aV,au] at hle
 refine h i (σ1.set j (some (.int (lo+(i:Int))))) H1 hi (by rw[fk];exact hl1) (ag1.trans (Agree.set hj _)) (oF (by omega)) sx1 _ pre1 _ h1 r1 (by rw[au];omega) λσ' H' pre' hl ag sx h2 r2=>⟨hi,hl.trans ((fk ..).trans hl1),(ag1.trans (Agree.set hj _)).trans ag,sx1.trans sx,pre',h2,by rw[aV,<- ez];exact r2⟩
theorem vH (vars:List Nat)(L:List (List Int)){g:TG}{J:It}{D:jG}(ha:H acc=none)(hz:L.length<=100000)(h:EmR K vars (gB J g tb) acc σ (upd H acc (.lst [])) L)
  (q:∀σ' H' pre,Same H H'->H' acc=some (.lst pre)->Rows K H' pre L->D.nx σ' H'):gB J g tb D σ (upd H acc (.lst [])):=
 h _ [] [] aF Rows.nil (by simpa using hz) λσ' H' pre' _ _ sx h1 h2=>q σ' H' pre' (cZ ha sx) h1 (by simpa using h2)
end
end L2
namespace L2
open PySem PySem.Spec PyProof.Rows
open PySem.SeqAt
theorem pX:∀r:List Int,kS (r.map Dt.int)=0
 |[]=>rfl
 |a :: r=>by rw[bx,kS,pX r];rfl
theorem gJ:∀{r q:List Int},eqL (r.map Dt.int) (q.map Dt.int)=true->r=q
 |[],[],_=>rfl
 |[],_ :: _,h=>by simp[eqL] at h
 |_ :: _,[],h=>by simp[eqL] at h
 |a :: r,b :: q,h=>by
  rw[bx,bx,eqL,du] at h
  have h1:a=b:=by have:=h.1;rw[eqD] at this;exact rg this
  rw[h1,gJ h.2]
section
variable {X:Cx}{tg:Expr}
end
section
variable {X:Cx}{pins:List (Addr×Obj)}{σ:St}{H:Hp}{s:Shared}
end
theorem KV.len {κ:Type}:∀{l:List (κ×V)}{m:List (κ×Value)},KV l m->l.length=m.length
 |_,_, .nil=>rfl
 |_,_, .cons _ t=>by rw[ba,ba,KV.len t]
theorem KV.at {κ:Type}:∀{l:List (κ×V)}{m:List (κ×Value)},KV l m->∀{i:Nat}{k:κ}{x:Value},m[i]?=some (k,x)->∃v,l[i]?=some (k,v)
 |_,_, .nil,_,_,_,h=>by cases h
 |_,_, .cons (a:=p) (b:=q) r t,0,k,x,h=>by
  have e:q=(k,x):=by simpa using h
  exact⟨p.2,by rw[List.getElem?_cons_zero,show p=(k,p.2) from xk (by rw[r.1,e]) rfl]⟩
 |_,_, .cons _ t,i+1,k,x,h=>KV.at t (i:=i) (by simpa using h)
def XAt (h:Heap) (x C:Addr):Prop:=∃o,h.get? x=some o/\o.cls = .ref C
section
open Builtin Builtin.ObjectAttr Builtin.Getset_descriptor
variable {prog:Program}{w:World}{A:Around}{E:Value->Shared->Prop}{s:Shared}{K:aa}{x C:Addr}{R:vp->Shared->Prop}
end
def aHV (a C:Addr):HO := .ext λh=>XAt h a C
section
variable {X:Cx}
end
abbrev aGu:List Value:=[.type "ValueError", .type "Exception", .type "BaseException", .type "object"]
theorem aEq {K:aa}{h:Heap}{C:Addr}{bmB:List Value}{newId:String}(X:K.In h)(q:oe K C bmB newId=true) :
  ∃bm N nm qn bs hdct sn sub ab col dd k0 k1 k2 k3 k5 mN,h.get? C=some (excClassObj nm qn C N bs bm hdct sn sub ab col dd k0 k1 k2 k3 k5 newId)/\h.Ns N mN/\mN "__init__" = none/\OwnTail h bmB bm:=by
 unfold oe at q
 split at q
 ·rename_i dd cd sl ho
  split at q
  ·rename_i C' bm k0 k1 k2 k3 n k5 hm hs
   simp only[du,beq_iff_eq,Bool.not_eq_true'] at q
   obtain⟨⟨⟨⟨⟨rfl,rfl⟩,hdel⟩,ht⟩,hok⟩,hni⟩:=q
   obtain⟨nm,bs,mro,ns,qn,hd,sn,sub,ab,col,del⟩:=cd
   dsimp only at hm hdel hok hni
   subst hm hdel
   have hsl:sl=#[k0,k1,k2,k3,some (.builtin n),k5]:=by
    obtain⟨l⟩:=sl
    simp only at hs
    rw[hs]
   subst hsl
   exact⟨bm,ns,nm,qn,bs,hd,sn,sub,ab,col,dd,k0,k1,k2,k3,k5,_,X _ _ ho, .of_isNs (PySem.W.isNs_of_in X hok),PySem.W.nsMap_none_of_in X hok hni,PySem.W.tail_of_in X ht⟩
  ·cases q
 ·cases q
def zA (X:Cx) (E:XK):Prop:=∀(pins:List (Addr×Obj)) (σ:St) (H:Hp) (s:Shared) (cls:Value) (e:Addr) (vs:List Value) (h':Heap),Inv X pins σ H s->E cls none H->Heap.MadeExcOf s.heap h' e cls vs->X.xe (.ref e) { s with heap:=h' }
def aBk (C:Addr) (E:XK):TS:=λ_ _ H=>E (.ref C) none H
section
variable {X:Cx}{x:Str}{np cpos pos p:Pos}{C:Addr}{E:XK}{m:Str}{j:Nat}
theorem aCq (T:zA X E)(hc:X.calm=true)(hg:Gl X x)(hm:X.mg x=some (.ref C))(q:oe X.K C aGu "ValueError.__new__" = true)(hdb:(x == ("__debug__" : Str))=false:=by decide) :
  PS X (.Raise (some (.Call (.Name x np) [.Constant (.str m) j p] [] cpos)) none pos) (aBk C E):=by
 intro pins s σ H D I h
 obtain⟨bm,N,nm,qn,bs,hdct,sn,sub,ab,col,dd,k0,k1,k2,k3,k5,mN,hC,hN,hni,TL⟩:=aEq I.kIn q
 refine wpAny_Raise_call_subT (C:=C) (nm:=nm) (q:=qn) (N:=N) (bs:=bs) (bm:=bm) (hdct:=hdct) (sn:=sn) (sub:=sub) (ab:=ab) (col:=col) (dd:=dd) (k0:=k0) (k1:=k1) (k2:=k2) (k3:=k3) (k5:=k5)
  xx (mN:=mN) (TL.hasType xx.hasBase) (I.ok.hd hc) rfl hni (zD I hg hm ⟨rfl,?_⟩ hdb)
 refine xt (Calls.spliced_cons (Calls.Constant_str (k:=j) (pos:=p) (Calls.spliced_nil ⟨rfl,?_,hC,hN,TL,λh' e hx=>?_⟩)))
 ·show 1<=b8
  decide
 ·exact T pins σ H _ _ e _ h' (I.tok _) h hx
end
def tQ (P:Program) (w:World):CXT:=λouter H s E e s'=>
 ∃(a:Addr) (cls a0:Value) (H':Hp) (B:Heap),e = .ref a/\s'.os=s.os/\u4 s'.gens/\Un (frs outer) [] H H' s.heap s'.heap/\HOk P w H' s'.heap /\
  Heap.FlyingW B outer a cls a0 s'.heap/\(∀b o,s'.heap.get? b=some o->b∉frs outer->(H' b≠none\/∃o',s.heap.get? b=some o')->B.get? b=some o)/\E cls none H'
section
variable {X:Cx}{pins:List (Addr×Obj)}{σ:St}{H:Hp}{s:Shared}{E:XK}{a:Addr}{cls a0:Value}{B h2:Heap}
theorem ObjOk.there {P:Program}{w:World}{H:Hp}{h:Heap}{a:Addr}:∀{o:HO},ObjOk P w H h a o->∃u,h.get? a=some u
 | .lst _,⟨_,_,_,_,e⟩=>⟨_,e⟩
 | .tup _,⟨_,_,_,o,e,_⟩=>⟨_,e⟩
 | .dK _,⟨_,_,_,_,o,_,_,e,_⟩=>⟨_,e⟩
 | .dT _,⟨_,_,_,_,o,_,_,e,_⟩=>⟨_,e⟩
 | .set _ _,⟨o,_,_,_,e,_⟩=>⟨_,e⟩
 | .ins _ _ _,⟨_,_,_,e,_⟩=>⟨_,e⟩
 | .own _,⟨_,e⟩=>⟨_,e⟩
 | .xd _,⟨_,⟨_,_,_,e,_⟩,_⟩=>⟨_,e⟩
 | .rng _ _,⟨_,_,_,e⟩=>⟨_,e⟩
 | .frz _ _,⟨e,_⟩=>⟨_,e⟩
 | .tbl _,e=>⟨_,e⟩
 | .met _ _,e=>⟨_,e⟩
 | .ext _,⟨_,e,_⟩=>e
theorem uY (hex:X.ex=[])(J:Inv X pins σ H s)(hfl:Heap.FlyingW B X.outer a cls a0 h2)(up:s.heap.UpToSlots h2)
  (cov:∀b o,s.heap.get? b=some o->b∉frs X.stack->(H b≠none\/∃o',X.s₀.heap.get? b=some o')->B.get? b=some o) (hE:E cls none H):tQ X.prog X.w X.outer X.H₀ X.s₀ E (.ref a) { s with heap:=h2 }:=by
 have neL:∀b o,X.s₀.heap.get? b=some o->b≠X.env.locals:=λb o e=>dt (c5 (b7 e) J.ok.above)
 have nx:∀b:Addr,b∉X.ex:=λb z=>by rw[hex] at z;cases z
 have nst:∀b,b≠X.env.locals->b∉frs X.outer->b∉frs X.stack:=λb h1 h2 z=>(a9.mp (J.stkSub b z)).elim h1 h2
 have tr:∀b u o,H b=some u->s.heap.get? b=some o->h2.get? b=some o:=λb u o e q=>
  hfl.1 b o (cov b o q (λz=>by rw[J.stkFree b z] at e;cases e) (.inl (by rw[e];exact λz=>by cases z)))
 have ko:∀b o,X.s₀.heap.get? b=some o->∀o1,s.heap.get? b=some o1->b∉frs X.outer->h2.get? b=some o1:=λb o e o1 q n=>hfl.1 b o1 (cov b o1 q (nst b (neL b o e) n) (.inr ⟨o,e⟩))
 refine⟨a,cls,a0,H,B,rfl,J.os,J.bare,⟨λb o e n hb _=>?_,λb o e n hb _=>?_,λb o e n _=>?_,λb o e _=>?_,J.base.tups,J.base.frzs,J.base.tbls⟩,λb u e=>?_,hfl,λb o e n hc=>?_,hE⟩
 ·exact ko b o e o (J.base.keep b o e n hb (nx b)) hb
 ·obtain⟨sl,e1⟩:=J.base.slot b o e n hb (nx b)
  obtain⟨_,o2,e2,nf⟩:=J.funs.mem hb
  rw[e1] at e2;cases e2
  obtain⟨sl',e3⟩:=up b _ e1 nf
  exact⟨sl',e3⟩
 ·exact J.base.free b o e n (nx b)
 ·obtain⟨o1,e1⟩:=J.base.there b o e (nx b)
  by_cases hb:b∈frs X.outer
  ·obtain⟨_,o2,e2,nf⟩:=J.funs.mem hb
   obtain⟨sl',e3⟩:=up b _ e2 nf
   exact⟨_,e3⟩
  ·exact⟨o1,ko b o e o1 e1 hb⟩
 ·refine(J.hok b u e).stay (λc v hc q=>?_) (λ_ q=>q) λ_ _ q=>q
  rcases hc with z | z
  ·rw[z] at q ⊢;exact tr b u v e q
  ·exact tr c _ v z q
 ·rcases hc with hc | ⟨o',e'⟩
  ·cases hu:H b with
   |none=>exact absurd hu hc
   |some u=>
    obtain⟨o1,e1⟩:=(J.hok b u hu).there
    have e2:=tr b u o1 hu e1
    rw[e] at e2;cases e2
    exact cov b o e1 (λz=>by rw[J.stkFree b z] at hu;cases hu) (.inl hc)
  ·obtain⟨o1,e1⟩:=J.base.there b o' e' (nx b)
   have e2:=ko b o' e' o1 e1 n
   rw[e] at e2;cases e2
   exact cov b o e1 (nst b (neL b o' e') n) (.inr ⟨o',e'⟩)
end
section
variable {P:Program}{w:World}{K:aa}{mg:Str->Option Value}{base:Heap}{N:List Str}{qual:Str}{scope:Scope}{f:Addr}{cd:Value}{A:Around}{outer:List Env}{s₀:Shared}{H₀:Hp}{E:XK}
theorem wQ:zA (tD (tQ P w) P w K mg base N qual scope f cd A outer s₀ H₀ E) E:=by
 intro pins σ H s cls e vs h' I hE hx
 have hin:∀env∈(tD (tQ P w) P w K mg base N qual scope f cd A outer s₀ H₀ E).stack,∀b,env.frame=some b->b∈frs (tD (tQ P w) P w K mg base N qual scope f cd A outer s₀ H₀ E).stack:=λenv he b hb=>ky.mpr ⟨env,he,hb⟩
 show wpAny _ _ _ _ _ _
 refine wpAny_leaves_madeW (base:=PySem.W.hideAll s.heap (frs (tD (tQ P w) P w K mg base N qual scope f cd A outer s₀ H₀ E).stack)) I.ok.frames rfl (λb o q=>PySem.W.of_hideAll _ q) (PySem.W.funFrames_hide I.stack hin) hx λh2 t x1 _ _ x4=>?_
 exact uY (s:={ s with heap:=s.heap }) rfl I x1 ((Heap.UpToSlots.of_keeps hx.keeps).trans x4) (λb o q n _=>ym _ q n) hE
theorem wT:oG (tQ P w) (tD (tQ P w) P w K mg base N qual scope f cd A outer s₀ H₀ E) E:=by
 intro pins σ H s e s' I ⟨a,cls,a0,H',B,he,os,bare,un,hok,hfl,cov,hE⟩
 subst he
 have J:Inv (tD (tQ P w) P w K mg base N qual scope f cd A outer s₀ H₀ E) pins σ H' s':=I.call' os un hok bare (λb z=>absurd z (by simp))
 show wpAny _ _ _ _ _ _
 refine wpAny_leaves_onW I.ok.frames rfl hfl λh2 x1 x2=>?_
 exact uY rfl J x1 x2 (λb o q n hc=>cov b o q n (hc.elim .inl λ⟨o',z⟩ => .inr (I.base.there b o' z (by simp[tD])))) hE
end
section
variable {X:Cx}{pins:List (Addr×Obj)}{σ:St}{H:Hp}{s:Shared}
end
section
variable {X:Cx}{pins pn pins':List (Addr×Obj)}{σ:St}{H H':Hp}{s s':Shared}{W:Value->Shared->Prop}{a C:Addr}{cls a0:Value}{B h2:Heap}
end
section
variable {X:Cx}{x n:Str}{np pos hpos:Pos}{C0:Addr}{ie ln:Nat}{tb:XK->TS}{th:TS}{body suite:List Stmt}{b₀:Stmt}
end
section
variable {X:Cx}{st:Stmt}{t:TS}{x:Str}{np pos hpos cpos p:Pos}{C C0:Addr}{E:XK}{m:Str}{j:Nat}{K:aa}
theorem PS.nox (h:PS X.nox st t):PS X st t:=λpins s σ H D I hw=>
 gj (h pins s σ H D (I.wish _) hw) (λ_ _ q=>q.unwish) λ_ _ z=>jx z
theorem yO (hK:X.K=K)(T:zA X E)(hc:X.calm=true)(hg:Gl X x)(hm:X.mg x=some (.ref C))(q:oe K C aGu "ValueError.__new__" = true)(hdb:(x == ("__debug__" : Str))=false:=by decide) :
  PS X (.Raise (some (.Call (.Name x np) [.Constant (.str m) j p] [] cpos)) none pos) (aBk C E):=aCq T hc hg hm (by rw[hK];exact q) hdb
end
structure DefX (P:Program)(w:World)(K:aa)(mg:Str->Option Value)(base:Heap)(x:Str)(k:Nat)(ps:List Str)(sp:Sp):Prop where
 ex:∃(f:Addr) (fd:FuncData),FnOk P w K mg base (tQ P w) k f fd ps sp/\mg x=some (.ref f)/\mx K (.ref f)=true/\Binds K fd ps []
theorem DefX.mono {P:Program}{w:World}{K:aa}{mg:Str->Option Value}{base:Heap}{x:Str}{j k:Nat}{ps:List Str}{sp:Sp}(D:DefX P w K mg base x j ps sp)(h:j<=k):DefX P w K mg base x k ps sp:=by
 obtain⟨f,fd,F,r⟩:=D.ex
 exact⟨f,fd,F.mono h,r⟩
theorem uN {X:Cx}{x:Str}{k:Nat}{ps:List Str}{sp:Sp}{p pos:Pos}{e:Expr}{es:List Expr}{t:TA}{E:XK}(D:DefX X.prog X.w X.K X.mg X.base x k ps sp)(hr:Room k X.A)(hg:Gl X x)(hx:oG (tQ X.prog X.w) X E)(ha:PA X (e :: es) t)
  (hdb:(x == ("__debug__" : Str))=false:=by decide) (he:ff (e :: es) X.env=(false,eval e X.env) :: ff es X.env:=by rfl) (hpl:(vo pos (ff es X.env)).any (·.1)=false:=by rfl) :
  PE X (.Call (.Name x p) (e :: es) [] pos) (bD sp [] E t):=by
 obtain⟨f,fd,F,hm,hk,hb⟩:=D.ex
 exact zQ F hr hg hm hk hb .nil hx ha hdb he hpl
section
variable {P:Program}{w:World}{K:aa}{mg:Str->Option Value}{base:Heap}
theorem Fun.okX {x qual:Str}{st:Stmt}{f:Addr}{fd:FuncData}{N ps:List Str}{k:Nat}{sp:Sp}(F:Fun K x qual st f fd)(S:jH N ps (bI st))(len:∀vs H Q E,sp vs H Q E->vs.length=ps.length)
  (hbody:∀(cdv:Value) (A:Around) (outer:List Env) (s:Shared) (H:Hp) (vs:List V) (Q:VK) (E:XK),Room k (A.deeper (wq qual (bI st) s.heap.objs.size f cdv))->sp vs H Q E ->
   ∃t,PSs (tD (tQ P w) P w K mg base N qual (bI st) f cdv A outer s H E) (dE st) t/\t { nx:=λ_ H'=>Q .non H',rt:=Q } (bZ N vs) H):FnOk P w K mg base (tQ P w) (k+1) f fd ps sp:=by
 obtain⟨oc,od,kV,doc,pm,an,cdv,ct,osl,rfl,lk,hcd⟩:=F.ex
 exact aFR lk hcd S len λA outer s H vs Q E hr hsp=>hbody cdv A outer s H vs Q E hr hsp
end
end L2
namespace L2
open PySem
section
variable {X:Cx}
end
theorem yW {X:Cx}:oG (tQ X.prog X.w) X E0:=λ_ _ _ _ _ _ _ ⟨_,_,_,_,_,_,_,_,_,_,_,_,h⟩=>h.elim
section
variable {P:Program}{w:World}
def IsPairKey (P:Program) (w:World) (h:Heap) (k:List Int×Int) (a:Addr):Prop:=∃o n b t,h.get? a=some o/\o.cls = .type "tuple"/\o.data = .seq #[.ref b, .int k.2 t] n/\IsTupleKey (ic P w) h k.1 b
theorem IsPairKey.typeIs {s:Shared}{k:List Int×Int}{a:Addr}(x:IsPairKey P w s.heap k a):s.TypeIs (.ref a) "tuple":=let⟨o,_,_,_,ho,hc,_⟩:=x;⟨o,ho,hc⟩
theorem IsPairKey.inj {h:Heap}{a:Addr}{x y:List Int×Int}(hx:IsPairKey P w h x a)(hy:IsPairKey P w h y a):x=y:=by
 obtain⟨o,n,b,t,ho,_,hd,hi⟩:=hx
 obtain⟨o',n',b',t',ho',_,hd',hi'⟩:=hy
 obtain rfl:o=o':=bu (ho.symm.trans ho')
 rw[hd] at hd'
 injection hd' with h1 _
 have h2:[Value.ref b, .int x.2 t]=[.ref b', .int y.2 t']:=congrArg zt h1
 injection h2 with h3 h4
 injection h4 with h5 _
 injection h3 with h3
 injection h5 with h5 _
 subst h3
 exact xk (hi.inj hi') h5
theorem IsPairKey.keeps {h h':Heap}{k:List Int×Int}{a d:Addr}{o:Obj}{es ep}(x:IsPairKey P w h k a)(ho:h.get? d=some o)(hd:o.data = .dict es ep)(hs:ir d h h'):IsPairKey P w h' k a:=by
 obtain⟨o',n,b,t,ho',hc,hd',hi⟩:=x
 have hne:a≠d:=by
  rintro rfl
  obtain rfl:o'=o:=bu (ho'.symm.trans ho)
  rw[hd] at hd';exact nomatch hd'
 exact⟨o',n,b,t,(hs.2 a hne).trans ho',hc,hd',hi.keeps ho hd hs⟩
def pW (P:Program) (w:World) (k:List Int×Int):Int:=xn (ei [lz (ic P w) k.1,(ic P w).hash k.2])
variable {A:Around}{E:Value->Shared->Prop}{s:Shared}
theorem uA {k:List Int×Int}{a:Addr}{Q:Int->Shared->Prop}(hu:A.units+5<cLine)(hk:IsPairKey P w s.heap k a)(h:Q (pW P w k) { s with toks:=s.toks+(k.1.length+3) }) :
  wpAny (model P w) A (pyHash (.ref a)) Q E s:=by
 have hT:=hk.typeIs
 obtain⟨o,n,b,t,ho,_,hd,hi⟩:=hk
 unfold pyHash
 first | unfold pyHashByItsType | skip
 first | refine af (wpAny_cRoomFor_or (.inr (by omega)) ?_) | skip
 refine af (ll hT pf.lookup ?_)
 show wpAny _ _ (if(some (Value.builtin "tuple.__hash__") == some Value.none)=true then _ else _) Q E s
 rw[if_neg (by rw[beq_builtin_none];exact cf)]
 refine af (ll hT pf.lookup ?_)
 show wpAny _ _ (callSpecialIfBoundUnlessNone? (.ref a) "__hash__" _ >>= _) Q E s
 refine af (wpAny_callSpecialIfBoundUnlessNone?_slot hT pf (gi pf hT F.entry_tuple_hash ?_ (F.args_tuple_hash_1 _)))
 show wpAny _ _ (mq (.ref a) >>= _) _ _ s
 refine af (t6 ho hd ?_)
 refine af ?_
 rw[<- t7]
 show wpAny _ _ (forIn [Value.ref b,Value.int k.2 t] #[] _) _ _ s
 rw[iw]
 refine af (af (wpAny_pyHash_tuple (knd:=ic P w) (show A.units+1<cLine by omega) hi (ao ?_)))
 show wpAny _ _ (forIn [Value.int k.2 t] #[lz (ic P w) k.1] _) _ _ _
 rw[iw]
 refine af (af ((ic P w).pyHash (k:=k.2) (v := .int k.2 t) (by show Value.isInt k.2 (.int k.2 t)=true;unfold Value.isInt;exact beq_self_eq_true _) (ao ?_)))
 show wpAny _ _ (forIn [] #[lz (ic P w) k.1,(ic P w).hash k.2] _) _ _ _
 rw[kn]
 refine ao ?_
 show wpAny _ _ (retInt (ei [lz (ic P w) k.1,(ic P w).hash k.2])) _ _ _
 refine wpAny_ret_mkInt ?_
 show wpAny _ _ (if(decide (-(2:Int) ^ 63<=ei [lz (ic P w) k.1,(ic P w).hash k.2]) && decide (ei [lz (ic P w) k.1,(ic P w).hash k.2]<2 ^ 63))=true then _ else _) Q E _
 unfold pW xn at h
 by_cases hr:(decide (-(2:Int) ^ 63<=ei [lz (ic P w) k.1,(ic P w).hash k.2]) && decide (ei [lz (ic P w) k.1,(ic P w).hash k.2]<2 ^ 63))=true
 ·rw[if_pos hr]
  rw[if_pos hr] at h
  exact ao (by simpa[Nat.add_assoc] using h)
 ·rw[if_neg hr]
  rw[if_neg hr] at h
  exact af (xm (ao (by simpa[Nat.add_assoc] using h)))
theorem rJ {x y:List Int×Int}{a b:Addr}{Pd:Fin->Shared->Prop}(hu:A.units<cLine)(hx:IsPairKey P w s.heap x a)(hy:IsPairKey P w s.heap y b)(h:Pd (.done (.ret (.bool (decide (x=y))))) s) :
  wpAny (model P w) A (Builtin.«tuple.__eq__» ⟨[.ref a, .ref b],[]⟩) Pd E s:=by
 have hTb:=hy.typeIs
 obtain⟨oa,na,ia,ta,hoa,_,hda,hia⟩:=hx
 obtain⟨ob,nb,ib,tb,hob,_,hdb,hib⟩:=hy
 show wpAny _ _ (isInstance (.ref b) (.type "tuple") >>= _) _ _ s
 refine af (nh hTb qi ?_)
 simp only[js,dn,if_false]
 refine af (t6 hoa hda ?_)
 refine af (t6 hob hdb ?_)
 refine af ?_
 show wpAny _ _ (forIn [(Value.ref ia,Value.ref ib),(Value.int x.2 ta,Value.int y.2 tb)] _ _) _ _ s
 rw[iw]
 refine af (af (wpAny_eqBool_tuple (knd:=ic P w) hu hia hib ?_))
 by_cases h1:x.1=y.1
 ·rw[decide_eq_true h1]
  simp only[js,dn,if_false]
  refine ao ?_
  show wpAny _ _ (forIn [(Value.int x.2 ta,Value.int y.2 tb)] _ _) _ _ s
  rw[iw]
  refine af (af (vn ?_))
  by_cases h2:x.2=y.2
  ·rw[show(x.2 == y.2)=true by rw[h2];exact beq_self_eq_true _]
   simp only[js,dn,if_false]
   refine ao ?_
   show wpAny _ _ (forIn [] _ _) _ _ s
   rw[kn]
   refine ao (ao ?_)
   have e:decide (x=y)=true:=decide_eq_true (xk h1 h2)
   rw[e] at h
   exact h
  ·rw[show(x.2 == y.2)=false by exact beq_false_of_ne h2]
   simp only[yh,if_true]
   have e:decide (x=y)=false:=decide_eq_false λz=>h2 (congrArg zh z)
   rw[e] at h
   exact af (ao (ao (ao (ao h))))
 ·rw[decide_eq_false h1]
  simp only[yh,if_true]
  have e:decide (x=y)=false:=decide_eq_false λz=>h1 (congrArg xo z)
  rw[e] at h
  exact af (ao (ao (ao (ao h))))
theorem uE {x y:List Int×Int}{a b:Addr}{Q:Bool->Shared->Prop}(hu:A.units+5<cLine)(hx:IsPairKey P w s.heap x a)(hy:IsPairKey P w s.heap y b)(h:Q (decide (x=y)) s) :
  wpAny (model P w) A (eqBool (.ref a) (.ref b)) Q E s:=by
 unfold eqBool
 try with_reducible refine ft ?_
 show wpAny _ _ (if(Value.ref a == Value.ref b)=true then _ else _) Q E s
 by_cases hab:(Value.ref a == Value.ref b)=true
 ·rw[if_pos hab]
  have e:a=b:=by have:=rg hab;injection this
  subst e
  obtain rfl:=hx.inj hy
  exact af (xm (ao (by simpa using h)))
 ·rw[if_neg hab]
  exact af (wpAny_richCompare_same_room (op := .Eq) hx.typeIs hy.typeIs rz
   (gi rz hx.typeIs F.entry_tuple_eq (rJ (show A.units+1<cLine by omega) hx hy ⟨_,rfl,(λe=>nomatch e),f9 h⟩) (F.args_tuple_eq_2 _ _)) (by omega))
theorem aCC {ks:List Int}{a:Addr}{m:Nat}{Q:Bool->Shared->Prop}(hk:IsTupleKey (ic P w) s.heap ks a)(h:Q true s):wpAny (model P w) A (Ao (m+1) (.ref a)) Q E s:=by
 have hT:=hk.typeIs
 obtain⟨o,items,n,ho,_,hd,hi⟩:=hk
 unfold Ao
 refine af (ll hT rz.lookup ?_)
 show wpAny _ _ (isInstance (.ref a) (.type "tuple") >>= _) _ _ s
 refine af (nh hT qi ?_)
 simp only[js,dn,if_false]
 refine af (qb ho hd ?_)
 refine af ?_
 show wpAny _ _ (forIn items _ _) _ _ s
 rw[<- t7]
 refine wpAny_forIn_list _ (λrest r s'=>r.1=none/\s'=s/\∀v∈rest,carriedByValue v=true) _ ?_ ?_ _ _ ⟨rfl,rfl,hi.byValue⟩
 ·rintro v rest r s' ⟨hr,rfl,hall⟩
  rw[eqIsQuiet_byValue _ (hall v bp)]
  refine af (ao ?_)
  simp only[js,dn,if_false]
  exact ao ⟨rfl,rfl,λu hu'=>hall u (ar _ hu')⟩
 ·rintro⟨r1,r2⟩ s' ⟨hr,rfl,_⟩
  simp only at hr
  subst hr
  exact ao h
theorem xL {k:List Int×Int}{a:Addr}{Q:Bool->Shared->Prop}(hk:IsPairKey P w s.heap k a)(h:Q true s):wpAny (model P w) A (Ao 8 (.ref a)) Q E s:=by
 have hT:=hk.typeIs
 obtain⟨o,n,b,t,ho,_,hd,hi⟩:=hk
 unfold Ao
 refine af (ll hT rz.lookup ?_)
 show wpAny _ _ (isInstance (.ref a) (.type "tuple") >>= _) _ _ s
 refine af (nh hT qi ?_)
 simp only[js,dn,if_false]
 refine af (qb ho hd ?_)
 refine af ?_
 show wpAny _ _ (forIn #[Value.ref b,Value.int k.2 t] _ _) _ _ s
 rw[<- t7]
 show wpAny _ _ (forIn [Value.ref b,Value.int k.2 t] _ _) _ _ s
 rw[iw]
 refine af (af (aCC hi ?_))
 simp only[js,dn,if_false]
 refine ao ?_
 show wpAny _ _ (forIn [Value.int k.2 t] _ _) _ _ s
 rw[iw,eqIsQuiet_byValue _ (v:=Value.int k.2 t) rfl]
 refine af (af (ao ?_))
 simp only[js,dn,if_false]
 refine ao ?_
 show wpAny _ _ (forIn [] _ _) _ _ s
 rw[kn]
 exact ao (ao h)
def oU (P:Program) (w:World):HeapKind P w (List Int×Int) where
 is:=IsPairKey P w
 hash:=pW P w
 draws:=λk=>k.1.length+3
 room:=λA=>A.units+5<cLine
 inj:=λhx hy=>hx.inj hy
 keeps:=λx ho hd hs=>x.keeps ho hd hs
 pyHash:=λhu hk h=>uA hu hk h
 eqBool:=λhu hx hy h=>uE hu hx hy h
 quiet:=λhk h=>xL hk h
end
abbrev PKy:=List Int×Int
abbrev PEs:=List (PKy×Addr×V)
def aGL (k:PKy):Int:=xn (ei [xn (ei (k.1.map wd)),wd k.2])
abbrev aGE (p:PKy×Addr×V) (q:PKy×Addr×Value):Prop:=p.1=q.1/\p.2.1=q.2.1/\RelV p.2.2 q.2.2
def dpP (a:Addr) (xs:PEs) (ep:Nat) (h:Heap):Prop:=xs.length<=b8/\(a == jj)=false/\∃ys:List (PKy×Addr×Value),Paired aGE xs ys /\
 ∃o es,h.get? a=some o/\o.ExactDict/\o.data = .dict es ep/\es.toList=ys.map (λy=>(⟨aGL y.1, .ref y.2.1,y.2.2⟩:DictEntry))/\(ys.map (·.1)).Nodup
def dpO (a:Addr) (xs:PEs) (ep:Nat):HO := .ext (dpP a xs ep)
def KeyP (H:Hp) (k:PKy) (c:Addr):Prop:=∃b,H c=some (.tup [.ref b, .int k.2])/\H b=some (.tup (k.1.map V.int))
def DP (H:Hp) (a:Addr) (xs:PEs) (ep:Nat):Prop:=H a=some (dpO a xs ep)/\∀x∈xs,KeyP H x.1 x.2.1
section
variable {P:Program}{w:World}{H:Hp}{h:Heap}{a c:Addr}{k:PKy}{xs:PEs}
theorem oA:∀{ns:List Int}{its:List Value},Vals (ns.map V.int) its->ItemsAre (ic P w) ns its
 |[],_, .nil => .nil
 |n :: ns,_, .cons r t=>by
  obtain⟨tk,rfl⟩:=r
  exact .cons (by show Value.isInt n (.int n tk)=true;unfold Value.isInt;exact beq_self_eq_true _) (oA t)
theorem KeyP.is (ok:HOk P w H h)(e:KeyP H k c):(oU P w).is h k c:=by
 obtain⟨b,e1,e2⟩:=e
 obtain⟨_,its,r,o,h1,h2,⟨n,h3⟩,_⟩:=(show ObjOk P w H h c (.tup [.ref b, .int k.2]) from ok c _ e1)
 obtain⟨_,its',r',o',h1',h2',⟨n',h3'⟩,_⟩:=(show ObjOk P w H h b (.tup (k.1.map V.int)) from ok b _ e2)
 obtain⟨u,v,rfl,ru,rv⟩:=r.two
 obtain rfl:u=Value.ref b:=ru
 obtain⟨t,rfl⟩:=rv
 exact⟨o,n,b,t,h1,h2,h3,o',its'.toArray,n',h1',h2',h3',by simpa using oA r'⟩
theorem DP.of {ep:Nat}(ok:HOk P w H h)(e:DP H a xs ep):xs.length<=b8/\(a == jj)=false/\∃ys,Paired aGE xs ys/\h.DictOfH (oU P w) a ys:=by
 obtain⟨z,y,ys,r,o,es,h1,h2,h3,h4,h5⟩:=(show dpP a xs ep h from(ok a _ e.1).1)
 refine⟨z,y,ys,r,o,es,ep,h1,h2,h3,h4,?_,h5⟩
 have all:∀{l:PEs}{m:List (PKy×Addr×Value)},Paired aGE l m->(∀x∈l,KeyP H x.1 x.2.1)->∀x∈m,(oU P w).is h x.1 x.2.1:=by
  intro l m q
  induction q with
  |nil=>intro _ x hx;exact nomatch hx
  | @cons p q ps qs hq t ih=>
   intro hk x hx
   rcases a9.mp hx with e | hx
   ·subst e
    have:=hk p (bp ..)
    rw[hq.1,hq.2.1] at this
    exact this.is ok
   ·exact ih (λx hx=>hk x (ar _ hx)) x hx
 exact all r e.2
end
def aHY (K:aa) (H:Hp) (k:PKy) (c:Addr):Prop:=∃b,SqT K H c [.ref b, .int k.2]/\SqT K H b (k.1.map V.int)
theorem KeyP.q {K:aa}{H:Hp}{k:PKy}{c:Addr}(e:KeyP H k c):aHY K H k c:=let⟨b,h1,h2⟩:=e;⟨b, .of h1, .of h2⟩
section
variable {X:Cx}{o i value:Expr}{pos pos':Pos}{td ty tv:TE}
end
end L2
namespace L2
open PySem PySem.Spec PyProof.Rows
section
variable {prog:Program}{w:World}{A:Around}{E:Value->Shared->Prop}{s:Shared}{d:Addr}{o:Obj}{es:Array DictEntry}{ep:Nat}
end
def OkN (P:Program) (w:World) (K:aa) (mg:Str->Option Value) (base:Heap) (x:Str) (st:Stmt) (k:Nat) (N ps:List Str) (T:TS):Prop:=
 ∀(f:Addr) (fd:FuncData) (sp:Sp),Fun K x x st f fd->(∀vs H Q E,sp vs H Q E->vs.length=ps.length)->(∀vs H Q E,sp vs H Q E->T { nx:=λ_ H'=>Q .non H',rt:=Q } (bZ N vs) H)->FnOk P w K mg base CX0 k f fd ps sp
def OkX (P:Program) (w:World) (K:aa) (mg:Str->Option Value) (base:Heap) (x:Str) (st:Stmt) (k:Nat) (N ps:List Str) (T:XK->TS):Prop:=
 ∀(f:Addr) (fd:FuncData) (sp:Sp),Fun K x x st f fd->(∀vs H Q E,sp vs H Q E->vs.length=ps.length)->(∀vs H Q E,sp vs H Q E->T E { nx:=λ_ H'=>Q .non H',rt:=Q } (bZ N vs) H)->FnOk P w K mg base (tQ P w) k f fd ps sp
inductive FnIn (K:aa) (nm x:Str) (st:Stmt):Prop
 |mk {f:Addr}{od an:Option Addr}{sl:Array (Option Value)}{oc kV dc pm cd ct:Value} (a:et K c9 nm=some (some (.ref f))) (l:K.lookup f=some ⟨oc,od, .func (ja x x (fJ st) (dE st) (bI st) .none kV dc pm an cd ct),sl⟩) (c:ug K cd x=true) (k:mx K (.ref f)=true):FnIn K nm x st
structure ZIn (K:aa):Prop where
 z0:et K c9 "len" = some none
 z1:et K c9 "all" = some none
 z2:et K c9 "min" = some none
 z3:et K c9 "max" = some none
 z4:et K c9 "sum" = some none
 z5:et K c9 "isinstance" = some none
 z6:et K c9 "sorted" = some none
 z7:et K c9 "tuple" = some none
 z8:et K c9 "list" = some none
 z9:et K c9 "range" = some none
 z10:et K c9 "int" = some none
 z11:et K c9 "bool" = some none
 z12:et K c9 "zip" = some none
 z13:et K c9 "repr" = some none
 z14:et K c9 "enumerate" = some none
 z15:et K c9 "reversed" = some none
 z16:et K c9 "str" = some none
 z17:et K c9 "set" = some none
 z18:et K c9 "abs" = some none
def pN (g:Nat->Value):Nat->List Str->List Value
 |_,[]=>[]
 |i,_ :: ps=>g i :: pN g (i+1) ps
theorem vU (g:Nat->Value):∀(ps:List Str) (us:List Value) (i:Nat),us.length=ps.length->(∀j,us.getD j .none=g (i+j))->us=pN g i ps
 |[],us,i,h,_=>n9.mp h
 |p :: ps,[],i,h,_=>by cases h
 |p :: ps,u :: us,i,h,q=>by
  show u :: us=g i :: pN g (i+1) ps
  rw[show g i=u from(q 0).symm,<- vU g ps us (i+1) (Nat.succ.inj h) λj=>by rw[show i+1+j=i+(j+1) by omega,<- q (j+1)];rfl]
section
variable {P:Program}{w:World}{K:aa}{mg:Str->Option Value}{base h:Heap}{x nm:Str}{st:Stmt}{k:Nat}{N ps:List Str}{sp:Sp}
theorem okN {T:TS}(hb:∀(f:Addr) (cdv:Value) (A:Around) (outer:List Env) (s:Shared) (H:Hp) (E:XK),N.Nodup->Room k (A.deeper (wq x (bI st) s.heap.objs.size f cdv))->PSs (tD CX0 P w K mg base N x (bI st) f cdv A outer s H E).nox (dE st) T)
  (S:jH N ps (bI st):=by exact⟨rfl,rfl,rfl,by decide+kernel,rfl,by decide+kernel,by decide+kernel⟩):OkN P w K mg base x st (k+1) N ps T:=
 λf fd sp F len rd=>F.ok S len λcdv A outer s H vs Q E hr h=>⟨_,hb f cdv A outer s H E S.nd hr,rd vs H Q E h⟩
theorem okX {T:XK->TS}(hb:∀(f:Addr) (cdv:Value) (A:Around) (outer:List Env) (s:Shared) (H:Hp) (E:XK),N.Nodup->Room k (A.deeper (wq x (bI st) s.heap.objs.size f cdv))->PSs (tD (tQ P w) P w K mg base N x (bI st) f cdv A outer s H E) (dE st) (T E))
  (S:jH N ps (bI st):=by exact⟨rfl,rfl,rfl,by decide+kernel,rfl,by decide+kernel,by decide+kernel⟩):OkX P w K mg base x st (k+1) N ps T:=
 λf fd sp F len rd=>F.okX S len λcdv A outer s H vs Q E hr h=>⟨_,hb f cdv A outer s H E S.nd hr,rd vs H Q E h⟩
theorem vQ {f:Addr}{fd:FuncData}(F:Fun K x x st f fd)(b:∀(kV doc pm:Value) (an:Option Addr) (cdv ct:Value) (g:Nat->Value),y2 (ja x x (fJ st) (dE st) (bI st) .none kV doc pm an cdv ct) ⟨pN g 0 ps,[]⟩=pure (ps.zip (pN g 0 ps))):Binds K fd ps []:=
 F.binds λkV doc pm an cdv ct us hl=>by rw[vU (λi=>us.getD i .none) ps us 0 hl λj=>by rw[Nat.zero_add]];exact b ..
theorem FnIn.dN {T:TS}(F:FnIn K nm x st)(P:Program)(w:World)(base:Heap)(X:K.In h)(G:h.Ns c9 mg)(o:OkN P w K mg base x st k N ps T)(rd:∀vs H Q E,sp vs H Q E->T { nx:=λ_ H'=>Q .non H',rt:=Q } (bZ N vs) H)
  (len:∀vs H Q E,sp vs H Q E->vs.length=ps.length:=by(intro _ _ _ _ h;first | (cases h;subst_vars;rfl;done) | repeat (first | (obtain⟨rfl,_⟩:=h;rfl) | obtain⟨_,h⟩:=h)))
  (b:∀(kV doc pm:Value) (an:Option Addr) (cdv ct:Value) (g:Nat->Value),y2 (ja x x (fJ st) (dE st) (bI st) .none kV doc pm an cdv ct) ⟨pN g 0 ps,[]⟩=pure (ps.zip (pN g 0 ps)):=by intros;rfl):Def P w K mg base nm k ps sp:=by
 obtain⟨a,l,c,kk⟩:=F
 have F:=zS l c kk
 exact⟨_,_,o _ _ _ F len rd,vf X G a,kk,vQ F b⟩
theorem FnIn.dX {T:XK->TS}(F:FnIn K nm x st)(P:Program)(w:World)(base:Heap)(X:K.In h)(G:h.Ns c9 mg)(o:OkX P w K mg base x st k N ps T)(rd:∀vs H Q E,sp vs H Q E->T E { nx:=λ_ H'=>Q .non H',rt:=Q } (bZ N vs) H)
  (len:∀vs H Q E,sp vs H Q E->vs.length=ps.length:=by(intro _ _ _ _ h;first | (cases h;subst_vars;rfl;done) | repeat (first | (obtain⟨rfl,_⟩:=h;rfl) | obtain⟨_,h⟩:=h)))
  (b:∀(kV doc pm:Value) (an:Option Addr) (cdv ct:Value) (g:Nat->Value),y2 (ja x x (fJ st) (dE st) (bI st) .none kV doc pm an cdv ct) ⟨pN g 0 ps,[]⟩=pure (ps.zip (pN g 0 ps)):=by intros;rfl):DefX P w K mg base nm k ps sp:=by
 obtain⟨a,l,c,kk⟩:=F
 have F:=zS l c kk
 exact⟨_,_,o _ _ _ F len rd,vf X G a,kk,vQ F b⟩
theorem FnIn.law {fa:Addr}{sp:Sp}(F:FnIn K "law" "law" st)(X:K.In h)(G:h.Ns c9 mg)(hfa:mg "law" = some (.ref fa)){T:TS}
  (o:∀base:Heap,OkN P w K mg base "law" st k N ["script"] T) (rd:∀vs H Q E,sp vs H Q E->T { nx:=λ_ H'=>Q .non H',rt:=Q } (bZ N vs) H)
  (len:∀vs H Q E,sp vs H Q E->vs.length=1:=by(intro _ _ _ _ h;first | (cases h;subst_vars;rfl;done) | repeat (first | (obtain⟨rfl,_⟩:=h;rfl) | obtain⟨_,h⟩:=h)))
  (b:∀(kV doc pm:Value) (an:Option Addr) (cdv ct:Value) (v:Value),y2 (ja "law" "law" (fJ st) (dE st) (bI st) .none kV doc pm an cdv ct) ⟨[v],[]⟩=pure [(("script" : Str),v)]:=by intros;rfl) :
  ∃fd:FuncData,(∀(s:Shared) (v:Value),zk s fd ⟨[v],[]⟩ [("script",v)])/\∀base:Heap,K.In base->base.Ns c9 mg->FnOk P w K mg base CX0 k fa fd ["script"] sp:=by
 obtain⟨a,l,c,kk⟩:=F
 have e:=hfa.symm.trans (vf X G a)
 cases e
 exact⟨_,λs v => .of_eq (b ..),λbase _ _=>o base _ _ _ (zS l c kk) len rd⟩
theorem ZIn.blt (Z:ZIn K)(X:K.In h)(G:h.Ns c9 mg):aHE mg:=
 let m {x} (z:et K c9 x=some none):=PySem.W.mg_none_of X G z
 ⟨⟨⟨⟨m Z.z0,m Z.z1,m Z.z2,m Z.z3,m Z.z4,m Z.z5,m Z.z6,m Z.z7,m Z.z8,m Z.z9,m Z.z10,m Z.z11⟩,m Z.z12,m Z.z13,m Z.z14,m Z.z15,m Z.z16⟩,m Z.z17⟩,m Z.z18⟩
end
end L2
namespace L2
open PySem
theorem gC {H H':Hp}{p:Addr}{o:HO}(h:H p=none)(s:Same H H'):Same H (upd H' p o):=λb u e=>by rw[aR (aN e h)];exact s _ _ e
section
variable {K:aa}
end
open PySem.SeqAt
section
variable {X:Cx}
end
end L2
namespace L2
open PySem PySem.W PyProof.Rows
section
variable (r:Nat->Int)
def rlt (i j:Nat):Bool:=decide (r i<r j)
def aZ {α:Type}:KasT α->α
 | .ret a=>a
 | .ask i j k=>aZ (k (rlt r i j))
theorem dF {α β:Type}{f:α->KasT β}:∀t:KasT α,aZ r (t.bind f)=aZ r (f (aZ r t))
 | .ret _=>rfl
 | .ask i j k=>by
  show aZ r ((k (rlt r i j)).bind f)=_
  exact dF (k (rlt r i j))
def Kr (p:Array Nat) (i:Nat):Int:=r (p.getD i 0)
def Srt (p:Array Nat) (n:Nat):Prop:=∀i j,i<=j->j<n->Kr r p i<=Kr r p j
def Dsc (p:Array Nat) (n:Nat):Prop:=∀i j,i<=j->j<n->Kr r p j<=Kr r p i
variable {r}
theorem iA {p q:Array Nat}{i j:Nat}(h:p[i]?=q[j]?):Kr r p i=Kr r q j:=by
 unfold Kr
 rw[c4,c4,h]
theorem aAG {p:Array Nat}{a b:Nat}(h:Kr r p a<Kr r p b):rlt r (p.getD a 0) (p.getD b 0)=true:=decide_eq_true h
theorem zF {p:Array Nat}{a b:Nat}(h:¬ Kr r p a<Kr r p b):¬ rlt r (p.getD a 0) (p.getD b 0)=true:=λe=>h (of_decide_eq_true e)
theorem aDR {p:Array Nat}{i j:Nat}(hj:j<=p.size)(k:Nat):Kr r (qo p i j) k=if i<=k/\k<j then Kr r p (i+j - 1 - k) else Kr r p k:=by
 have:=getElem?_mirror_all (i:=i) hj k
 by_cases c:i<=k/\k<j
 ·rw[if_pos c] at this ⊢;exact iA this
 ·rw[if_neg c] at this ⊢;exact iA this
theorem aGW {p:Array Nat}{src d:Nat}(hs:src<p.size)(hd:d<=src)(k:Nat):Kr r (bubble p src d) k=if k=src - d then Kr r p src else if src - d<k/\k<=src then Kr r p (k - 1) else Kr r p k:=by
 have:=getElem?_bubble hs d hd k
 by_cases c:k=src - d
 ·rw[if_pos c] at this ⊢;exact iA this
 ·rw[if_neg c] at this ⊢
  by_cases e:src - d<k/\k<=src
  ·rw[if_pos e] at this ⊢;exact iA this
  ·rw[if_neg e] at this ⊢;exact iA this
theorem dJ (p:Array Nat)(i j:Nat):(qo p i j).Perm p:=mirror_perm _ _ _ _
theorem tO {p:Array Nat}:∀f n,1<=n->Srt r p n->n<=aZ r (vg p f n)/\aZ r (vg p f n)<=n+f/\Srt r p (aZ r (vg p f n))/\(aZ r (vg p f n)<n+f->Kr r p (aZ r (vg p f n))<Kr r p (aZ r (vg p f n) - 1))
 |0,n,h1,hs=>⟨az _,az _,hs,λh=>absurd h (jo _)⟩
 |f+1,n,h1,hs=>by
  have e:aZ r (vg p (f+1) n)=aZ r (if rlt r (p.getD n 0) (p.getD (n - 1) 0)=true then .ret n else vg p f (n+1)):=rfl
  rw[e]
  by_cases c:Kr r p n<Kr r p (n - 1)
  ·rw[if_pos (aAG c)]
   exact⟨az _,vy _ _,hs,λ_=>c⟩
  ·rw[if_neg (zF c)]
   obtain⟨a1,a2,a3,a4⟩:=tO (p:=p) f (n+1) (by omega) λi j hij hj=>by
    by_cases e1:j=n
    ·subst e1
     by_cases e2:i=j
     ·subst e2;omega
     ·have:=hs i (j - 1) (by omega) (by omega);omega
    ·exact hs i j hij (by omega)
   exact⟨by omega,by omega,a3,λh=>a4 (by omega)⟩
theorem qC {p:Array Nat}{i j:Nat}(hj:j<=p.size)(h:∀k,i<=k->k<j->Kr r p k=Kr r p (j - 1))(k:Nat):Kr r (qo p i j) k=Kr r p k:=by
 rw[aDR hj]
 split
 ·next c=>rw[h _ (by omega) (by omega),h k c.1 c.2]
 ·rfl
theorem kT:∀f (p:Array Nat) n q,1<=n->n+f<=p.size->q<n->Dsc r p n->(∀i,n - (q+1)<=i->i<n->Kr r p i=Kr r p (n - 1))->∀R,R=aZ r (t8 f p n q) ->
  R.1.size=p.size/\R.1.Perm p/\n<=R.2.1/\R.2.1<=n+f/\R.2.2<R.2.1/\Dsc r R.1 R.2.1/\∀i,R.2.1 - (R.2.2+1)<=i->i<R.2.1->Kr r R.1 i=Kr r R.1 (R.2.1 - 1)
 |0,p,n,q,h1,hz,hq,hd,he,R,hR=>by subst hR;exact⟨rfl,og _,az _,az _,hq,hd,he⟩
 |f+1,p,n,q,h1,hz,hq,hd,he,R,hR=>by
  have e:aZ r (t8 (f+1) p n q)=aZ r (if rlt r (p.getD n 0) (p.getD (n - 1) 0)=true then(if q > 0 then t8 f (qo p (n - (q+1)) n) (n+1) 0 else t8 f p (n+1) 0) else .ask (p.getD (n - 1) 0) (p.getD n 0) λd=>if d=true then .ret (p,n,q) else t8 f p (n+1) (q+1)):=rfl
  rw[e] at hR
  by_cases c:Kr r p n<Kr r p (n - 1)
  ·rw[if_pos (aAG c)] at hR
   have hd1:Dsc r p (n+1):=λi j hij hj=>by
    by_cases e1:j=n
    ·subst e1
     by_cases e2:i=j
     ·subst e2;omega
     ·have:=hd i (j - 1) (by omega) (by omega);omega
    ·exact hd i j hij (by omega)
   by_cases c2:q > 0
   ·rw[if_pos c2] at hR
    have kk:=λk=>qC (r:=r) (p:=p) (i:=n - (q+1)) (j:=n) (by omega) he k
    have sz:(qo p (n - (q+1)) n).size=p.size:=yu _ _ _ _
    obtain⟨a1,a2,a3,a4,a5,a6,a7⟩:=kT f (qo p (n - (q+1)) n) (n+1) 0 (by omega) (by rw[sz];omega) (by omega) (λi j hij hj=>by rw[kk,kk];exact hd1 i j hij hj) (λi h2 h3=>by rw[show i=n by omega];rfl) R hR
    exact⟨a1.trans sz,a2.trans (dJ _ _ _),by omega,by omega,a5,a6,a7⟩
   ·rw[if_neg c2] at hR
    obtain⟨a1,a2,a3,a4,a5,a6,a7⟩:=kT f p (n+1) 0 (by omega) (by omega) (by omega) hd1 (λi h2 h3=>by rw[show i=n by omega];rfl) R hR
    exact⟨a1,a2,by omega,by omega,a5,a6,a7⟩
  ·rw[if_neg (zF c)] at hR
   have e2:aZ r (KasT.ask (p.getD (n - 1) 0) (p.getD n 0) λd=>if d=true then .ret (p,n,q) else t8 f p (n+1) (q+1))=aZ r (if rlt r (p.getD (n - 1) 0) (p.getD n 0)=true then .ret (p,n,q) else t8 f p (n+1) (q+1)):=rfl
   rw[e2] at hR
   by_cases d:Kr r p (n - 1)<Kr r p n
   ·rw[if_pos (aAG d)] at hR
    subst hR
    exact⟨rfl,og _,az _,vy _ _,hq,hd,he⟩
   ·rw[if_neg (zF d)] at hR
    obtain⟨a1,a2,a3,a4,a5,a6,a7⟩:=kT f p (n+1) (q+1) (by omega) (by omega) (by omega) (λi j hij hj=>by
     by_cases e1:j=n
     ·subst e1
      by_cases e2:i=j
      ·subst e2;omega
      ·have:=hd i (j - 1) (by omega) (by omega);omega
     ·exact hd i j hij (by omega)) (λi h2 h3=>by
     show Kr r p i=Kr r p n
     by_cases e1:i=n
     ·rw[e1]
     ·have:=he i (by omega) (by omega);omega) R hR
    exact⟨a1,a2,by omega,by omega,a5,a6,a7⟩
def aBN (r:Nat->Int) (nrem n:Nat) (p:Array Nat) (R:Nat×Array Nat):Prop:=R.2.size=p.size/\R.2.Perm p/\n<=R.1/\R.1<=nrem/\Srt r R.2 R.1
theorem qY {n nrem:Nat}{p:Array Nat}(h1:1<=n)(hn:n<=nrem)(hz:nrem<=p.size)(hd:Dsc r p n):aBN r nrem n p (aZ r (Aq n nrem p)):=by
 unfold Aq
 rw[dF]
 have hs:Srt r (qo p 0 n) n:=λi j hij hj=>by
  rw[aDR (by omega),aDR (by omega),if_pos ⟨by omega,by omega⟩,if_pos ⟨by omega,hj⟩]
  exact hd _ _ (by omega) (by omega)
 obtain⟨a1,a2,a3,_⟩:=tO (p:=qo p 0 n) (nrem - n) n h1 hs
 exact⟨yu _ _ _ _,dJ _ _ _,a1,by show aZ r _<=_;omega,a3⟩
theorem kC {n nrem:Nat}{p:Array Nat}(hn:n+1<=nrem)(hz:nrem<=p.size)(hd:Dsc r p (n+1)):aBN r nrem 1 p (aZ r (t9 n nrem p)):=by
 unfold t9
 rw[dF]
 obtain⟨a1,a2,a3,a4,a5,a6,a7⟩:=kT (nrem - (n+1)) p (n+1) 0 (by omega) (by omega) (by omega) hd (λi h2 h3=>by rw[show i=n by omega];rfl) _ rfl
 generalize aZ r (t8 (nrem - (n+1)) p (n+1) 0)=R at a1 a2 a3 a4 a5 a6 a7 ⊢
 by_cases c:R.2.2 > 0
 ·rw[if_pos c]
  have kk:=λk=>qC (r:=r) (p:=R.1) (i:=R.2.1 - (R.2.2+1)) (j:=R.2.1) (by omega) a7 k
  have sz:(qo R.1 (R.2.1 - (R.2.2+1)) R.2.1).size=R.1.size:=yu _ _ _ _
  obtain⟨b1,b2,b3,b4,b5⟩:=qY (r:=r) (n:=R.2.1) (nrem:=nrem) (p:=qo R.1 (R.2.1 - (R.2.2+1)) R.2.1) (by omega) (by omega) (by rw[sz];omega) λi j hij hj=>by rw[kk,kk];exact a6 i j hij hj
  exact⟨b1.trans (sz.trans a1),b2.trans ((dJ _ _ _).trans a2),by omega,b4,b5⟩
 ·rw[if_neg c]
  obtain⟨b1,b2,b3,b4,b5⟩:=qY (r:=r) (n:=R.2.1) (nrem:=nrem) (p:=R.1) (by omega) (by omega) (by omega) a6
  exact⟨b1.trans a1,b2.trans a2,by omega,b4,b5⟩
theorem zR {nrem:Nat}{p:Array Nat}(h1:1<=nrem)(hz:nrem<=p.size):aBN r nrem 1 p (aZ r (zi nrem p)):=by
 unfold zi
 rw[dF]
 obtain⟨a1,a2,a3,a4⟩:=tO (r:=r) (p:=p) (nrem - 1) 1 (az _) λi j hij hj=>by rw[show i=j by omega];omega
 generalize aZ r (vg p (nrem - 1) 1)=n at a1 a2 a3 a4 ⊢
 by_cases c:(n == nrem)=true
 ·rw[if_pos c]
  exact⟨rfl,og _,a1,by show n<=nrem;omega,a3⟩
 ·rw[if_neg c]
  have cn:n≠nrem:=λe=>c (by rw[e];exact beq_self_eq_true _)
  have lt:=a4 (by omega)
  by_cases d:n > 1
  ·rw[if_pos d]
   show aBN r nrem 1 p (aZ r (if rlt r (p.getD 0 0) (p.getD (n - 1) 0)=true then .ret (n,p) else t9 n nrem (qo p 0 n)))
   by_cases e:Kr r p 0<Kr r p (n - 1)
   ·rw[if_pos (aAG e)]
    exact⟨rfl,og _,a1,by show n<=nrem;omega,a3⟩
   ·rw[if_neg (zF e)]
    have eq:∀k,0<=k->k<n->Kr r p k=Kr r p (n - 1):=λk _ hk=>by
     have g1:=a3 0 k (by omega) hk
     have g2:=a3 k (n - 1) (by omega) (by omega)
     omega
    have kk:=λk=>qC (r:=r) (p:=p) (i:=0) (j:=n) (by omega) eq k
    have sz:(qo p 0 n).size=p.size:=yu _ _ _ _
    obtain⟨b1,b2,b3,b4,b5⟩:=kC (r:=r) (n:=n) (nrem:=nrem) (p:=qo p 0 n) (by omega) (by rw[sz];omega) λi j hij hj=>by
     rw[kk,kk]
     by_cases e1:j=n
     ·subst e1
      by_cases e2:i=j
      ·subst e2;omega
      ·have:=eq i (by omega) (by omega);omega
     ·have g1:=eq i (by omega) (by omega)
      have g2:=eq j (by omega) (by omega)
      omega
    exact⟨b1.trans sz,b2.trans (dJ _ _ _),b3,b4,b5⟩
  ·rw[if_neg d]
   refine kC (by omega) hz λi j hij hj=>?_
   have:n=1:=by omega
   subst this
   by_cases e2:i=j
   ·subst e2;omega
   ·rw[show i=0 by omega,show j=1 by omega]
    exact Int.le_of_lt lt
theorem lZ {p:Array Nat}{k:Nat}(hs:Srt r p k):∀f l q,l<=q->q<=k->q - l<=f->(∀i,i<l->Kr r p i<=Kr r p k)->(∀i,q<=i->i<k->Kr r p k<Kr r p i) ->
  ∀m,m=aZ r (ng p k f l q)->m<=k/\(∀i,i<m->Kr r p i<=Kr r p k)/\∀i,m<=i->i<k->Kr r p k<Kr r p i
 |0,l,q,h1,h2,h3,ha,hb,m,hm=>by
  obtain rfl:m=l:=hm
  exact⟨by omega,ha,λi hi hk=>hb i (by omega) hk⟩
 |f+1,l,q,h1,h2,h3,ha,hb,m,hm=>by
  have e:aZ r (ng p k (f+1) l q)=aZ r (if l≥q then .ret l else .ask (p.getD k 0) (p.getD ((l+q) / 2) 0) λc=>if c=true then ng p k f l ((l+q) / 2) else ng p k f ((l+q) / 2+1) q):=rfl
  rw[e] at hm
  by_cases c:l≥q
  ·rw[if_pos c] at hm
   obtain rfl:m=l:=hm
   exact⟨by omega,ha,λi hi hk=>hb i (by omega) hk⟩
  ·rw[if_neg c] at hm
   have e2:aZ r (KasT.ask (p.getD k 0) (p.getD ((l+q) / 2) 0) λc=>if c=true then ng p k f l ((l+q) / 2) else ng p k f ((l+q) / 2+1) q)=aZ r (if rlt r (p.getD k 0) (p.getD ((l+q) / 2) 0)=true then ng p k f l ((l+q) / 2) else ng p k f ((l+q) / 2+1) q):=rfl
   rw[e2] at hm
   by_cases d:Kr r p k<Kr r p ((l+q) / 2)
   ·rw[if_pos (aAG d)] at hm
    exact lZ hs f l ((l+q) / 2) (by omega) (by omega) (by omega) ha (λi hi hk=>by have:=hs ((l+q) / 2) i hi hk;omega) m hm
   ·rw[if_neg (zF d)] at hm
    exact lZ hs f ((l+q) / 2+1) q (by omega) h2 (by omega) (λi hi=>by have:=hs i ((l+q) / 2) (by omega) (by omega);omega) hb m hm
theorem zH:∀f (p:Array Nat) k,k+f<=p.size->Srt r p k->(aZ r (Ar f p k)).Perm p/\(aZ r (Ar f p k)).size=p.size/\Srt r (aZ r (Ar f p k)) (k+f)
 |0,p,k,hz,hs=>⟨og _,rfl,hs⟩
 |f+1,p,k,hz,hs=>by
  have e:aZ r (Ar (f+1) p k)=aZ r (Ar f (bubble p k (k - aZ r (ng p k k 0 k))) (k+1)):=dF (r:=r) _
  rw[e]
  obtain⟨a1,a2,a3⟩:=lZ hs k 0 k (by omega) (by omega) (by omega) (λi hi=>by omega) (λi h1 h2=>by omega) _ rfl
  generalize aZ r (ng p k k 0 k)=l at a1 a2 a3 ⊢
  have sz:(bubble p k (k - l)).size=p.size:=bubble_size _ _ _
  have kb:=λi=>aGW (r:=r) (p:=p) (src:=k) (d:=k - l) (by omega) (by omega) i
  obtain⟨b1,b2,b3⟩:=zH f (bubble p k (k - l)) (k+1) (by rw[sz];omega) λi j hij hj=>by
   rw[kb,kb]
   have g1:∀i,i<l->Kr r p i<=Kr r p k:=a2
   have g2:∀i,l<=i->i<k->Kr r p k<Kr r p i:=a3
   by_cases i1:i=k - (k - l) <;> by_cases j1:j=k - (k - l)
   ·rw[if_pos i1,if_pos j1];omega
   ·rw[if_pos i1,if_neg j1,if_pos ⟨by omega,by omega⟩]
    exact Int.le_of_lt (g2 _ (by omega) (by omega))
   ·rw[if_neg i1,if_pos j1,if_neg (by omega)]
    exact g1 i (by omega)
   ·rw[if_neg i1,if_neg j1]
    by_cases i2:k - (k - l)<i/\i<=k
    ·rw[if_pos i2,if_pos ⟨by omega,by omega⟩]
     exact hs _ _ (by omega) (by omega)
    ·rw[if_neg i2]
     by_cases j2:k - (k - l)<j/\j<=k
     ·rw[if_pos j2]
      exact hs _ _ (by omega) (by omega)
     ·rw[if_neg j2]
      exact hs _ _ hij (by omega)
  exact⟨b1.trans (bubble_perm _ _ _),b2.trans sz,by rw[show k+(f+1)=k+1+f by omega];exact b3⟩
theorem aBt {n:Nat}(h1:1<=n):(aZ r (oh n)).Perm (jd (aj n))/\(aZ r (oh n)).size=n/\Srt r (aZ r (oh n)) n:=by
 unfold oh
 rw[dF]
 have hz:(jd (aj n)).size=n:=by simp
 obtain⟨a1,a2,a3,a4,a5⟩:=zR (r:=r) (nrem:=n) (p:=jd (aj n)) h1 (by omega)
 generalize aZ r (zi n (jd (aj n)))=R at a1 a2 a3 a4 a5 ⊢
 by_cases c:R.1<n
 ·rw[if_pos c]
  obtain⟨b1,b2,b3⟩:=zH (r:=r) (n - max R.1 1) R.2 (max R.1 1) (by omega) (by rw[show max R.1 1=R.1 by omega];exact a5)
  exact⟨b1.trans a2,by omega,by rw[show max R.1 1+(n - max R.1 1)=n by omega] at b3;exact b3⟩
 ·rw[if_neg c]
  exact⟨a2,by show R.2.size=n;omega,by rw[show R.1=n by omega] at a5;exact a5⟩
end
section
variable {N:Nat}
def Bnd (N:Nat) (p:Array Nat):Prop:=∀k,p.getD k 0<N
theorem Bnd.perm {p q:Array Nat}(hN:0<N)(h:Bnd N p)(e:q.Perm p):Bnd N q:=λk=>by
 rw[c4]
 by_cases c:k<q.size
 ·rw[di c]
  have hm:q[k]∈p:=e.mem_iff.mp (Array.getElem_mem c)
  obtain⟨i,hi,e2⟩:=Array.getElem_of_mem hm
  have:=h i
  rw[c4,di hi] at this
  show q[k]<N
  rw[<- e2]
  exact this
 ·rw[gq (by omega)]
  exact hN
def AskP (N:Nat) {α:Type} (P:α->Prop):KasT α->Prop
 | .ret a=>P a
 | .ask i j k=>i<N/\j<N/\∀b,AskP N P (k b)
theorem AskP.bind {α β:Type}{f:α->KasT β}{P:α->Prop}{Q:β->Prop}(hf:∀a,P a->AskP N Q (f a)):∀t:KasT α,AskP N P t->AskP N Q (t.bind f)
 | .ret a,h=>hf a h
 | .ask i j k,h=>⟨h.1,h.2.1,λb=>AskP.bind hf (k b) (h.2.2 b)⟩
theorem AskP.ite {α:Type}{P:α->Prop}{c:Prop}[Decidable c]{t u:KasT α}(h1:c->AskP N P t)(h2:¬ c->AskP N P u):AskP N P (if c then t else u):=by
 by_cases h:c
 ·rw[if_pos h];exact h1 h
 ·rw[if_neg h];exact h2 h
theorem tJ {p:Array Nat}(hb:Bnd N p):∀f n,AskP N (λ_=>True) (vg p f n)
 |0,n=>trivial
 |f+1,n=>⟨hb _,hb _,λb=>AskP.ite (λ_=>trivial) λ_=>tJ hb f (n+1)⟩
theorem kY (hN:0<N):∀f (p:Array Nat) n q,Bnd N p->AskP N (λR=>Bnd N R.1) (t8 f p n q)
 |0,p,n,q,hb=>hb
 |f+1,p,n,q,hb=>⟨hb _,hb _,λb=>AskP.ite (λ_=>AskP.ite (λ_=>kY hN f _ _ _ (hb.perm hN (dJ _ _ _))) λ_=>kY hN f _ _ _ hb) λ_=>⟨hb _,hb _,λd=>AskP.ite (λ_=>hb) λ_=>kY hN f _ _ _ hb⟩⟩
theorem qZ (hN:0<N){n nrem:Nat}{p:Array Nat}(hb:Bnd N p):AskP N (λR:Nat×Array Nat=>Bnd N R.2) (Aq n nrem p):=by
 unfold Aq
 refine AskP.bind (P:=λ_=>True) (λa _=>?_) _ (tJ (hb.perm hN (dJ _ _ _)) _ _)
 exact hb.perm hN (dJ _ _ _)
theorem jY (hN:0<N){n nrem:Nat}{p:Array Nat}(hb:Bnd N p):AskP N (λR:Nat×Array Nat=>Bnd N R.2) (t9 n nrem p):=by
 unfold t9
 refine AskP.bind (λR hR=>?_) _ (kY hN _ _ _ _ hb)
 exact AskP.ite (λ_=>qZ hN (Bnd.perm hN hR (dJ _ _ _))) λ_=>qZ hN hR
theorem aAf (hN:0<N){nrem:Nat}{p:Array Nat}(hb:Bnd N p):AskP N (λR:Nat×Array Nat=>Bnd N R.2) (zi nrem p):=by
 unfold zi
 refine AskP.bind (P:=λ_=>True) (λn _=>?_) _ (tJ hb _ _)
 refine AskP.ite (λ_=>?_) λ_=>AskP.ite (λ_=>⟨hb _,hb _,λc=>AskP.ite (λ_=>?_) λ_=>jY hN (hb.perm hN (dJ _ _ _))⟩) λ_=>jY hN hb
 ·exact hb
 ·exact hb
theorem mP {p:Array Nat}{k:Nat}(hb:Bnd N p):∀f l q,AskP N (λ_=>True) (ng p k f l q)
 |0,l,q=>trivial
 |f+1,l,q=>AskP.ite (λ_=>trivial) λ_=>⟨hb _,hb _,λc=>AskP.ite (λ_=>mP hb f _ _) λ_=>mP hb f _ _⟩
theorem aAz (hN:0<N):∀f (p:Array Nat) k,Bnd N p->AskP N (λ_=>True) (Ar f p k)
 |0,p,k,hb=>trivial
 |f+1,p,k,hb=>AskP.bind (λl _=>aAz hN f _ _ (hb.perm hN (bubble_perm _ _ _))) _ (mP hb _ _ _)
theorem aBx (hN:0<N):AskP N (λ_=>True) (oh N):=by
 have hb:Bnd N (jd (aj N)):=λk=>by
  rw[c4]
  by_cases c:k<N
  ·simp[c]
  ·simp[c,hN]
 unfold oh
 refine AskP.bind (λR hR=>?_) _ (aAf hN hb)
 refine AskP.ite (λ_=>aAz hN _ _ _ hR) λ_=>?_
 exact trivial
theorem aDc {r:Nat->Int}{cmp:Nat->Nat->(Bool->Shared->Prop)->Shared->Prop}{s:Shared}(hc:∀i j C,i<N->j<N->C (rlt r i j) s->cmp i j C s){α:Type}{P:α->Prop}{Q:α->Shared->Prop}:∀t:KasT α,AskP N P t->Q (aZ r t) s->t.kasWp cmp Q s
 | .ret a,_,h=>h
 | .ask i j k,ha,h=>hc i j _ ha.1 ha.2.1 (aDc hc (k (rlt r i j)) (ha.2.2 _) h)
end
theorem qD:∀{a b:List Int},eY a b=false->eY b a=false->a=b
 |[],[],_,_=>rfl
 |[],_ :: _,h,_=>by cases h
 |_ :: _,[],_,h=>by cases h
 |x :: a,y :: b,h1,h2=>by
  rw[eY] at h1 h2
  by_cases e:x=y
  ·subst e
   rw[if_pos rfl] at h1 h2
   rw[qD h1 h2]
  ·rw[if_neg e] at h1
   rw[if_neg (gh e)] at h2
   have g1:=of_decide_eq_false h1
   have g2:=of_decide_eq_false h2
   omega
def xR (R:List (List Int)) (i:Nat):Int:=((R.countP λq=>eY q (R.getD i [])):Nat)
theorem qK {p q:List Int->Bool}:∀{l:List (List Int)},(∀x∈l,p x=true->q x=true)->(∃x∈l,p x=false/\q x=true)->l.countP p<l.countP q
 |[],_,⟨_,h,_⟩=>by cases h
 |a :: l,h,⟨x,hx,h1,h2⟩=>by
  have mono:l.countP p<=l.countP q:=w9 λx hx=>h x (ar _ hx)
  rw[qp,qp]
  rcases a9.mp hx with e | hx
  ·subst e
   rw[h1,h2]
   simp
   omega
  ·have ih:=qK (λx hx=>h x (ar _ hx)) ⟨x,hx,h1,h2⟩
   have ha:=h a (bp ..)
   cases e1:p a with
   |false=>simp;split <;> omega
   |true=>rw[ha e1];simp;omega
theorem tX {R:List (List Int)}{i j:Nat}(hi:i<R.length)(hj:j<R.length):(xR R i<xR R j)↔eY (R.getD i []) (R.getD j [])=true:=by
 have mem:∀k,k<R.length->R.getD k []∈R:=λk hk=>by
  rw[ak,ae hk];exact dg hk
 unfold xR
 constructor
 ·intro h
  cases e:eY (R.getD i []) (R.getD j []) with
  |true=>rfl
  |false=>
   exfalso
   have:R.countP (λq=>eY q (R.getD j []))<=R.countP (λq=>eY q (R.getD i [])):=w9 λx _ hx=>by
    cases e2:eY (R.getD j []) (R.getD i []) with
    |true=>exact gI hx e2
    |false=>rw[qD e e2];exact hx
   omega
 ·intro h
  have:=qK (l:=R) (p:=λq=>eY q (R.getD i [])) (q:=λq=>eY q (R.getD j [])) (λx _ hx=>gI hx h) ⟨_,mem i hi,lE _,h⟩
  omega
def TupsAt (h:Heap) (vs:List Value) (R:List (List Int)):Prop:=vs.length=R.length/\∀(i:Nat) (row:List Int),R[i]?=some row->∃x us,vs[i]?=some (.ref x)/\IsTup h x us.toArray/\IntsAre us row
section
variable {prog:Program}{w:World}{A:Around}{E:Value->Shared->Prop}{s:Shared}
theorem aCQ {fin:Bool}{Q:Bool->Shared->Prop}:∀{us vs:List Value}{ns ms:List Int} (i:Nat),IntsAre us ns->IntsAre vs ms->Q (vT fin (ns.zip ms)) s->KatLex prog w A true fin Q (us.zip vs) i s
 |[],_,_,_,i, .nil,_,h=>by rw[List.zip_nil_left];exact kat_nil (by simpa[vT] using h)
 |_ :: _,[],_,_,i, .cons _ _ _, .nil,h=>by rw[List.zip_nil_right];exact kat_nil (by simpa[vT] using h)
 |_ :: us,_ :: vs,_ :: ns,_ :: ms,i, .cons n t h1, .cons m u h2,h=>by
  rw[tw,vT] at h
  rw[tw]
  refine kat_cons (SeqAt.EqAt.int_int n t m u prog w _ _ ?_)
  by_cases c:n=m
  ·rw[if_pos c] at h
   rw[show(n == m)=true from by rw[c];exact beq_self_eq_true _]
   exact kat_yes (aCQ (i+1) h1 h2 h)
  ·rw[if_neg c] at h
   rw[show(n == m)=false from beq_false_of_ne c]
   refine kat_no ?_
   by_cases z:i=0
   ·subst z
    exact oneLt_int h
   ·rw[show(true && i == 0)=false by simp[z]]
    exact kat_one _ _ (qU h)
theorem aEh {vs:List Value}{R:List (List Int)}(hv:TupsAt s.heap vs R){i j:Nat}{C:Bool->Shared->Prop}(hi:i<R.length)(hj:j<R.length)(h:C (rlt (xR R) i j) s):kas_ask prog w A (tuples' true) vs i j C s:=by
 have at':∀k,k<R.length->∃x us,vs.getD k Value.none = .ref x/\IsTup s.heap x us.toArray/\IntsAre us (R.getD k []):=λk hk=>by
  obtain⟨x,us,e1,e2,e3⟩:=hv.2 k R[k] (ae hk)
  refine⟨x,us,by rw[ak,e1];rfl,e2,?_⟩
  rw[ak,ae hk]
  exact e3
 obtain⟨x,us,e1,⟨ox,a1,_,n1,d1⟩,b1⟩:=at' i hi
 obtain⟨y,vs',e2,⟨oy,a2,_,n2,d2⟩,b2⟩:=at' j hj
 show wpAny (model prog w) A (keyLt' (tuples' true) (vs.getD i Value.none) (vs.getD j Value.none)) C (λ_ _=>False) s
 rw[e1,e2]
 refine kat_lt a1 d1 a2 d2 ?_
 have hl1:us.length=(R.getD i []).length:=IntsAre.len b1
 have hl2:vs'.length=(R.getD j []).length:=IntsAre.len b2
 have e:rlt (xR R) i j=vT (decide (us.toArray.size<vs'.toArray.size)) ((R.getD i []).zip (R.getD j [])):=by
  rw[aw,aw,hl1,hl2,uI]
  unfold rlt
  by_cases c:eY (R.getD i []) (R.getD j [])=true
  ·rw[c];exact decide_eq_true ((tX hi hj).mpr c)
  ·rw[jm _ |>.mp c];exact decide_eq_false λz=>c ((tX hi hj).mp z)
 exact aCQ 0 b1 b2 (by rw[<- e];exact h)
theorem jD {h:Heap}:∀{vs:List Value}{R:List (List Int)},TupsAt h vs R->(∀q∈R,q≠[])->∃fs,KatTups h vs fs/\fs.length=R.length/\∀v∈fs,∃i t,v = .int i t
 |[],[],_,_=>⟨[],trivial,rfl,λ_ z=>by cases z⟩
 |[],_ :: _,hv,_=>by cases hv.1
 |_ :: _,[],hv,_=>by cases hv.1
 |v :: vs,q :: R,hv,hne=>by
  obtain⟨x,us,e1,⟨o,a1,a2,n,a3⟩,b⟩:=hv.2 0 q rfl
  obtain⟨fs,k,l,f⟩:=jD (vs:=vs) (R:=R) ⟨by simpa using hv.1,λi row hr=>hv.2 (i+1) row hr⟩ λq hq=>hne q (ar _ hq)
  obtain rfl:v = .ref x:=by simpa using e1
  cases b with
  |nil=>exact absurd rfl (hne [] (bp ..))
  |cons m t r=>
   exact⟨.int m t :: fs,⟨⟨x,o,_,n,rfl,a1,a2,a3,rfl⟩,k⟩,by simp[l],λv hv'=>by
    rcases a9.mp hv' with e | hv'
    ·exact⟨m,t,e⟩
    ·exact f v hv'⟩
theorem TupsAt.keep {h h':Heap}{vs:List Value}{R:List (List Int)}(hv:TupsAt h vs R)(k:∀x us,IsTup h x us->IsTup h' x us):TupsAt h' vs R:=
 ⟨hv.1,λi row hr=>by obtain⟨x,us,e1,e2,e3⟩:=hv.2 i row hr;exact⟨x,us,e1,k _ _ e2,e3⟩⟩
def Put (R:List (List Int)) (p:Array Nat):Prop:=p.Perm (jd (aj R.length))/\∀i j,i<=j->j<R.length->eY (R.getD (p.getD j 0) []) (R.getD (p.getD i 0) [])=false
theorem pH {a:Addr}{vs:List Value}{n:Nat}{R:List (List Int)}{P:Fin->Shared->Prop}(ho:s.heap.get? a=some (jr "list" vs.toArray n))(hv:TupsAt s.heap vs R)(hne:∀q∈R,q≠[])(h64:vs.length<64)
  (h:∀p,Put R p->P (.done (.ret .none)) { s with heap:=sortedHeap s.heap a vs (jd (p.toList.map λi=>vs.getD i Value.none)) }):wpAny (model prog w) A (Builtin.«list.sort» ⟨[.ref a],[]⟩) P E s:=by
 have ha:=b7 ho
 have hz:vs.length<=b8:=by rw[jt];omega
 obtain⟨e1,ho1⟩:∃e1,(s.heap.update a (ij λ_=>#[])).get? a=some (jr "list" #[] e1):=⟨_,get?_update_seq ho λ_=>#[]⟩
 rw[list_sort_plain]
 refine af (zz ho rfl (af (zg ho rfl ?g1 (by rw[aw];exact hz) (bc _))))
 case g1=>
 refine af (seqEpoch_at ho1 rfl (af (wpAny_newTuple ?g2 (by show vs.length<=_;exact hz))))
 case g2=>
 refine af (qz (ft ?g3) (bc _))
 case g3=>
 obtain⟨h3,eh⟩:∃h3,h3=((s.heap.update a (ij λ_=>(#[]:Array Value))).push (jr "tuple" vs.toArray 0)).push (jr "list" #[] 0):=⟨_,rfl⟩
 show wpAny (model prog w) A _ P E { s with heap:=((s.heap.update a (ij λ_=>#[])).push (jr "tuple" vs.toArray 0)).push (jr "list" #[] 0) }
 rw[<- eh]
 have ho3:h3.get? a=some (jr "list" #[] e1):=by
  rw[eh]
  exact aq _ (aq _ ho1)
 have hv3:TupsAt h3 vs R:=hv.keep λx us ⟨o,b1,b2,b3⟩=>by
  have hx:x≠a:=λe=>by
   subst e
   rw[ho] at b1
   cases b1
   exact absurd (Value.type.inj (show Value.type "list" = Value.type "tuple" from b2)) (by decide)
  refine⟨o,?_,b2,b3⟩
  rw[eh]
  exact aq _ (aq _ (by rw[yv _ _ _ _ hx];exact b1))
 dsimp only
 have fin:∀(p:Array Nat) (st':As),Put R p->p.size=vs.length->arrOf st'=p.map (kas_item (vs.toArray.zip vs.toArray))->failedOf st'=none->wpAny (model prog w) A (do
   let touched:=(<- seqEpoch a) != e1
   Builtin.List.listUpdate (.ref a) λ_=>(arrOf st').map (·.2)
   if let some e:=failedOf st' then rule "list.sort.comparison-raised";throw e
   if touched then rule "list.sort.modified";raiseError "ValueError" "list modified during sort"
   ret .none) P E { s with heap:=h3 }:=λp st' hp hsz har hf=>by
  rw[kat_snds rfl har,hf]
  refine af (seqEpoch_at ho3 rfl (af (zg ho3 rfl ?g4 (bc _) ?g5)))
  case g5=>
   show(jd _).size<=_
   rw[aw,ai,cu];omega
  case g4=>
   simp only[bne_self_eq_false,dn,if_false]
   have:=h p hp
   unfold sortedHeap at this
   rw[<- eh] at this
   exact ao this
 by_cases c:vs.toArray.size<2
 ·rw[if_pos c,if_pos c]
  refine af (ao ?g6)
  case g6=>
  rw[StateT.run_pure]
  refine af (ao ?g7)
  case g7=>
  have e2:(vs.toArray.zip vs.toArray).size=vs.length:=by simp
  refine fin (jd (aj vs.length)) (SortSt.mk' general' (vs.toArray.zip vs.toArray) #[] 7 none) ⟨by rw[hv.1],λi j hij hj=>?_⟩ (by simp) ?_ rfl
  ·have hl:R.length<2:=by rw[<- hv.1];simpa using c
   rw[show i=j by omega]
   exact lE _
  ·have:=kas_range (vs.toArray.zip vs.toArray)
   rw[e2] at this
   exact this.symm
 ·rw[if_neg c,if_neg c]
  have h2:2<=vs.length:=by simpa using c
  obtain⟨fs,k1,k2,k3⟩:=jD hv3 hne
  refine af (kat_kind (s:={ s with heap:=h3 }) (T := .type "int") k1 (by have:=hv.1;omega) (λv hv'=>?g8) (by decide) ?g9)
  case g8=>
   obtain⟨i,t,rfl⟩:=k3 v hv'
   exact Looks.of_pure rfl
  case g9=>
  obtain⟨q1,q2,q3⟩:=aBt (r:=xR R) (n:=vs.length) (by omega)
  refine af (gj (kat_run (ks:=vs) (vs:=vs) (s:={ s with heap:=h3 }) (κ:=tuples' true) (Q:=λst' s'=>s'={ s with heap:=h3 }/\arrOf st'=(aZ (xR R) (oh vs.length)).map (kas_item (vs.toArray.zip vs.toArray))/\failedOf st'=none) (G:=λp' s'=>p'=aZ (xR R) (oh vs.length)/\s'={ s with heap:=h3 }) rfl h2 h64 (λp' st' s' a1 a2 a3 a4=>⟨a4.2,by rw[<- a4.1];exact a2,a3⟩)
   (aDc (N:=vs.length) (r:=xR R) (λi j C hi hj hC=>aEh (s:={ s with heap:=h3 }) hv3 (by rw[<- hv.1];exact hi) (by rw[<- hv.1];exact hj) hC) _ (aBx (by omega)) ⟨rfl,rfl⟩)) ?_ λ_ _ e=>e)
  rintro⟨⟨⟩,st'⟩ s' ⟨rfl,har,hf⟩
  refine fin _ st' ⟨by rw[<- hv.1];exact q1,λi j hij hj=>?_⟩ q2 har hf
  have hle:=q3 i j hij (by rw[hv.1];exact hj)
  have bd:∀k,k<vs.length->(aZ (xR R) (oh vs.length)).getD k 0<R.length:=λk hk=>by
   rw[c4,di (by omega)]
   have:=q1.mem_iff.mp (Array.getElem_mem (show k<(aZ (xR R) (oh vs.length)).size by omega))
   rw[<- hv.1]
   simpa using this
  have hlt:=tX (R:=R) (bd j (by rw[hv.1];exact hj)) (bd i (by rw[hv.1];omega))
  cases z:eY (R.getD ((aZ (xR R) (oh vs.length)).getD j 0) []) (R.getD ((aZ (xR R) (oh vs.length)).getD i 0) []) with
  |false=>rfl
  |true=>
   have:=hlt.mpr z
   unfold Kr at hle
   omega
end
section
variable {prog:Program}{w:World}{A:Around}{E:Value->Shared->Prop}{s:Shared}
theorem xO {l:Addr}{ob:Obj}{n:Nat}{T:String}{us:List Value}{R:List (List Int)}{Q:Value->Shared->Prop}(e0:s.heap.get? l=some ob)(ec:ob.cls = .type T)(eT:T="list"\/T="tuple")(ed:ob.data = .seq us.toArray n)(hv:TupsAt s.heap us R)(hne:∀q∈R,q≠[])(h64:us.length<64)
  (q:∀p,Put R p->Q (.ref (s.heap.objs.size+1)) { s with heap:=sortedAll s.heap us (jd (p.toList.map λi=>us.getD i Value.none)) }):wpAny (model prog w) A (call (.builtin "sorted") [.ref l]) Q E s:=by
 refine mz An Ab Ac (Ad _) ?g1
 case g1=>
 unfold vv
 refine af (m:=checkCount "sorted" 1 1 _) (ao (af (oH e0 ec eT ed (af (qz ?g2)) (bq (gw h64) (by decide)))))
 case g2=>
 obtain⟨h1,eh1⟩:∃h1,h1=(s.heap.push (jr "list" #[] 0)).update s.heap.objs.size (ij (· ++ us.toArray)):=⟨_,rfl⟩
 have z1:h1.objs.size=s.heap.objs.size+1:=by rw[eh1,Heap.size_update,size_push']
 have old:∀x o,s.heap.get? x=some o->(h1.push (jr "list" us.toArray 0)).get? x=some o:=λx o e=>by
  have hx:=b7 e
  refine aq _ ?_
  rw[eh1,yv _ _ _ _ (dt hx)]
  exact aq _ e
 have e2:(h1.push (jr "list" us.toArray 0)).get? (s.heap.objs.size+1)=some (jr "list" us.toArray 0):=by rw[<- z1];exact br _ rfl
 have hv2:TupsAt (h1.push (jr "list" us.toArray 0)) us R:=hv.keep λx vs ⟨o,b1,b2,b3⟩=>⟨o,old x o b1,b2,b3⟩
 show wpAny _ _ _ _ _ { s with heap:=((s.heap.push (jr "list" #[] 0)).update s.heap.objs.size (ij (· ++ us.toArray))).push (jr "list" us.toArray 0) }
 rw[<- eh1,z1]
 refine af (ft (gi ye ⟨_,e2,rfl⟩ wz (pH (s:={ s with heap:=h1.push (jr "list" us.toArray 0) }) e2 hv2 hne h64 λp hp=>⟨_,rfl,ao ⟨_,rfl,?g3⟩⟩) (yf _)))
 case g3=>
  have:=q p hp
  unfold sortedAll at this
  rw[<- eh1] at this
  exact this
end
theorem aCy {R:List (List Int)}{p:Array Nat}(h:Put R p):(p.toList.map λi=>R.getD i []).Perm R/\(p.toList.map λi=>R.getD i []).Pairwise (λa b=>eY b a=false):=by
 have pl:p.toList.Perm (aj R.length):=by simpa using so.mp h.1
 have e:(aj R.length).map (λi=>R.getD i [])=R:=by
  apply List.ext_getElem
  ·simp
  ·intro i h1 h2
   rw[qq,List.getElem_range,ak,ae h2];rfl
 have hl:p.size=R.length:=by rw[<- cu,pl.length_eq,cq]
 refine⟨by have:=pl.map λi=>R.getD i [];rw[e] at this;exact this,?_⟩
 rw[gv]
 intro i j hi hj hij
 rw[ai,cu] at hi hj
 have:=h.2 i j (by omega) (by omega)
 rw[c4,di hj,c4,di hi] at this
 rw[qq,qq,xy,xy]
 exact this
def aAu (K:aa):List V->Hp->VK->Prop:=λvs H Q=>∃(a:Addr) (xs:List V) (R:List (List Int)),vs=[.ref a]/\Sq K H a xs/\Rows K H xs R/\(∀q∈R,q≠[])/\R.length<64 /\
 ∀(ys:List V) (R':List (List Int)),R'.Perm R->R'.Pairwise (λa b=>eY b a=false)->ys.Perm xs->Rows K H ys R'->∀l,H l=none->Q (.ref l) (upd H l (.lst ys))
theorem xP {X:Cx}:CallR X (.builtin "sorted") (aAu X.K):=by
 intro pins s σ H vs us Q I r ⟨a,xs,R,e,hq,hR,hne,h64,q⟩
 subst e
 obtain⟨u,rfl,ru⟩:=pP r
 obtain rfl:u=Value.ref a:=ru
 have go:∀(its:List Value) (ob:Obj) (n:Nat) (T:String),Vals xs its->s.heap.get? a=some ob->ob.cls = .type T->(T="list"\/T="tuple")->ob.data = .seq its.toArray n->wpAny (model X.prog X.w) X.A (call (.builtin "sorted") [.ref a]) (EP X pins σ Q) X.xe s:=by
  intro its ob n T rv e0 ec eT ed
  have hl:=rv.length
  have hv:TupsAt s.heap its R:=⟨by rw[<- hl];exact hR.1,λi row hr=>by
   obtain⟨b,e1,e2⟩:=hR.2 i row hr
   obtain⟨u,eu,rU⟩:=rv.get e1
   obtain rfl:u=Value.ref b:=rU
   obtain⟨vs,rvs,pl,_⟩:=I.tuple e2
   exact⟨b,vs,eu,pl,gF rvs⟩⟩
  refine xO e0 ec eT ed hv hne (by rw[<- hl,hR.1];exact h64) λp hp=>?_
  obtain⟨f1,f2⟩:=aCy hp
  have pl:p.toList.Perm (aj R.length):=by simpa using so.mp hp.1
  have hb:∀i∈p.toList,i<R.length:=λi hi=>bb.mp (pl.mem_iff.mp hi)
  obtain⟨c,he⟩:=sortedAll_at s.heap its (jd (p.toList.map λi=>its.getD i Value.none))
  have ex:(aj R.length).map (λi=>xs.getD i V.non)=xs:=by
   apply List.ext_getElem
   ·simp[hR.1]
   ·intro i h1 h2
    rw[qq,List.getElem_range,ak,ae h2];rfl
  have py:(p.toList.map λi=>xs.getD i V.non).Perm xs:=by have:=pl.map λi=>xs.getD i V.non;rw[ex] at this;exact this
  refine⟨.ref (s.heap.objs.size+1),_,I.laid (t':=s.toks) (o := .lst (p.toList.map λi=>xs.getD i V.non)) (λb ob q=>sortedAll_old q) (nj _) ?_,rfl,q _ _ f1 f2 py ?_ _ (I.hok.fresh (nj _))⟩
  ·refine⟨?_,p.toList.map λi=>its.getD i Value.none,c,?_,by simpa using he⟩
   ·rw[ai,pl.length_eq,cq]
    exact bq (gw h64) (by decide)
   ·have all:∀l:List Nat,(∀i∈l,i<R.length)->Vals (l.map λi=>xs.getD i V.non) (l.map λi=>its.getD i Value.none):=by
     intro l
     induction l with
     |nil=>intro _;exact .nil
     |cons i l ih=>
      intro h
      have hi:i<xs.length:=by rw[hR.1];exact h i (bp ..)
      obtain⟨u,eu,rU⟩:=rv.get (ae hi)
      refine .cons ?_ (ih λj hj=>h j (ar _ hj))
      show RelV (xs.getD i V.non) (its.getD i Value.none)
      rw[ak,ak,eu,ae hi]
      exact rU
    exact all _ hb
  ·refine⟨by rw[ai,ai],λi row hr=>?_⟩
   rw[bg] at hr
   cases ep:p.toList[i]? with
   |none=>rw[ep] at hr;cases hr
   |some k=>
    rw[ep] at hr
    obtain rfl:R.getD k []=row:=bu hr
    have hk:=hb k (a8 ep)
    obtain⟨b,e1,e2⟩:=hR.2 k R[k] (ae hk)
    refine⟨b,?_,?_⟩
    ·rw[bg,ep]
     show some (xs.getD k V.non)=_
     rw[ak,e1];rfl
    ·rw[ak,ae hk];exact e2
 rcases hq with hq | hq
 ·obtain⟨its,rv,pl,hz⟩:=I.list hq
  obtain⟨o,ho,hc,n,hd⟩:=pl.isList
  exact go its o n "list" rv ho hc (.inl rfl) hd
 ·obtain⟨its,rv,pl,hz⟩:=I.tuple hq
  obtain⟨o,ho,hc,n,hd⟩:=pl
  exact go its o n "tuple" rv ho hc (.inr rfl) hd
theorem uH {X:Cx}{K:aa}(hK:X.K=K):CallR X (.builtin "sorted") (aAu K):=by subst hK;exact xP
def jW (K:aa):List V->Hp->VK->Prop:=λvs H Q=>uM K vs H Q\/aAu K vs H Q
theorem dD {X:Cx}{K:aa}(hK:X.K=K):CallR X (.builtin "sorted") (jW K):=λpins s σ H xs us Q I r h=>h.elim (sF hK pins s σ H xs us Q I r) (uH hK pins s σ H xs us Q I r)
end L2
namespace L2
open PySem PyProof.Rows
theorem aBO (r q:List Int):eqD (.tup (r.map Dt.int)) (.tup (q.map Dt.int))=decide (r=q):=by
 by_cases h:r=q
 ·subst h;rw[lB,decide_eq_true rfl]
 ·rw[decide_eq_false h]
  cases e:eqD (.tup (r.map Dt.int)) (.tup (q.map Dt.int)) with
  |false=>rfl
  |true=>rw[eqD] at e;exact absurd (gJ e) h
def aHs (K:aa) (neg:Bool):R2:=λx y H Q=>∃(b p:Addr) (r:List Int) (xs:List V) (R:List (List Int)),x = .ref b/\y = .ref p/\SqT K H b (r.map V.int)/\Sq K H p xs/\Rows K H xs R/\Q (.bl (if neg then !decide (r∈R) else decide (r∈R))) H
section
variable {X:Cx}
theorem kU {pins:List (Addr×Obj)}{σ:St}{H:Hp}{s:Shared}{b:Addr}{r:List Int}{xs:List V}{R:List (List Int)}{its:List Value}(hu:X.A.units+103<cLine)(I:Inv X pins σ H s)(hb:SqT X.K H b (r.map V.int))(hR:Rows X.K H xs R)(rv:Vals xs its) :
  ∃e:Value->Bool,(∀u,u∈its->fe X.A.in1 s u (.ref b) (e u))/\its.any e=decide (r∈R):=by
 classical
 have hl:=rv.length
 have row_of:∀i (hi:i<its.length),∃c,∃hR':i<R.length,its[i] = .ref c/\SqT X.K H c (R[i].map V.int):=λi hi=>by
  have hR':i<R.length:=by rw[<- hR.1,hl];exact hi
  obtain⟨c,e1,e2⟩:=hR.2 i R[i] (ae hR')
  obtain⟨u,eu,rU⟩:=rv.get e1
  rw[ae hi] at eu
  cases eu
  exact⟨c,hR',rU,e2⟩
 refine⟨λu=>decide (∃c,u = .ref c/\SqT X.K H c (r.map V.int)),λu hu'=>?_,?_⟩
 ·obtain⟨i,hi,rfl⟩:=dq hu'
  obtain⟨c,hR',e1,e2⟩:=row_of i hi
  rw[e1]
  have sh:∀(q:List Int) (a:Addr),SqT X.K H a (q.map V.int)->Sh X.K H (.tup (q.map Dt.int)) (.ref a):=λq a h=>⟨a,_,rfl,h,ShL.ints q⟩
  have g:=(I.eq_sh 100 X.A.in1 (.tup (R[i].map Dt.int)) (.tup (r.map Dt.int)) (.ref c) (.ref b) (.ref c) (.ref b) (by rw[dep,pX];decide) (by show X.A.units+1+100<cLine;omega) rfl rfl (sh _ _ e2) (sh _ _ hb)).2
  rw[aBO] at g
  have ee:decide (R[i]=r)=decide (∃c',Value.ref c = .ref c'/\SqT X.K H c' (r.map V.int)):=by
   by_cases h:R[i]=r
   ·rw[decide_eq_true h,decide_eq_true ⟨c,rfl,h ▸ e2⟩]
   ·rw[decide_eq_false h,decide_eq_false]
    rintro⟨c',e,h'⟩
    cases e
    have:=I.tuple_inj e2 h'
    exact h ((om λa b z=>V.int.inj z).mp this)
  show fe X.A.in1 s (Value.ref c) (Value.ref b) (decide (∃c',Value.ref c = .ref c'/\SqT X.K H c' (r.map V.int)))
  rw[<- ee]
  exact g
 ·by_cases h:r∈R
  ·rw[decide_eq_true h]
   obtain⟨i,hi,e⟩:=dq h
   have hi':i<its.length:=by rw[<- hl,hR.1];exact hi
   obtain⟨c,_,e1,e2⟩:=row_of i hi'
   rw[ni]
   exact⟨its[i],dg _,by rw[e1];exact decide_eq_true ⟨c,rfl,e ▸ e2⟩⟩
  ·rw[decide_eq_false h,pg]
   intro u hu'
   obtain⟨i,hi,rfl⟩:=dq hu'
   obtain⟨c,hR',e1,e2⟩:=row_of i hi
   rw[decide_eq_true_iff]
   rintro⟨c',e,h'⟩
   rw[e1] at e
   cases e
   have:=I.tuple_inj e2 h'
   exact h ((om λa b z=>V.int.inj z).mp this ▸ dg hR')
theorem aGk (hu:X.A.units+103<cLine):OpR X (fi .In) (aHs X.K false):=by
 intro pins s σ H x y v u Q I rx ry ⟨b,p,r,xs,R,e1,e2,hb,hq,hR,q⟩
 subst e1 e2
 cases rx
 cases ry
 rcases hq with hq | hq
 ·obtain⟨its,rv,pl,_⟩:=I.list hq
  obtain⟨e,h1,h2⟩:=kU hu I hb hR rv
  refine wt e pl.isList (λw hw=>h1 w (by simpa using hw)) ⟨.bl _,H,I,rfl,?_⟩
  rw[show its.toArray.any e=its.any e by simp,h2]
  exact q
 ·obtain⟨its,rv,pl,_⟩:=I.tuple hq
  obtain⟨e,h1,h2⟩:=kU hu I hb hR rv
  refine vt e pl (λw hw=>h1 w (by simpa using hw)) ⟨.bl _,H,I,rfl,?_⟩
  rw[show its.toArray.any e=its.any e by simp,h2]
  exact q
theorem aAn (hu:X.A.units+103<cLine):OpR X (fi .NotIn) (aHs X.K true):=by
 intro pins s σ H x y v u Q I rx ry ⟨b,p,r,xs,R,e1,e2,hb,hq,hR,q⟩
 subst e1 e2
 cases rx
 cases ry
 rcases hq with hq | hq
 ·obtain⟨its,rv,pl,_⟩:=I.list hq
  obtain⟨e,h1,h2⟩:=kU hu I hb hR rv
  refine tf e pl.isList (λw hw=>h1 w (by simpa using hw)) ⟨.bl _,H,I,rfl,?_⟩
  rw[show its.toArray.any e=its.any e by simp,h2]
  exact q
 ·obtain⟨its,rv,pl,_⟩:=I.tuple hq
  obtain⟨e,h1,h2⟩:=kU hu I hb hR rv
  refine rh e pl (λw hw=>h1 w (by simpa using hw)) ⟨.bl _,H,I,rfl,?_⟩
  rw[show its.toArray.any e=its.any e by simp,h2]
  exact q
end
def aHr (K:aa) (neg:Bool):R2:=λx y H Q=>rIn K neg x y H Q\/aHs K neg x y H Q
theorem aEu {X:Cx}{K:aa}{k:Nat}(hK:X.K=K)(hr:Room k X.A):OpR X (fi .In) (aHr K false):=by
 subst hK
 exact OpR.or aAi (aGk (by have:=hr.un;omega))
theorem wG {X:Cx}{K:aa}{k:Nat}(hK:X.K=K)(hr:Room k X.A):OpR X (fi .NotIn) (aHr K true):=by
 subst hK
 exact OpR.or sK (aAn (by have:=hr.un;omega))
theorem aBg (r q:List Int):eqD (.lst (r.map Dt.int)) (.lst (q.map Dt.int))=decide (r=q):=by
 by_cases h:r=q
 ·subst h;rw[lB,decide_eq_true rfl]
 ·rw[decide_eq_false h]
  cases e:eqD (.lst (r.map Dt.int)) (.lst (q.map Dt.int)) with
  |false=>rfl
  |true=>rw[eqD] at e;exact absurd (gJ e) h
def aDv (K:aa) (H:Hp) (xs:List V) (T:List (List Int)):Prop:=xs.length=T.length/\∀(i:Nat) (row:List Int),T[i]?=some row->∃b,xs[i]?=some (.ref b)/\SqL K H b (row.map V.int)
def aHg (K:aa) (neg:Bool):R2:=λx y H Q=>∃(b p:Addr) (r:List Int) (xs:List V) (R:List (List Int)),x = .ref b/\y = .ref p/\SqL K H b (r.map V.int)/\Sq K H p xs/\aDv K H xs R/\Q (.bl (if neg then !decide (r∈R) else decide (r∈R))) H
section
variable {X:Cx}
theorem iB {pins:List (Addr×Obj)}{σ:St}{H:Hp}{s:Shared}{b:Addr}{r:List Int}{xs:List V}{R:List (List Int)}{its:List Value}(hu:X.A.units+103<cLine)(I:Inv X pins σ H s)(hb:SqL X.K H b (r.map V.int))(hR:aDv X.K H xs R)(rv:Vals xs its) :
  ∃e:Value->Bool,(∀u,u∈its->fe X.A.in1 s u (.ref b) (e u))/\its.any e=decide (r∈R):=by
 classical
 have hl:=rv.length
 have row_of:∀i (hi:i<its.length),∃c,∃hR':i<R.length,its[i] = .ref c/\SqL X.K H c (R[i].map V.int):=λi hi=>by
  have hR':i<R.length:=by rw[<- hR.1,hl];exact hi
  obtain⟨c,e1,e2⟩:=hR.2 i R[i] (ae hR')
  obtain⟨u,eu,rU⟩:=rv.get e1
  rw[ae hi] at eu
  cases eu
  exact⟨c,hR',rU,e2⟩
 refine⟨λu=>decide (∃c,u = .ref c/\SqL X.K H c (r.map V.int)),λu hu'=>?_,?_⟩
 ·obtain⟨i,hi,rfl⟩:=dq hu'
  obtain⟨c,hR',e1,e2⟩:=row_of i hi
  rw[e1]
  have sh:∀(q:List Int) (a:Addr),SqL X.K H a (q.map V.int)->Sh X.K H (.lst (q.map Dt.int)) (.ref a):=λq a h=>⟨a,_,rfl,h,ShL.ints q⟩
  have g:=(I.eq_sh 100 X.A.in1 (.lst (R[i].map Dt.int)) (.lst (r.map Dt.int)) (.ref c) (.ref b) (.ref c) (.ref b) (by rw[dep,pX];decide) (by show X.A.units+1+100<cLine;omega) rfl rfl (sh _ _ e2) (sh _ _ hb)).2
  rw[aBg] at g
  have ee:decide (R[i]=r)=decide (∃c',Value.ref c = .ref c'/\SqL X.K H c' (r.map V.int)):=by
   by_cases h:R[i]=r
   ·rw[decide_eq_true h,decide_eq_true ⟨c,rfl,h ▸ e2⟩]
   ·rw[decide_eq_false h,decide_eq_false]
    rintro⟨c',e,h'⟩
    cases e
    have:=I.list_inj e2 h'
    exact h ((om λa b z=>V.int.inj z).mp this)
  show fe X.A.in1 s (Value.ref c) (Value.ref b) (decide (∃c',Value.ref c = .ref c'/\SqL X.K H c' (r.map V.int)))
  rw[<- ee]
  exact g
 ·by_cases h:r∈R
  ·rw[decide_eq_true h]
   obtain⟨i,hi,e⟩:=dq h
   have hi':i<its.length:=by rw[<- hl,hR.1];exact hi
   obtain⟨c,_,e1,e2⟩:=row_of i hi'
   rw[ni]
   exact⟨its[i],dg _,by rw[e1];exact decide_eq_true ⟨c,rfl,e ▸ e2⟩⟩
  ·rw[decide_eq_false h,pg]
   intro u hu'
   obtain⟨i,hi,rfl⟩:=dq hu'
   obtain⟨c,hR',e1,e2⟩:=row_of i hi
   rw[decide_eq_true_iff]
   rintro⟨c',e,h'⟩
   rw[e1] at e
   cases e
   have:=I.list_inj e2 h'
   exact h ((om λa b z=>V.int.inj z).mp this ▸ dg hR')
theorem aEP (hu:X.A.units+103<cLine):OpR X (fi .In) (aHg X.K false):=by
 intro pins s σ H x y v u Q I rx ry ⟨b,p,r,xs,R,e1,e2,hb,hq,hR,q⟩
 subst e1 e2
 cases rx
 cases ry
 rcases hq with hq | hq
 ·obtain⟨its,rv,pl,_⟩:=I.list hq
  obtain⟨e,h1,h2⟩:=iB hu I hb hR rv
  refine wt e pl.isList (λw hw=>h1 w (by simpa using hw)) ⟨.bl _,H,I,rfl,?_⟩
  rw[show its.toArray.any e=its.any e by simp,h2]
  exact q
 ·obtain⟨its,rv,pl,_⟩:=I.tuple hq
  obtain⟨e,h1,h2⟩:=iB hu I hb hR rv
  refine vt e pl (λw hw=>h1 w (by simpa using hw)) ⟨.bl _,H,I,rfl,?_⟩
  rw[show its.toArray.any e=its.any e by simp,h2]
  exact q
theorem aAV (hu:X.A.units+103<cLine):OpR X (fi .NotIn) (aHg X.K true):=by
 intro pins s σ H x y v u Q I rx ry ⟨b,p,r,xs,R,e1,e2,hb,hq,hR,q⟩
 subst e1 e2
 cases rx
 cases ry
 rcases hq with hq | hq
 ·obtain⟨its,rv,pl,_⟩:=I.list hq
  obtain⟨e,h1,h2⟩:=iB hu I hb hR rv
  refine tf e pl.isList (λw hw=>h1 w (by simpa using hw)) ⟨.bl _,H,I,rfl,?_⟩
  rw[show its.toArray.any e=its.any e by simp,h2]
  exact q
 ·obtain⟨its,rv,pl,_⟩:=I.tuple hq
  obtain⟨e,h1,h2⟩:=iB hu I hb hR rv
  refine rh e pl (λw hw=>h1 w (by simpa using hw)) ⟨.bl _,H,I,rfl,?_⟩
  rw[show its.toArray.any e=its.any e by simp,h2]
  exact q
end
def aEC (K:aa) (neg:Bool):R2:=λx y H Q=>aHr K neg x y H Q\/aHg K neg x y H Q
theorem yI {X:Cx}{K:aa}{k:Nat}(hK:X.K=K)(hr:Room k X.A):OpR X (fi .In) (aEC K false):=OpR.or (aEu hK hr) (by subst hK;exact aEP (by have:=hr.un;omega))
theorem wI {X:Cx}{K:aa}{k:Nat}(hK:X.K=K)(hr:Room k X.A):OpR X (fi .NotIn) (aEC K true):=OpR.or (wG hK hr) (by subst hK;exact aAV (by have:=hr.un;omega))
end L2
namespace L2
open PySem PySem.Spec PyProof.Rows
section
variable {prog:Program}{w:World}{A:Around}{E:Value->Shared->Prop}{s:Shared}{d:Addr}{o:Obj}{es:Array DictEntry}{ep:Nat}
end
section
variable {prog:Program}{w:World}{K:Type}[DecidableEq K]{knd:HeapKind prog w K}{A:Around}{E:Value->Shared->Prop}{s:Shared}{d a:Addr}{xs:List (K×Addr×Value)}{k:K}
end
section
variable {X:Cx}{pins:List (Addr×Obj)}{σ:St}{H:Hp}{s:Shared}{A:Around}{E:Value->Shared->Prop}{a b:Addr}{kvs:List (List Key×V)}{k:List Key}
end
section
variable {X:Cx}{o e f:Expr}{td ty tx:TE}{apos cpos:Pos}
end
section
variable {prog:Program}{w:World}{A:Around}{E:Value->Shared->Prop}{s:Shared}{d:Addr}{o:Obj}{es:Array DictEntry}{ep:Nat}
end
section
variable {prog:Program}{w:World}{A:Around}{E:Value->Shared->Prop}{s:Shared}
end
section
variable {X:Cx}{o i value:Expr}{pos pos':Pos}{td ty tv:TE}
end
section
variable {X:Cx}
def CMulG (i j:Int):Prop:=i.natAbs<2 ^ 8000/\j.natAbs<2 ^ 8000
theorem aAP {k:Int}(h:k.natAbs<2 ^ 8000):nk k<=8000:=by
 unfold nk
 split
 ·exact bc _
 ·rename_i c
  have hk:k.natAbs≠0:=λe=>c (by simp[Int.natAbs_eq_zero.mp e])
  have:=(yq hk).mpr h
  omega
theorem CMulG.ok {i j:Int}(h:CMulG i j):IntMulOk i j:=by
 unfold IntMulOk Builtin.Int.intTooBig
 have h1:=aAP h.1
 have h2:=aAP h.2
 have:¬ (((nk i+nk j:Nat):Int) > (bitsLine:Int)):=by
  have:(16000:Int)<=(bitsLine:Int):=by decide
  omega
 intro e
 rw[du] at e
 have:=of_decide_eq_true e.2
 omega
def iX:R2:=λx y H Q=>match x,y with
 | .int i, .int j=>(CMul i j\/CMulG i j)/\Q (.int (i*j)) H
 | .ref a, .int k=>aHz (.ref a) (.int k) H Q
 |_,_=>False
theorem eS:OpR X (jv .Mult) iX:=by
 intro pins s σ H x y v u Q I rx ry h
 unfold iX at h
 split at h
 ·rcases h with⟨h | h,q⟩
  ·exact aFj (X:=X) pins s σ H _ _ v u Q I rx ry ⟨_,_,rfl,rfl,h,q⟩
  ·exact(opI λ_ _ _ _ _ _ _ hc q=>mul_int q hc.ok:OpR X (jv .Mult) (rI CMulG λi j => .int (i*j))) pins s σ H _ _ v u Q I rx ry ⟨_,_,rfl,rfl,h,q⟩
 ·exact aGe (X:=X) pins s σ H _ _ v u Q I rx ry h
 ·exact h.elim
def aGA (i j:Int):Prop:=0<j/\j.natAbs<2 ^ 8000
abbrev aBD:R2:=rI aGA λi j => .int (i / j)
theorem aBK:OpR X (jv .FloorDiv) aBD:=opI λi j _ _ _ _ _ hc q=>by
 have h1:(0:Int)<j:=hc.1
 refine floordiv_int (by omega) (by rw[Int.fdiv_eq_ediv_of_nonneg i (by omega)];exact q) (.inl (PyProof.noPylong_of_log2 ?_))
 have:=(yq (show j.natAbs≠0 by omega)).mpr hc.2
 omega
end
def aAH:Nat->List (List Nat)
 |0=>[[]]
 |n+1=>aAH n++(aAH n).map (· ++ [n])
def aBH:List (List Nat):=aAH 8
theorem iL:∀(n:Nat) (ks:List Nat),ks.Pairwise (· < ·)->(∀k∈ks,k<n)->ks∈aAH n
 |0,ks,_,h=>by
  cases ks with
  |nil=>exact ay.mpr rfl
  |cons k ks=>exact absurd (h k (bp ..)) (lx _)
 |n+1,ks,hp,h=>by
  rw[aAH,bo,c8]
  rcases xa ks with rfl | ⟨l,x,rfl⟩
  ·exact .inl (iL n [] .nil λk z=>by cases z)
  ·rw[List.concat_eq_append] at hp h ⊢
   have hl:=(ya.mp hp)
   have hx:x<n+1:=h x (cm _ (ay.mpr rfl))
   by_cases c:x=n
   ·subst c
    exact .inr ⟨l,iL _ l hl.1 λk hk=>hl.2.2 k hk _ (ay.mpr rfl),rfl⟩
   ·refine .inl (iL n _ hp λk hk=>?_)
    rcases bo.mp hk with hk | hk
    ·have:=hl.2.2 k hk x (ay.mpr rfl);omega
    ·rw[ay.mp hk];omega
def smT (led:Bool) (ks:List Nat):SetTable:={ mask:=if ks.length<=4 then 7 else 31,place:=ks.toArray,dummies:=#[],finger:=0,led:=led,moves:=if ks.length<=4 then 0 else 1,plain:=true }
def aAm (ks:List Nat) (k:Nat):List Nat:=ks.take (b9 ks.toArray k)++k :: ks.drop (b9 ks.toArray k)
def smP (led:Bool) (ks:List Nat) (k:Nat):SetTable:={ smT led ks with place:=(aAm ks k).toArray }
def aHI (ks:List Nat):Bool:=decide (ks.Pairwise (· < ·)) && ks.all (λk=>decide (k<8)) && decide (ks.length<=8)
def aGn (led:Bool) (ks:List Nat) (k:Nat):Bool:=ks.contains k || (decide ((smT led ks).freeSlot (Int.ofNat k)=some (k,false)) && decide ((smT led ks).put k=(smP led ks k,b9 ks.toArray k)) && (smP led ks k).fits (ks.length+1)
 && aHI (aAm ks k) && decide ((smP led ks k).tooFull=(ks.length == 4)) && (if ks.length=4 then decide ((smP led ks k).relaid ((aAm ks k).map Int.ofNat).toArray (kq 5)=some (smT led (aAm ks k),#[0,1,2,3,4])) else decide (smP led ks k=smT led (aAm ks k))))
theorem aGj:(aBH.all λks=>(aj 8).all λk=>aGn true ks k && aGn false ks k)=true:=by decide+kernel
theorem aHp {led:Bool}{ks:List Nat}(h:ks∈aBH){k:Nat}(hk:k<8)(hn:k∉ks):(smT led ks).freeSlot (Int.ofNat k)=some (k,false)/\(smT led ks).put k=(smP led ks k,b9 ks.toArray k)/\(smP led ks k).fits (ks.length+1)=true/\aAm ks k∈aBH/\(smP led ks k).tooFull=(ks.length == 4) /\
  (ks.length=4->(smP led ks k).relaid ((aAm ks k).map Int.ofNat).toArray (kq 5)=some (smT led (aAm ks k),#[0,1,2,3,4]))/\(ks.length≠4->smP led ks k=smT led (aAm ks k)):=by
 have a:=e7.mp (e7.mp aGj ks h) k (bb.mpr hk)
 have b:aGn led ks k=true:=by
  rw[du] at a
  cases led
  ·exact a.2
  ·exact a.1
 unfold aGn at b
 have c:ks.contains k=false:=by rw[<- jm];intro z;exact hn (List.contains_iff_mem.mp z)
 rw[c,zc] at b
 simp only[du,decide_eq_true_eq] at b
 obtain⟨⟨⟨⟨⟨b1,b2⟩,b3⟩,b4⟩,b5⟩,b6⟩:=b
 refine⟨b1,b2,b3,?_,b5,λz=>?_,λz=>?_⟩
 ·unfold aHI at b4
  simp only[du,decide_eq_true_eq,e7] at b4
  exact iL 8 _ b4.1.1 b4.1.2
 ·rw[if_pos z] at b6;exact of_decide_eq_true b6
 ·rw[if_neg z] at b6;exact of_decide_eq_true b6
theorem oE {α:Type}:∀{l:List α}{i:Nat} (h:i<l.length),([l[i]]++l.eraseIdx i).Perm l
 |x :: l,0,_ => .refl _
 |x :: l,i+1,h=>by
  have h':i<l.length:=by simpa using h
  have:=oE h'
  rw[List.eraseIdx_cons_succ,List.getElem_cons_succ]
  exact(List.Perm.swap _ _ _).trans (List.Perm.cons x this)
theorem aAp {α:Type}(f:Nat->Nat):∀(n k:Nat) (l:List α) (o:Array α),l.length=n->(Ae f n k l o).toList.Perm (o.toList++l)
 |0,_,[],o,_=>by rw[Ae,iu]
 |n+1,k,l,o,h=>by
  have hl:f k % l.length<l.length:=zr _ (by omega)
  rw[Ae,ae hl]
  refine(aAp f n (k+1) _ _ (by rw[List.length_eraseIdx,if_pos hl];omega)).trans ?_
  rw[ph,ez]
  exact qg _ (oE hl)
theorem aAq {α:Type}(f:Nat->Nat)(xs:Array α):(pickOrder f xs).toList.Perm xs.toList:=by
 have:=aAp f xs.size 0 xs.toList #[] (cu ..)
 simpa[pickOrder] using this
def byT (w:World):Bool:=w.params.followText "set-order"
abbrev smO (w:World) (es:Array (Int×Value)) (ep:Nat) (ks:List Nat):Obj:={ cls := .type "set",dict:=none,data := .set es ep (smT (!byT w) ks) }
def SmE (es:Array (Int×Value)) (ks:List Nat):Prop:=ks∈aBH/\es.toList.map (·.1)=ks.map Int.ofNat/\∀e∈es.toList,∃tk,e.2 = .int e.1 tk
section
variable {prog:Program}{w:World}{A:Around}{E:Value->Shared->Prop}{s:Shared}
theorem SmE.put {es:Array (Int×Value)}{ks:List Nat}(h:SmE es ks){k:Nat}(hk:k<8)(hn:k∉ks)(t:Tok):SmE (uw es (b9 ks.toArray k) (Int.ofNat k, .int (Int.ofNat k) t)) (aAm ks k):=by
 refine⟨(aHp (led:=true) h.1 hk hn).2.2.2.1,?_,?_⟩
 ·rw[uy,de,bx,zd,ze,h.2.1]
  unfold aAm
  rw[de,bx,zd,ze]
 ·intro e he
  rw[(wb es _ _).mem_iff,ph,bo,ay] at he
  rcases he with he | rfl
  ·exact h.2.2 e he
  ·exact⟨t,rfl⟩
theorem yK {h:Heap}{a:Addr}{es es':Array (Int×Value)}{ep:Nat}{ks:List Nat}{t t':SetTable}{o:Obj}(ho:h.get? a=some o)(ed:o.data = .set es ep t):(h.update a (Obj.putSet es' t')).get? a=some { o with data := .set es' (ep+1) t' }:=by
 have:=gy (Obj.putSet es' t') ho (by rw[putSet_of es' t' ed];rfl)
 rw[putSet_of es' t' ed] at this
 exact this
end
section
variable {prog:Program}{w:World}{A:Around}{R:vp->Shared->Prop}{I:Addr}{fp wr:List Addr}{G:Array GenState->Array GenState->Prop}{n:Nat}{P:Nat->Value->Prop}{St:Nat->Shared->Prop}
end
section
variable {prog:Program}{w:World}{A:Around}{E:Value->Shared->Prop}{s:Shared}
theorem aGd (a:Value){Q₁:Value->Shared->Prop}(h:Q₁ (.ref s.heap.objs.size) { s with heap:=s.heap.push (smO w #[] 0 []) }) :
  uf (model prog w) A (.call (.builtin "set.__new__") ⟨[.type "set",a],[]⟩) (wants Q₁ E) s:=by
 refine wu ?_
 show wpAny _ A.in1 (do checkBuiltinCall "set.__new__" ⟨[.type "set",a],[]⟩;again (.builtin "set.__new__" ⟨[.type "set",a],[]⟩)) _ _ s
 refine af (vb (F.newCall_set_1 a) (ao ⟨mi F.plain_set_new _,gu F.entry_set_new ?_⟩))
 rw[gp F.plain_set_new _]
 unfold Builtin.«set.__new__» Builtin.Frozenset.newClass
 have hsub:=sub_set_self
 obtain⟨hp,g,d,tk,os⟩:=s
 dsimp only
 wp_walk
 refine ki (ao ?_)
 dsimp only
 simp only[newObj]
 refine af (wpAny_alloc (ao ?_))
 exact ao h
end
theorem mR:Manifest.owners.lookup (String.ofList ['r','o','t','a','r','e','t','i','_','t','e','s'].reverse)=some Manifest.sig_set_iterator:=by kernel_rfl
theorem cB:Slot "set_iterator" "__next__" "set_iterator.__next__":=
 .of (owner:="set_iterator") (n:="__next__") (by rw[typeLookup_type,xc];kernel_rfl) (by decide+kernel) (by decide+kernel) (by decide+kernel)
  (by first | exact .inl (by decide+kernel) | exact .inr (by decide+kernel)) (by rw[yi];kernel_rfl)
theorem fP:entryFor table "set_iterator.__next__" = some Builtin.«set_iterator.__next__»:=entryFor_of_tree (by kernel_rfl)
theorem gD (a:Value):argsOk "set_iterator.__next__" ⟨[a],[]⟩:=by
 unfold argsOk;rw[signature?_of (id:="set_iterator.__next__") (n:=['_','_','t','x','e','n','_','_']) (o:=['r','o','t','a','r','e','t','i','_','t','e','s']) (by kernel_rfl) mR];kernel_rfl
theorem nI:entryFor table "set.__iter__" = some Builtin.«frozenset.__iter__»:=
 entryFor_alias (id':="frozenset.__iter__") (by kernel_rfl) rfl (by decide+kernel) (by kernel_rfl)
def SIt (it a:Addr) (slot i n ep:Nat) (h:Heap):Prop:=∃o,h.get? it=some o/\o.cls = .type "set_iterator"/\o.data = .fields #[k7 slot,k7 i, .ref a,k7 n,k7 ep]
def dZ (w:World) (ks:List Nat):Nat->Nat
 |0=>0
 |i+1=>if byT w then 0 else ks.getD i 0+1
def eW (w:World) (a:Addr) (ep:Nat) (es:Array (Int×Value)):Array (Int×Value):=if byT w then pickOrder (w.params.setOrder a ep) es else es
theorem gT (w:World)(a:Addr)(ep:Nat)(es:Array (Int×Value)):(eW w a ep es).toList.Perm es.toList:=by
 unfold eW
 split
 ·exact aAq _ _
 ·exact .refl _
section
variable {prog:Program}{w:World}{A:Around}{E:Value->Shared->Prop}{s:Shared}{a:Addr}{es:Array (Int×Value)}{ep:Nat}{ks:List Nat}
theorem SIt.step {h:Heap}{it:Addr}{slot i n slot':Nat}(x:SIt it a slot i n ep h):SIt it a slot' (i+1) n ep ((h.update it (vh (·.setIfInBounds 0 (k7 slot')))).update it (vh (·.setIfInBounds 1 (k7 ((i:Int)+1))))):=by
 obtain⟨o,h1,h2,h3⟩:=x
 have d1:=ua h3 (·.setIfInBounds 0 (k7 slot'))
 have g1:=gy (vh (·.setIfInBounds 0 (k7 slot'))) h1 (qj d1)
 have d2:=ua d1 (·.setIfInBounds 1 (k7 ((i:Int)+1)))
 exact⟨_,gy _ g1 (qj d2),(Obj.cls_mapFields ..).trans ((Obj.cls_mapFields ..).trans h2),by rw[d2];simp[k7]⟩
theorem SIt.typeIs {it:Addr}{slot i n:Nat}(x:SIt it a slot i n ep s.heap):s.TypeIs (.ref it) "set_iterator":=let⟨o,h1,h2,_⟩:=x;⟨o,h1,h2⟩
end
end L2
namespace L2
open PySem PySem.Spec PySem.W PyProof.Rows
theorem fY:Slot "set_iterator" "__iter__" "set_iterator.__iter__":=
 .of (owner:="set_iterator") (n:="__iter__") (by rw[typeLookup_type,xc];kernel_rfl) (by decide+kernel) (by decide+kernel) (by decide+kernel)
  (by first | exact .inl (by decide+kernel) | exact .inr (by decide+kernel)) (by rw[yi];kernel_rfl)
theorem kK:entryFor table "set_iterator.__iter__" = some Builtin.«dict_keyiterator.__iter__»:=
 entryFor_alias (id':="dict_keyiterator.__iter__") (by kernel_rfl) rfl (by decide+kernel) (by kernel_rfl)
theorem mQ (a:Value):argsOk "set_iterator.__iter__" ⟨[a],[]⟩:=by
 unfold argsOk;rw[signature?_of (id:="set_iterator.__iter__") (n:=['_','_','r','e','t','i','_','_']) (o:=['r','o','t','a','r','e','t','i','_','t','e','s']) (by kernel_rfl) mR];kernel_rfl
section
variable {prog:Program}{w:World}{A:Around}{E:Value->Shared->Prop}{s:Shared}{a:Addr}{es:Array (Int×Value)}{ep:Nat}{ks:List Nat}
theorem SIt.at {h h':Heap}{it:Addr}{sl i n:Nat}(x:SIt it a sl i n ep h)(e:∀o,h.get? it=some o->h'.get? it=some o):SIt it a sl i n ep h':=let⟨o,ho,r⟩:=x;⟨o,e _ ho,r⟩
theorem aCa {Q:Bool->Shared->Prop}(hT:s.TypeIs (.ref a) "set")(h:Q false s):wpAny (model prog w) A (r8 (.ref a)) Q E s:=by
 unfold r8
 refine af (ll hT PySem.F.slot_set_len.lookup ?_)
 generalize hid:("set.__len__" : String)=id0
 wp_delta
 rw[show splitId id0=some ("set","__len__") from by subst hid;decide+kernel]
 subst hid
 refine af (nh (T:="set") (b:=true) hT (by rw[yi];kernel_rfl) ?_)
 refine wpAny_ite_split (λhab=>absurd hab (by decide)) (λ_=>?_)
 refine wpAny_ite_split (λ_=>?_) (λhab=>absurd (by decide+kernel) hab)
 refine af (sv hT ?_)
 exact ao h
end
section
variable {X:Cx}
def tCl (t:TA):TA:=λσ H Q=>∃R:List V->Hp->Prop,t σ H R/\∀vs H1,R vs H1->Q vs H1
theorem aGH {es:List Expr}{t:TA}(h:PA X es t):PA X es (tCl t):=λpos pins s σ H Q I ⟨R,h1,h2⟩=>thn (h pos pins s σ H R I h1) λus s1 ⟨vs,H1,I1,r,q⟩=>⟨vs,H1,I1,r,h2 vs H1 q⟩
end
end L2
namespace L2
open PySem PySem.Spec PyProof.Rows
theorem DP.at {X:Cx}{pins:List (Addr×Obj)}{σ:St}{H:Hp}{s:Shared}{a:Addr}{xs:PEs}{ep:Nat}(I:Inv X pins σ H s)(d:DP H a xs ep) :
  s.TypeIs (.ref a) "dict"/\(∀b,Value.ref a = .ref b->∃ob,s.heap.get? b=some ob/\ob.dict=none)/\(a == jj)=false:=by
 obtain⟨_,hd,ys,_,dd⟩:=d.of I.hok
 refine⟨dd.typeIs,λb q=>?_,hd⟩
 cases q
 obtain⟨ob,_,_,h1,h2,_⟩:=dd
 exact⟨ob,h1,h2.2.1⟩
section
variable {X:Cx}{o e f:Expr}{apos cpos:Pos}{td ty tx:TE}
end
section
variable {X:Cx}
def tZ (r r' r'':R2) (ta tb tc td:TE):TE:=λσ H Q=>ta σ H λx H1=>tb σ H1 λy H2=>r x y H2 λz H3=>∃k,z = .bl k /\
 (if k=true then tc σ H3 λw' H4=>r' y w' H4 λz2 H5=>∃k2,z2 = .bl k2/\(if k2=true then td σ H5 λu' H6=>r'' w' u' H6 Q else Q (.bl false) H5) else Q (.bl false) H3)
theorem sI {a b c d:Expr}{ta tb tc td:TE}{pos:Pos}{op op' op'':CmpOp}{r r' r'':R2}(ho:OpR X (fi op) r)(ho':OpR X (fi op') r')(ho'':OpR X (fi op'') r'')(ha:PE X a ta)(hb:PE X b tb)(hc:PE X c tc)(hd:PE X d td)
  (hm:lastMarks [op,op',op''] [b,c,d]=false:=by with_unfolding_all rfl):PE X (.Compare a [op,op',op''] [b,c,d] pos) (tZ r r' r'' ta tb tc td):=by
 intro pins s σ H Q I h
 refine Compare_chain (thn (ha pins s σ H _ I h) λv s1 ⟨x,H1,I1,r1,q1⟩=>chain_link (thn (hb pins s1 σ H1 _ I1 q1) λu s2 ⟨y,H2,I2,r2,q2⟩=>
  thn (ho pins s2 σ H2 x y v u _ I2 r1 r2 q2) λd s3 ⟨z,H3,I3,r3,k,e,q3⟩=>?_)) hm
 subst e
 cases r3
 refine f9 ?_
 cases k with
 |false=>exact ite_ff ⟨.bl false,H3,I3,rfl,q3⟩
 |true=>
  refine ite_tt (chain_link (thn (hc pins s3 σ H3 _ I3 q3) λw' s4 ⟨z',H4,I4,r4,q4⟩=>thn (ho' pins s4 σ H4 y z' u w' _ I4 r2 r4 q4) λd' s5 ⟨z2,H5,I5,r5,k2,e2,q5⟩=>?_))
  subst e2
  cases r5
  refine f9 ?_
  cases k2 with
  |false=>exact ite_ff ⟨.bl false,H5,I5,rfl,q5⟩
  |true=>exact ite_tt (chain_last (thn (hd pins s5 σ H5 _ I5 q5) λw2 s6 ⟨z3,H6,I6,r6,q6⟩=>ho'' pins s6 σ H6 z' z3 w' w2 Q I6 r4 r6 q6))
def aGX:List V->Hp->VK->Prop:=λxs H Q=>∃a kvs,xs=[V.ref a]/\H a=some (.dK kvs)/\Q (.int kvs.length) H
end
open PySem.SeqAt PySem.MeetsSeq3
section
variable {A:Around}{s:Shared}{l b:Addr}{us vs:List Value}{R S:List (List Int)}
end
open PySem.SeqAt PySem.MeetsSeq
open AutoSeq1 (wpAny_loadPart')
section
variable {X:Cx}
end
end L2
namespace L2
open PySem
section
variable {X:Cx}
end
end L2
namespace L2
open PySem PySem.Spec PyProof.Rows
section
variable {X:Cx}
def aED (i:Int):Str:=qe (ve i)
theorem aDi:dw "str" = some (.type "str"):=by decide+kernel
def xE:List V->Hp->VK->Prop:=λvs H Q=>∃i:Int,vs=[.int i]/\i.natAbs<10 ^ 40/\Q (.str (aED i)) H
theorem sA:CallR X (.type "str") xE:=by
 intro pins s σ H xs us Q I r ⟨i,e,hi,q⟩
 subst e
 obtain⟨u,rfl,t,rfl⟩:=pP r
 refine P.str_of_int ?_ ⟨.str (aED i),H,I.tok _,⟨_,rfl⟩,q⟩
 by_cases h0:i.natAbs=0
 ·rw[h0];decide
 ·exact(yq h0).mpr (qf hi aCH)
end
section
variable {X:Cx}
end
end L2
namespace L2
open PySem PySem.W PyProof.Rows
open PySem.SeqAt
section
variable {prog:Program}{w:World}{A:Around}{E:Value->Shared->Prop}{s:Shared}
end
section
variable {X:Cx}
end
section
variable {X:Cx}{a b c d:Expr}{ta tb tc td:TE}{pos:Pos}
end
end L2
namespace L2
open PySem PySem.Spec PyProof.Rows
section
variable {M:Model}{A:Around}{E:Value->Shared->Prop}{s:Shared}
end
section
variable {X:Cx}{pins:List (Addr×Obj)}{σ:St}{H:Hp}{s:Shared}{E:XK}{a:Addr}{cls a0:Value}{B h2:Heap}
end
section
variable {P:Program}{w:World}{K:aa}{mg:Str->Option Value}{base:Heap}{N:List Str}{qual:Str}{scope:Scope}{f:Addr}{cd:Value}{A:Around}{outer:List Env}{s₀:Shared}{H₀:Hp}{E:XK}
end
section
variable {X:Cx}
end
section
variable {X:Cx}{elt target iter:Expr}{ifs:List Expr}{rest:List Comprehension}{scope:Scope}{pos:Pos}{N':List Str}{ix:List (Option Nat)}{wi:TI}{g:TG}{ts:List TT}{tb:Addr->TS}{E:XK}
end
section
variable {prog:Program}{w:World}{A:Around}{E:Value->Shared->Prop}{s:Shared}
end
section
variable {prog:Program}{w:World}{A:Around}{s:Shared}{R:vp->Shared->Prop}
end
section
variable {prog:Program}{w:World}{A:Around}{E:Value->Shared->Prop}{s:Shared}
end
section
variable {X:Cx}{pins:List (Addr×Obj)}{σ:St}{H H2:Hp}{s:Shared}{h':Heap}
end
section
variable {prog:Program}{w:World}{A:Around}{R:vp->Shared->Prop}{It:Addr}{fp wr:List Addr}{n:Nat}{P:Nat->Value->Prop}{St:Nat->Heap->Prop}
end
section
variable {prog:Program}{w:World}{A:Around}{E:Value->Shared->Prop}{s:Shared}
end
theorem oN {pl:List Nat}(ris:pl.Pairwise (· < ·)){i m x y:Nat}(h:i<m)(hx:pl[i]?=some x)(hy:pl[m]?=some y):x<y:=by
 obtain⟨h1,rfl⟩:=ah.mp hx
 obtain⟨h2,rfl⟩:=ah.mp hy
 exact gv.mp ris i m h1 h2 h
theorem tM {pl:List Nat}{j:Nat}(ris:pl.Pairwise (· < ·)):∀(f lo hi:Nat),hi<=pl.length->lo<=hi->hi - lo<=f->(∀i x,i<lo->pl[i]?=some x->x<j)->(∀i x,hi<=i->pl[i]?=some x->j<=x) ->
  mj pl.toArray j f lo hi<=pl.length/\(∀i x,i<mj pl.toArray j f lo hi->pl[i]?=some x->x<j)/\∀i x,mj pl.toArray j f lo hi<=i->pl[i]?=some x->j<=x
 |0,lo,hi,h1,h2,h3,h4,h5=>by
  have e:lo=hi:=by omega
  subst e
  rw[mj]
  exact⟨h1,h4,h5⟩
 |f+1,lo,hi,h1,h2,h3,h4,h5=>by
  rw[mj]
  by_cases c:lo<hi
  ·rw[if_pos c]
   have hm:(lo+hi) / 2<pl.length:=by omega
   have em:pl[(lo+hi) / 2]?=some pl[(lo+hi) / 2]:=ae hm
   have eg:pl.toArray.getD ((lo+hi) / 2) j=pl[(lo+hi) / 2]:=by
    rw[c4,l5,em];rfl
   dsimp only
   rw[eg]
   by_cases d:pl[(lo+hi) / 2]<j
   ·rw[if_pos d]
    refine tM ris f _ hi h1 (by omega) (by omega) (λi x hi' hx=>?_) h5
    by_cases q:i=(lo+hi) / 2
    ·subst q;rw[em] at hx;cases hx;exact d
    ·have:=oN ris (show i<(lo+hi) / 2 by omega) hx em;omega
   ·rw[if_neg d]
    refine tM ris f lo _ (by omega) (by omega) (by omega) h4 λi x hi' hx=>?_
    by_cases q:i=(lo+hi) / 2
    ·subst q;rw[em] at hx;cases hx;omega
    ·have:=oN ris (show(lo+hi) / 2<i by omega) em hx;omega
  ·rw[if_neg c]
   have e:lo=hi:=by omega
   subst e
   exact⟨h1,h4,h5⟩
theorem eV {pl:List Nat}(ris:pl.Pairwise (· < ·))(j:Nat):b9 pl.toArray j<=pl.length/\(∀i x,i<b9 pl.toArray j->pl[i]?=some x->x<j)/\∀i x,b9 pl.toArray j<=i->pl[i]?=some x->j<=x:=by
 unfold b9
 refine tM ris _ 0 _ (by simp) (bc _) (by simp) (λi x h=>absurd h (lx _)) λi x h hx=>?_
 have:i<pl.length:=(ah.mp hx).1
 have:pl.toArray.size=pl.length:=by simp
 omega
theorem aCA {pl:List Nat}(ris:pl.Pairwise (· < ·)){i j:Nat}(h:pl[i]?=some j):b9 pl.toArray j=i:=by
 obtain⟨b1,b2,b3⟩:=eV ris j
 rcases j5 (b9 pl.toArray j) i with c | c | c
 ·have hl:b9 pl.toArray j<pl.length:=qf c (ah.mp h).1
  have e:=ae hl
  have:=b3 _ _ (az _) e
  have:=oN ris c e h
  omega
 ·exact c
 ·have:=b2 i j c h;omega
theorem wN {pl:List Nat}(ris:pl.Pairwise (· < ·)){i j:Nat}(h:pl[i]?=some j):b9 pl.toArray (j+1)=i+1:=by
 obtain⟨b1,b2,b3⟩:=eV ris (j+1)
 have hi:=(ah.mp h).1
 rcases j5 (b9 pl.toArray (j+1)) (i+1) with c | c | c
 ·have:=b3 i j (by omega) h;omega
 ·exact c
 ·have hl:i+1<pl.length:=by omega
  have e:=ae hl
  have:=b2 _ _ c e
  have:=oN ris (jk i) h e
  omega
theorem xJ {pl:List Nat}(ris:pl.Pairwise (· < ·)):b9 pl.toArray 0=0:=by
 obtain⟨b1,b2,b3⟩:=eV ris 0
 refine c6 λc=>?_
 have hl:0<pl.length:=by omega
 have:=b2 0 _ (by omega) (ae hl)
 omega
section
variable {t:SetTable}{pl:List Nat}
theorem slot_in (hp:t.place=pl.toArray)(ris:pl.Pairwise (· < ·)){i j:Nat}(h:pl[i]?=some j):t.slot j = .live i:=by
 unfold SetTable.slot
 rw[hp]
 dsimp only
 rw[aCA ris h,l5,h,if_pos (by simp)]
theorem aBr (hp:t.place=pl.toArray)(hd:t.dummies=#[]){j:Nat}(h:j∉pl):t.slot j = .empty:=by
 unfold SetTable.slot
 rw[hp,hd]
 dsimp only
 have e1:(pl.toArray[b9 pl.toArray j]? == some j)=false:=by
  rw[<- jm]
  intro z
  have:=rg z
  rw[l5] at this
  exact h (a8 this)
 have e2:xf #[] j=false:=by
  unfold xf
  rw[<- jm]
  intro z
  have:=rg z
  simp at this
 rw[e1,e2]
 rfl
end
def rnL (mask i:Nat):List Nat:=(aj (fz mask i+1 - i)).map (i + ·)
def tE (mask:Nat):Nat->Nat->Nat->List Nat
 |0,_,_=>[]
 |f+1,i,p=>rnL mask i++tE mask f (dv mask i p).1 (dv mask i p).2
inductive Fut (mask:Nat):SetTable.Probe->List Nat->Prop
 |nil (p):Fut mask p []
 |one (p) (x:Nat) (e:p.j=x):Fut mask p [x]
 |more (p:SetTable.Probe) (x:Nat) (L:List Nat) (e:p.j=x) (h0:0<p.more) (h:Fut mask { p with j:=p.j+1,more:=p.more - 1 } L):Fut mask p (x :: L)
 |leap (p:SetTable.Probe) (x:Nat) (L:List Nat) (e:p.j=x) (h0:p.more=0) (h:Fut mask { p with j:=(dv mask p.i p.perturb).1,more:=fz mask (dv mask p.i p.perturb).1 - (dv mask p.i p.perturb).1,i:=(dv mask p.i p.perturb).1,perturb:=(dv mask p.i p.perturb).2 } L):Fut mask p (x :: L)
theorem zZ {mask i pt:Nat}{L:List Nat}(h:Fut mask { j:=(dv mask i pt).1,more:=fz mask (dv mask i pt).1 - (dv mask i pt).1,i:=(dv mask i pt).1,perturb:=(dv mask i pt).2,dummy:=none } L) :
  ∀(m j:Nat),Fut mask { j:=j,more:=m,i:=i,perturb:=pt,dummy:=none } ((aj (m+1)).map (j + ·)++L)
 |0,j=>by
  show Fut mask _ ((j+0) :: L)
  exact .leap _ _ _ rfl rfl h
 |m+1,j=>by
  have e:(aj (m+1+1)).map (j + ·)=j :: (aj (m+1)).map (j+1 + ·):=by
   rw[jh,bx,jc]
   congr 1
   exact kd λx _=>by show j+(x+1)=j+1+x;omega
  rw[e]
  exact .more _ _ _ rfl (xg _) (zZ h m (j+1))
theorem rW {mask i:Nat}:i<=fz mask i:=by unfold fz;split <;> omega
theorem vE {mask:Nat}:∀(f i pt:Nat),Fut mask { j:=i,more:=fz mask i - i,i:=i,perturb:=pt,dummy:=none } (tE mask f i pt)
 |0,i,pt => .nil _
 |f+1,i,pt=>by
  have:=zZ (vE f (dv mask i pt).1 (dv mask i pt).2) (fz mask i - i) i
  show Fut mask _ ((aj (fz mask i+1 - i)).map (i + ·)++_)
  have e:fz mask i+1 - i=fz mask i - i+1:=by have:=rW (mask:=mask) (i:=i);omega
  rw[e]
  exact this
theorem aCT {t:SetTable}{pl:List Nat}(hp:t.place=pl.toArray)(hd:t.dummies=#[])(ris:pl.Pairwise (· < ·))(hs:Nat->Int)(h:Int):∀(L:List Nat) (f:Nat) (p:SetTable.Probe),Fut t.mask p L->p.dummy=none->L.length<=f->(∃x∈L,x∉pl) ->
  (∃L1 x L2,L=L1++x :: L2/\(∀y∈L1,y∈pl)/\x∉pl/\(∀i y,y∈L1->pl[i]?=some y->hs i≠h)/\pq t hs h f p=some (.empty x none)) \/
  (∃L1 x L2 i nx,L=L1++x :: L2/\(∀y∈L1,y∈pl)/\pl[i]?=some x/\hs i=h/\pq t hs h f p=some (.candidate x i nx))
 |[],f,p,_,_,_,⟨_,z,_⟩=>by cases z
 |x :: L,0,p,_,_,hl,_=>by simp at hl
 |x :: L,f+1,p,fu,pd,hl,⟨y,hy,hn⟩=>by
  have ej:p.j=x:=by cases fu <;> assumption
  rw[pq]
  by_cases hx:x∈pl
  ·obtain⟨i,hi⟩:=fq.mp hx
   rw[ej,slot_in hp ris hi]
   dsimp only
   by_cases c:hs i=h
   ·rw[if_pos (by simp[c])]
    exact .inr ⟨[],x,L,i,_,rfl,by simp,hi,c,rfl⟩
   ·rw[if_neg (by simp[c])]
    have hy:y∈L:=(a9.mp hy).resolve_left λe=>hn (e ▸ hx)
    have step:Fut t.mask (t.advance p) L/\(t.advance p).dummy=none:=by
     unfold SetTable.advance
     cases fu with
     |one=>cases hy
     |more _ _ _ _ h0 fu=>rw[if_pos h0];exact⟨fu,pd⟩
     |leap _ _ _ _ h0 fu=>rw[if_neg (by omega)];exact⟨fu,pd⟩
    have hl':L.length<=f:=by simpa using hl
    rcases aCT hp hd ris hs h L f _ step.1 step.2 hl' ⟨y,hy,hn⟩ with⟨L1,z,L2,e,q1,q2,q3,q4⟩ | ⟨L1,z,L2,k,nx,e,q1,q2,q3,q4⟩
    ·refine .inl ⟨x :: L1,z,L2,by rw[e];rfl,λv hv=>?_,q2,λi' v hv hi'=>?_,q4⟩
     ·rcases a9.mp hv with rfl | hv
      ·exact hx
      ·exact q1 v hv
     ·rcases a9.mp hv with rfl | hv
      ·have:i'=i:=by
        rcases j5 i' i with q | q | q
        ·have:=oN ris q hi' hi;omega
        ·exact q
        ·have:=oN ris q hi hi';omega
       rw[this];exact c
      ·exact q3 i' v hv hi'
    ·refine .inr ⟨x :: L1,z,L2,k,nx,by rw[e];rfl,λv hv=>?_,q2,q3,q4⟩
     rcases a9.mp hv with rfl | hv
     ·exact hx
     ·exact q1 v hv
  ·rw[ej,aBr hp hd hx]
   dsimp only
   rw[pd]
   exact .inl ⟨[],x,L,rfl,by simp,hx,by simp,rfl⟩
def hT (k:List Int):Int:=xn (ei (k.map wd))
def K28:List (List Int):=(aj 8).flatMap λ(i:Nat)=>(aj i).map λ(j:Nat)=>[(j:Int),(i:Int)]
def nR (mask:Nat):Nat:=if mask=7 then 14 else if mask=31 then 10 else 6
def SL (mask:Nat) (h:Int):List Nat:=tE mask (nR mask) (gm h % (mask+1)) (gm h)
theorem aDl {α:Type}[DecidableEq α]:∀(L M:List α),L.Nodup->(∀x∈L,x∈M)->L.length<=M.length
 |[],M,_,_=>bc _
 |x :: L,M,nd,h=>by
  have nd':=dk.mp nd
  have hx:=h x (bp ..)
  have:=aDl L (M.erase x) nd'.2 λy hy=>(qv (λ(e:y=x)=>nd'.1 (by rw[<- e];exact hy))).mpr (h y (ar _ hy))
  rw[i4 hx] at this
  have:0<M.length:=ou hx
  rw[ba]
  omega
def M3 (mask:Nat):Prop:=mask=7\/mask=31\/mask=127
def Rch (mask:Nat) (pl:List Nat) (h:Int) (j:Nat):Prop:=∃L1 L2,SL mask h=L1++j :: L2/\∀x∈L1,x∈pl
theorem Rch.mono {mask:Nat}{pl pl':List Nat}{h:Int}{j:Nat}(r:Rch mask pl h j)(s:∀x∈pl,x∈pl'):Rch mask pl' h j:=
 let⟨L1,L2,e,q⟩:=r;⟨L1,L2,e,λx hx=>s x (q x hx)⟩
abbrev Us:=List (List Int×Addr)
structure Ptb (mask:Nat)(pl:List Nat)(us:Us):Prop where
 m:M3 mask
 len:pl.length=us.length
 ris:pl.Pairwise (· < ·)
 nd:(us.map (·.1)).Nodup
 mem:∀u∈us,u.1∈K28
 rch:∀(i:Nat) (u:List Int×Addr) (j:Nat),us[i]?=some u->pl[i]?=some j->Rch mask pl (hT u.1) j
section
variable {t:SetTable}{pl:List Nat}{us:Us}{k:List Int}
end
def wV {α:Type} (l:List α) (p:Nat) (x:α):List α:=l.take p++x :: l.drop p
theorem lT {α:Type}(l:List α)(p:Nat)(x:α):(wV l p x).Perm (x :: l):=by
 unfold wV
 refine vw.trans ?_
 rw[l9]
theorem qB {α:Type}{l:List α}{p i:Nat}{x y:α}(hp:p<=l.length)(h:(wV l p x)[i]?=some y):(i<p/\l[i]?=some y)\/(i=p/\y=x)\/(p<i/\l[i - 1]?=some y):=by
 unfold wV at h
 have lt:(l.take p).length=p:=by rw[fg];omega
 rcases j5 i p with c | c | c
 ·rw[bh (by omega),nv c] at h
  exact .inl ⟨c,h⟩
 ·rw[bj (by omega),lt,c,j8] at h
  exact .inr (.inl ⟨c,(bu h).symm⟩)
 ·rw[bj (by omega),lt] at h
  obtain⟨m,hm⟩:∃m,i - p=m+1:=⟨i - p - 1,by omega⟩
  rw[hm,List.getElem?_cons_succ,ub] at h
  exact .inr (.inr ⟨c,by rw[show i - 1=p+m by omega];exact h⟩)
theorem wC {pl:List Nat}(ris:pl.Pairwise (· < ·)){j:Nat}(hj:j∉pl):(wV pl (b9 pl.toArray j) j).Pairwise (· < ·):=by
 obtain⟨b1,b2,b3⟩:=eV ris j
 have f1:∀x∈pl.take (b9 pl.toArray j),x<j:=λx hx=>by
  obtain⟨i,hi⟩:=fq.mp hx
  have hl:=(ah.mp hi).1
  rw[fg] at hl
  rw[nv (by omega)] at hi
  exact b2 i x (by omega) hi
 have f2:∀x∈pl.drop (b9 pl.toArray j),j<x:=λx hx=>by
  obtain⟨i,hi⟩:=fq.mp hx
  rw[ub] at hi
  have:=b3 _ x (vy _ _) hi
  have:x≠j:=λe=>hj (e ▸ a8 hi)
  omega
 unfold wV
 refine ya.mpr ⟨ris.take,tm.mpr ⟨f2,ris.drop⟩,λx hx y hy=>?_⟩
 have:=f1 x hx
 rcases a9.mp hy with rfl | hy
 ·exact this
 ·have:=f2 y hy;omega
section
variable {mask:Nat}{pl:List Nat}{us:Us}{k:List Int}
theorem Ptb.put (P:Ptb mask pl us){k:List Int}{a:Addr}(hK:k∈K28)(hk:k∉us.map (·.1)){j:Nat}(hj:j∉pl)(hr:Rch mask pl (hT k) j):Ptb mask (wV pl (b9 pl.toArray j) j) (wV us (b9 pl.toArray j) (k,a)):=by
 obtain⟨b1,_,_⟩:=eV P.ris j
 have pp:=lT pl (b9 pl.toArray j) j
 have pu:=lT us (b9 pl.toArray j) (k,a)
 have sub:∀x∈pl,x∈wV pl (b9 pl.toArray j) j:=λx hx=>pp.mem_iff.mpr (ar _ hx)
 refine⟨P.m,by rw[pp.length_eq,pu.length_eq,ba,ba,P.len],wC P.ris hj,?_,λu hu=>?_,λi u x hu hx=>?_⟩
 ·refine(pu.map (·.1)).nodup_iff.mpr ?_
  exact dk.mpr ⟨hk,P.nd⟩
 ·rcases a9.mp (pu.mem_iff.mp hu) with rfl | hu
  ·exact hK
  ·exact P.mem u hu
 ·rcases qB (by rw[<- P.len];exact b1) hu with⟨c,h1⟩ | ⟨c,h1⟩ | ⟨c,h1⟩
  ·rcases qB b1 hx with⟨d,h2⟩ | ⟨d,h2⟩ | ⟨d,h2⟩
   ·exact(P.rch i u x h1 h2).mono sub
   ·omega
   ·omega
  ·rcases qB b1 hx with⟨d,h2⟩ | ⟨d,h2⟩ | ⟨d,h2⟩
   ·omega
   ·rw[h1,h2];exact hr.mono sub
   ·omega
  ·rcases qB b1 hx with⟨d,h2⟩ | ⟨d,h2⟩ | ⟨d,h2⟩
   ·omega
   ·omega
   ·exact(P.rch (i - 1) u x h1 h2).mono sub
theorem aFP (pl:List Nat)(p j:Nat):uw pl.toArray p j=(wV pl p j).toArray:=by
 apply Array.toList_inj.mp
 rw[uy]
 unfold wV
 simp
structure Ow (mask:Nat)(owner:Array (Option Nat))(ps:List Nat):Prop where
 sz:owner.size=mask+1
 at_:∀i j,ps[i]?=some j↔owner.getD j none=some i
theorem Ow.free {owner:Array (Option Nat)}{ps:List Nat}(O:Ow mask owner ps){x:Nat}(hx:x<=mask):(owner.getD x (some 0)).isNone=true↔x∉ps:=by
 have e:owner.getD x (some 0)=owner.getD x none:=by
  have:x<owner.size:=by rw[O.sz];omega
  rw[c4,c4,di this];rfl
 rw[e]
 constructor
 ·intro h z
  obtain⟨i,hi⟩:=fq.mp z
  rw[(O.at_ i x).mp hi] at h
  cases h
 ·intro h
  cases ho:owner.getD x none with
  |none=>rfl
  |some i=>exact absurd (a8 ((O.at_ i x).mpr ho)) h
theorem zG {owner:Array (Option Nat)}{ps:List Nat}(O:Ow mask owner ps):∀(R F i pt:Nat),R<=F->(∀x∈tE mask R i pt,x<=mask)->(∃x∈tE mask R i pt,x∉ps)->∃L1 x L2,tE mask R i pt=L1++x :: L2/\(∀y∈L1,y∈ps)/\x∉ps/\kx mask owner F i pt=some x
 |0,F,i,pt,_,_,⟨x,hx,_⟩=>by cases hx
 |R+1,0,i,pt,h,_,_=>by omega
 |R+1,F+1,i,pt,h,hm,⟨x,hx,hn⟩=>by
  rw[kx]
  have hm1:∀x∈rnL mask i,x<=mask:=λx hx=>hm x (da _ hx)
  cases hf:(aj (fz mask i+1 - i)).find? (λk=>(owner.getD (i+k) (some 0)).isNone) with
  |some k=>
   dsimp only
   obtain⟨q1,as,bs,q2,q3⟩:=List.find?_eq_some_iff_append.mp hf
   have er:rnL mask i=as.map (i + ·)++(i+k) :: bs.map (i + ·):=by unfold rnL;rw[q2,de,bx]
   refine⟨as.map (i + ·),i+k,bs.map (i + ·)++tE mask R (dv mask i pt).1 (dv mask i pt).2,?_,λy hy=>?_,?_,rfl⟩
   ·show rnL mask i++_=_
    rw[er,ez];rfl
   ·obtain⟨m,hm',rfl⟩:=c8.mp hy
    have:=q3 m hm'
    refine c6 λc=>?_
    have z:=(O.free (hm1 _ (by rw[er];exact da _ (r9 hm')))).mpr c
    rw[z] at this
    cases this
   ·exact(O.free (hm1 _ (by rw[er];exact cm _ (bp ..)))).mp q1
  |none=>
   dsimp only
   have all:∀y∈rnL mask i,y∈ps:=λy hy=>by
    have hy':=hm1 y hy
    unfold rnL at hy
    obtain⟨m,hm',rfl⟩:=c8.mp hy
    refine c6 λc=>?_
    have:=List.find?_eq_none.mp hf m hm'
    exact this ((O.free hy').mpr c)
   have hx:x∈tE mask R (dv mask i pt).1 (dv mask i pt).2:=by
    rcases bo.mp hx with hx | hx
    ·exact absurd (all x hx) hn
    ·exact hx
   obtain⟨L1,y,L2,e,q1,q2,q3⟩:=zG O R F _ _ (by omega) (λx hx=>hm x (cm _ hx)) ⟨x,hx,hn⟩
   refine⟨rnL mask i++L1,y,L2,by show rnL mask i++_=_;rw[e,ez],λz hz=>?_,q2,q3⟩
   rcases bo.mp hz with hz | hz
   ·exact all z hz
   ·exact q1 z hz
theorem Ow.step {owner:Array (Option Nat)}{ps:List Nat}(O:Ow mask owner ps){j:Nat}(hj:j∉ps)(hm:j<=mask):Ow mask (owner.setIfInBounds j (some ps.length)) (ps++[j]):=by
 refine⟨by rw[Array.size_setIfInBounds,O.sz],λi x=>?_⟩
 have hjs:j<owner.size:=by rw[O.sz];omega
 have e:(owner.setIfInBounds j (some ps.length)).getD x none=if j=x then some ps.length else owner.getD x none:=by
  rw[c4,c4,Array.getElem?_setIfInBounds]
  by_cases c:j=x
  ·subst c;rw[if_pos rfl,if_pos hjs,if_pos rfl];rfl
  ·rw[if_neg c,if_neg c]
 rw[e]
 by_cases c:j=x
 ·subst c
  rw[if_pos rfl]
  constructor
  ·intro h
   rcases Nat.lt_or_ge i ps.length with d | d
   ·rw[bh d] at h
    exact absurd (a8 h) hj
   ·have hl:=(ah.mp h).1
    rw[au] at hl
    have:i=ps.length:=by simp at hl;omega
    rw[this]
  ·intro h
   cases h
   rw[bj (az _),j8];rfl
 ·rw[if_neg c,<- O.at_]
  constructor
  ·intro h
   rcases Nat.lt_or_ge i ps.length with d | d
   ·rwa[bh d] at h
   ·rw[bj d] at h
    rcases ay.mp (a8 h) with rfl
    exact absurd rfl c
  ·intro h
   rw[bh (ah.mp h).1];exact h
end
section
variable {mask:Nat}{pl:List Nat}{us:Us}
def aFx (mask:Nat) (acc:Option (Array (Option Nat)×Nat)) (h:Int):Option (Array (Option Nat)×Nat):=do
 let(owner,k) <- acc
 let j <- kx mask owner (je mask) (gm h % (mask+1)) (gm h)
 pure (owner.setIfInBounds j (some k),k+1)
def mT (mask:Nat) (owner:Array (Option Nat)):List (Nat×Nat):=(aj (mask+1)).filterMap λj=>(owner.getD j none).map (j,·)
theorem aCn {owner:Array (Option Nat)}{ps:List Nat}(O:Ow mask owner ps){j i:Nat}:(j,i)∈mT mask owner↔ps[i]?=some j:=by
 unfold mT
 rw[ky,O.at_]
 constructor
 ·rintro⟨x,_,h⟩
  obtain⟨y,hy,e⟩:=ku.mp h
  cases e
  exact hy
 ·intro h
  refine⟨j,bb.mpr ?_,by rw[h];rfl⟩
  refine c6 λc=>?_
  rw[c4,gq (by rw[O.sz];omega)] at h
  cases h
theorem vI (owner:Array (Option Nat)):(mT mask owner).Pairwise λa b=>a.1<b.1:=by
 unfold mT
 refine List.Pairwise.filterMap _ (λa b h x hx y hy=>?_) List.pairwise_lt_range
 obtain⟨_,_,rfl⟩:=ku.mp hx
 obtain⟨_,_,rfl⟩:=ku.mp hy
 exact h
end
def spT (led:Bool) (mask:Nat) (pl:List Nat) (mv:Nat):SetTable:={ mask:=mask,place:=pl.toArray,dummies:=#[],finger:=0,led:=led,moves:=mv,plain:=true }
section
variable {prog:Program}{w:World}{A:Around}{E:Value->Shared->Prop}{s:Shared}
end
section
variable {prog:Program}{w:World}{A:Around}{E:Value->Shared->Prop}{s:Shared}{a b:Addr}{us:Us}{k:List Int}{ep mask mv:Nat}{pl:List Nat}
theorem aFQ (led:Bool)(j:Nat):(spT led mask pl mv).put j=(spT led mask (wV pl (b9 pl.toArray j) j) mv,b9 pl.toArray j):=by
 unfold SetTable.put spT
 have e2:xf #[] j=false:=by
  unfold xf
  rw[<- jm]
  intro z
  have:=rg z
  simp at this
 dsimp only
 rw[e2,aFP]
 rfl
theorem aDG (led:Bool):(spT led mask pl mv).tooFull=decide (pl.length*5≥mask*3):=by
 unfold SetTable.tooFull SetTable.fill spT
 simp
end
section
variable {prog:Program}{w:World}{A:Around}{R:vp->Shared->Prop}{I:Addr}{fp wr:List Addr}{G:Array GenState->Array GenState->Prop}{n:Nat}{P:Nat->Value->Prop}{St:Nat->Shared->Prop}
end
section
variable {prog:Program}{w:World}{A:Around}{E:Value->Shared->Prop}{s:Shared}
end
end L2
namespace L2
open PySem PySem.W PySem.Spec PyProof.Rows
section
variable {prog:Program}{w:World}{A:Around}{E:Value->Shared->Prop}{s:Shared}{a:Addr}{us:Us}{ep mask mv:Nat}{pl:List Nat}
end
end L2
namespace L2
open PySem PySem.Spec PySem.W PyProof.Rows
section
variable {prog:Program}{w:World}{A:Around}{E:Value->Shared->Prop}{s:Shared}{a:Addr}{us:Us}{ep mask mv:Nat}{pl:List Nat}
end
section
variable {X:Cx}
end
end L2
namespace L2
open PySem PySem.Spec PyProof.Rows
section
variable {X:Cx}
end
end L2
namespace L2
open PySem PySem.W PyProof.Rows
section
variable {prog:Program}{w:World}{A:Around}{E:Value->Shared->Prop}{s:Shared}{a₀:Array Keyed}{κ:Af}{st:As}
end
section
variable {prog:Program}{w:World}{A:Around}{E:Value->Shared->Prop}{s:Shared}{a₀:Array Keyed}{κ:Af}{st:As}
end
section
variable {a b out:Array Keyed}{i j k:Nat}
end
section
variable {prog:Program}{w:World}{A:Around}{E:Value->Shared->Prop}{s:Shared}{a₀:Array Keyed}{κ:Af}{st:As}
end
section
variable {a b out:Array Keyed}{i j k:Nat}
end
section
variable {prog:Program}{w:World}{A:Around}{E:Value->Shared->Prop}{s:Shared}{a₀:Array Keyed}{κ:Af}{st:As}
end
section
variable {prog:Program}{w:World}{A:Around}{E:Value->Shared->Prop}{s:Shared}{a₀:Array Keyed}{κ:Af}{st:As}
end
section
variable {prog:Program}{w:World}{A:Around}{E:Value->Shared->Prop}{s:Shared}
end
section
variable {prog:Program}{w:World}{A:Around}{E:Value->Shared->Prop}{s:Shared}{d:Addr}{o:Obj}{es:Array DictEntry}{ep:Nat}
end
section
variable {X:Cx}
end
end L2
namespace L2
open PySem PySem.Spec PyProof.Rows
def wR (K:aa) (te:TE):TE:=λσ H Q=>te σ H λx H1=>∃a xs,x = .ref a/\SqL K H1 a xs/\∀p,H1 p=none->Q (.ref p) (upd H1 p (.lst xs.reverse))
theorem aDo {X:Cx}{e:Expr}{te:TE}{p1 p2 p3 pos:Pos}{k:Nat}(he:PE X e te):PE X (.Subscript e (.Slice none none (some (.UnaryOp .USub (.Constant (.int 1) k p1) p3)) p2) pos) (wR X.K te):=by
 intro pins s σ H Q I h
 refine zm (thn (he pins s σ H _ I h) λv s1 ⟨x,H1,I1,r1,q1⟩=>?g)
 case g=>
 obtain⟨a,xs,rfl,hx,q⟩:=q1
 obtain rfl:v=Value.ref a:=r1
 refine wpAny_Slice ?g
 case g=>
 rw[za]
 refine ao (ao ?g)
 case g=>
 rw[evalPart_some]
 refine thn ((aDA aBb aK:PE X (.UnaryOp .USub (.Constant (.int 1) k p1) p3) (tUn aEt (tC (.int 1)))) pins s1 σ H1 (λx H'=>x = .int (-1)/\H'=H1) I1 ⟨1,rfl,rfl,rfl⟩) λu s2 ⟨y,H2,I2,r2,q2⟩=>?g
 case g=>
 obtain⟨rfl,rfl⟩:=q2
 obtain⟨t,rfl⟩:=r2
 have I4:Inv X pins σ H2 { s2 with heap:=s2.heap.push { cls := .type "slice",data := .fields #[.none, .none, .int (-1) t] } }:=I2.kept (t':=s2.toks) λb ob q=>aq _ q
 obtain⟨its,rv,pl,hz⟩:=I4.list hx
 have hl:=rv.length
 show wpAny (model X.prog X.w) X.A (u9 e (.Slice none none (some (.UnaryOp .USub (.Constant (.int 1) k p1) p3)) p2) (.ref a) (.ref s2.heap.objs.size)) (EP X pins σ Q) X.xe { s2 with heap:=s2.heap.push { cls := .type "slice",data := .fields #[.none, .none, .int (-1) t] } }
 refine tail_any (ops:=[.ref a, .ref s2.heap.objs.size]) pl.isList.typeIs list_getitem_lookup (uk pl.isList (Heap.IsSliceOf.new ..) .none .none (.int (-1) t) (by decide) ?g (by rw[aw];omega)) (by with_unfolding_all rfl)
 case g=>
 rw[PySem.W.krv_pick,List.toList_toArray]
 refine⟨.ref _,_,I4.laid (t':=s2.toks) (o := .lst xs.reverse) (λb ob q=>aq _ q) (az _) ?g,rfl,q _ (I4.hok.fresh (az _))⟩
 case g=>exact⟨by rw[yw];exact hz,_,_,Vals.rev rv,br _ rfl⟩
theorem vJ {X:Cx}{K:aa}{e:Expr}{te:TE}{p1 p2 p3 pos:Pos}{k:Nat}(hK:X.K=K)(he:PE X e te):PE X (.Subscript e (.Slice none none (some (.UnaryOp .USub (.Constant (.int 1) k p1) p3)) p2) pos) (wR K te):=by subst hK;exact aDo he
def aIc (c:Addr) (q:Str):HO := .ext λh=>∃o vs t,h.get? c=some o/\o.data = .fields vs/\vs[1]?=some (.str q t)
def TabS (H:Hp) (P:Addr) (pos:Pos) (q:Str):Prop:=H P=some (.tbl #[])\/∃c,H P=some (.tbl #[k7 pos.line,k7 pos.col, .ref c])/\H c=some (aIc c q)
theorem TabS.same {H H':Hp}{P:Addr}{pos:Pos}{q:Str}(h:TabS H P pos q)(s:Same H H'):TabS H' P pos q:=by
 rcases h with h | ⟨c,h1,h2⟩
 ·exact .inl (s _ _ h)
 ·exact .inr ⟨c,s _ _ h1,s _ _ h2⟩
section
variable {X:Cx}{pins:List (Addr×Obj)}{σ:St}{H:Hp}{s:Shared}{P cc:Addr}
end
section
variable {X:Cx}{pins:List (Addr×Obj)}{σ:St}{l f i0 S0:Addr}{us:List Value}{R:vp->Shared->Prop}{fobj:Obj}{H:Hp}
theorem FpOk.at {H':Hp}{b:Addr}(F:FpOk X pins H b)(h:H' b=none):FpOk X pins H' b:=⟨h,F.2⟩
end
section
variable {X:Cx}
end
section
variable {prog:Program}{w:World}{A:Around}{E:Value->Shared->Prop}{env:Env}
variable {nm q:Str}{C N:Addr}{bs bm bmB:List Value}{hdct:Bool}{sn:List Str}{sub:List Value}{ab:Bool}{col:Option Bool}{dd:Option Addr}{k0 k1 k2 k3 k5:Option Value}{B newId initId:String}
end
section
variable {X:Cx}{pins:List (Addr×Obj)}{σ:St}{H:Hp}{s:Shared}{a:Addr}{o:HO}{h':Heap}{t':Nat}
end
section
variable {X:Cx}{x:Str}{np pos:Pos}{C:Addr}{a:Expr}{es:List Expr}{ta:TA}{K:aa}
end
section
variable {prog:Program}{w:World}{A:Around}{E:Value->Shared->Prop}{h:Heap}{g:Array GenState}{d:Drawn}{t:Nat}{os:OsState}
variable {nm q:Str}{C N:Addr}{bs bm bmB:List Value}{hdct:Bool}{sn:List Str}{sub:List Value}{ab:Bool}{col:Option Bool}{dd:Option Addr}{k0 k1 k2 k3 k5:Option Value}{B newId initId:String}
abbrev aIn (C t:Addr):Obj:={ cls := .ref C,data := .fields #[.ref t, .none, .none, .none, .bool false, .none] }
end
end L2
namespace L2
open PySem PySem.Spec PySem.W PyProof.Rows
section
variable {prog:Program}{w:World}{A:Around}{E:Value->Shared->Prop}{s:Shared}
theorem PlainL.isList {h:Heap}{a:Addr}{its:Array Value}(x:PlainL h a its):h.IsList a its:=let⟨o,n,e,c,_,d⟩:=x;⟨o,e,c,n,by rw[d]⟩
end
section
variable {X:Cx}
end
end L2
namespace L2
open PySem PySem.W PyProof.Rows
open PySem.SeqAt
section
variable {prog:Program}{w:World}{A:Around}{E:Value->Shared->Prop}{s:Shared}
end
section
variable {X:Cx}
end
end L2
namespace L2
open PySem PySem.Spec PySem.W PyProof.Rows
open PySem.SeqAt
section
variable {prog:Program}{w:World}{A:Around}{E:Value->Shared->Prop}{s:Shared}{a:Addr}{es:Array (Int×Value)}{ep:Nat}{pl:List Nat}
end
section
variable {prog:Program}{w:World}{A:Around}{E:Value->Shared->Prop}{s:Shared}
end
section
variable {prog:Program}{w:World}{A:Around}{R:vp->Shared->Prop}{I:Addr}{fp wr:List Addr}{G:Array GenState->Array GenState->Prop}{n:Nat}{P:Nat->Value->Prop}{St:Nat->Shared->Prop}
end
section
variable {prog:Program}{w:World}{A:Around}{E:Value->Shared->Prop}{s:Shared}
end
section
variable {X:Cx}
end
end L2
namespace L2
open PySem PySem.Spec PyProof.Rows
open Builtin Builtin.ObjectAttr
def exD (e C dx:Addr):HO := .ext λh=>∃t,h.get? e=some { aIn C t with dict:=some dx }
section
variable {X:Cx}{K:aa}{C R f:Addr}{i k:Nat}{sf at' rn m:Str}{j:Nat}{p1 p2 p3 p4 p5 p6 p7 p8:Pos}
end
section
variable {prog:Program}{w:World}{A:Around}{E:Value->Shared->Prop}{h:Heap}{g:Array GenState}{d:Drawn}{t:Nat}{os:OsState}
variable {nm q:Str}{C R N x t0:Addr}{bs:List Value}{sn:List Str}{sub:List Value}{ab:Bool}{col:Option Bool}{dd:Option Addr}{k0 k1 k2 k3 k5:Option Value}{newId:String}{v:Value}{K:aa}
end
def ExcAt (H:Hp) (a C:Addr):Prop:=∃φ,H a=some (.ext φ)/\∀h,φ h->XAt h a C
theorem ExcAt.o {H:Hp}{a C:Addr}(h:H a=some (aHV a C)):ExcAt H a C:=⟨_,h,λ_ z=>z⟩
theorem ExcAt.d {H:Hp}{a C dx:Addr}(h:H a=some (exD a C dx)):ExcAt H a C:=⟨_,h,λ_ ⟨t,z⟩=>⟨_,z,rfl⟩⟩
section
variable {X:Cx}{K:aa}{C R f:Addr}{i k:Nat}{x:Str}{np pos pos' apos:Pos}{a e o value:Expr}{es:List Expr}{ta:TA}{te:TE}{sp:Sp}
end
def orb (mask:Nat):Nat->Nat->List Nat
 |0,_=>[]
 |f+1,i=>i :: orb mask f (dv mask i 0).1
def bmL:List Nat->Nat
 |[]=>0
 |x :: l=>bmL l ||| 2 ^ x
theorem aDh {x:Nat}:∀{l:List Nat},(bmL l).testBit x=true->x∈l
 |[],h=>by rw[show bmL []=0 from rfl,Nat.zero_testBit] at h;cases h
 |y :: l,h=>by
  rw[show bmL (y :: l)=bmL l ||| 2 ^ y from rfl,Nat.testBit_or,Bool.or_eq_true,Nat.testBit_two_pow] at h
  rcases h with h | h
  ·exact ar _ (aDh h)
  ·rw[of_decide_eq_true h];exact bp ..
theorem aEx:([7,31,127].all λm=>(aj (m+1)).all λi=>bmL (orb m (m+2) i) == 2 ^ (m+1) - 1)=true:=by decide+kernel
theorem aAQ {mask i p:Nat}:(dv mask i p).1<=mask:=pw (zr _ (xg _))
theorem aFd {mask i:Nat}(h:i<=mask):∀x∈rnL mask i,x<=mask:=λx hx=>by
 unfold rnL at hx
 obtain⟨k,hk,rfl⟩:=c8.mp hx
 have:=bb.mp hk
 unfold fz at this
 split at this <;> omega
theorem aCr {mask i:Nat}:i∈rnL mask i:=by
 unfold rnL
 refine c8.mpr ⟨0,bb.mpr ?_,Nat.add_zero i⟩
 have:=rW (mask:=mask) (i:=i)
 omega
theorem aEw {mask i:Nat}:(rnL mask i).length<=10:=by
 unfold rnL fz
 rw[ai,cq]
 split <;> omega
theorem aAo {mask:Nat}:∀(f i p:Nat),i<=mask->∀x∈tE mask f i p,x<=mask
 |0,_,_,_,x,hx=>by cases hx
 |f+1,i,p,h,x,hx=>by
  rcases bo.mp hx with hx | hx
  ·exact aFd h x hx
  ·exact aAo f _ _ aAQ x hx
theorem vD {mask:Nat}:∀(f i p:Nat),(tE mask f i p).length<=10*f
 |0,_,_=>bc _
 |f+1,i,p=>by
  show(rnL mask i++tE mask f _ _).length<=_
  rw[au]
  have:=aEw (mask:=mask) (i:=i)
  have:=vD (mask:=mask) f (dv mask i p).1 (dv mask i p).2
  omega
theorem vO {mask:Nat}:∀(f i x:Nat),x∈orb mask f i->x∈tE mask f i 0
 |0,_,_,h=>by cases h
 |f+1,i,x,h=>by
  rcases a9.mp h with rfl | h
  ·exact da _ aCr
  ·exact cm _ (vO f _ x h)
theorem rC {mask:Nat}:∀(k f i p:Nat),i<=mask->p<32 ^ k->∃i',i'<=mask/\∀x,x∈tE mask f i' 0->x∈tE mask (k+f) i p
 |0,f,i,p,h,hp=>by
  have:p=0:=by simpa using hp
  subst this
  exact⟨i,h,λx hx=>by rw[Nat.zero_add];exact hx⟩
 |k+1,f,i,p,h,hp=>by
  have hq:p / 32<32 ^ k:=by
   rw[Nat.pow_succ] at hp
   exact Nat.div_lt_of_lt_mul (by rw[Nat.mul_comm];exact hp)
  obtain⟨i',h1,h2⟩:=rC k f (dv mask i p).1 (p / 32) aAQ hq
  refine⟨i',h1,λx hx=>?_⟩
  rw[show k+1+f=k+f+1 by omega]
  exact cm _ (h2 x hx)
def SI (mask:Nat) (h:Int):List Nat:=tE mask (je mask) (gm h % (mask+1)) (gm h)
theorem aFe {mask:Nat}{h:Int}:∀x∈SI mask h,x<=mask:=aAo _ _ _ (pw (zr _ (xg _)))
theorem aFo {mask:Nat}(hm:M3 mask)(h:Int){x:Nat}(hx:x<=mask):x∈SI mask h:=by
 have hb:gm h<32 ^ 13:=by
  unfold gm
  have h1:=rm h (show(2 ^ 64:Int)≠0 by decide)
  have h2:=tq h (show(0:Int)<2 ^ 64 by decide)
  have:(h % (2 ^ 64:Int)).toNat<2 ^ 64:=by omega
  exact c5 this (by decide)
 obtain⟨i',h1,h2⟩:=rC (mask:=mask) 13 (mask+2) (gm h % (mask+1)) (gm h) (pw (zr _ (xg _))) hb
 have e:je mask=13+(mask+2):=by unfold je;omega
 unfold SI
 rw[e]
 refine h2 x (vO _ _ _ ?_)
 have a:=e7.mp aEx mask (by rcases hm with rfl | rfl | rfl <;> simp)
 have b:=e7.mp a i' (bb.mpr (Nat.lt_succ_of_le h1))
 refine aDh ?_
 rw[rg b,Nat.testBit_two_pow_sub_one]
 exact decide_eq_true (Nat.lt_succ_of_le hx)
theorem zX {mask:Nat}(hm:M3 mask)(h:Int){pl:List Nat}(hl:pl.length<=mask):∃x∈SI mask h,x∉pl:=by
 refine c6 λc=>?_
 have:=aDl (aj (mask+1)) pl f6 λx hx=>c6 λz=>c ⟨x,aFo hm h (pw (bb.mp hx)),z⟩
 rw[cq] at this
 omega
structure Wk (mask:Nat)(pl:List Nat)(n:Nat):Prop where
 m:M3 mask
 len:pl.length=n
 ris:pl.Pairwise (· < ·)
theorem Wk.fits {mask:Nat}{pl:List Nat}{n:Nat}(W:Wk mask pl n)(h:n*5<mask*3+5)(led:Bool)(mv:Nat):(spT led mask pl mv).fits n=true:=by
 have l:=W.len
 unfold spT SetTable.fits SetTable.fill
 simp only[aw,j3,Nat.add_zero,du,beq_iff_eq,decide_eq_true_eq]
 refine⟨l,?_⟩
 rcases W.m with rfl | rfl | rfl <;> omega
theorem aDE {mask:Nat}{pl:List Nat}{n:Nat}(W:Wk mask pl n)(hn:n<=mask)(led:Bool)(mv:Nat)(h:Int):∃j,j∉pl/\(spT led mask pl mv).freeSlot h=some (j,false):=by
 have fu:Fut mask ((spT led mask pl mv).probeStart h) (SI mask h):=vE _ _ _
 unfold SetTable.freeSlot SetTable.probe
 rcases aCT (t:=spT led mask pl mv) (pl:=pl) rfl rfl W.ris (λ_=>h+1) h (SI mask h) (10*je mask) ((spT led mask pl mv).probeStart h) fu rfl (vD _ _ _) (zX W.m h (by rw[W.len];exact hn)) with⟨L1,x,L2,e,q1,q2,q3,q4⟩ | ⟨L1,x,L2,i,nx,e,q1,q2,q3,q4⟩
 ·refine⟨x,q2,?_⟩
  show(match pq (spT led mask pl mv) (λ_=>h+1) h (10*je mask) ((spT led mask pl mv).probeStart h) with
   |some (.empty j dummy)=>some (dummy.getD j,dummy.isSome)
   |_=>none)=_
  rw[q4]
  rfl
 ·omega
theorem Wk.put {mask:Nat}{pl:List Nat}{n j:Nat}(W:Wk mask pl n)(hj:j∉pl):Wk mask (wV pl (b9 pl.toArray j) j) (n+1):=
 ⟨W.m,by rw[(lT _ _ _).length_eq,ba,W.len],wC W.ris hj⟩
theorem aHb {mask:Nat}{pl:List Nat}{es:Array (Int×Value)}(W:Wk mask pl es.size)(hn:es.size*5<mask*3)(led:Bool)(mv:Nat)(h:Int)(x:Value) :
  ∃pl',(layNew (spT led mask pl mv) es h x).2=(spT led mask pl' mv,false,false)/\Wk mask pl' (es.size+1):=by
 obtain⟨j,hj,e⟩:=aDE W (by omega) led mv h
 have W':=W.put hj
 refine⟨_,?_,W'⟩
 have sz:(uw es (b9 pl.toArray j) (h,x)).size=es.size+1:=by
  rw[<- cu,(wb es _ _).length_eq,cu,Array.size_push]
 have f:=W'.fits (by omega) led mv
 unfold layNew
 rw[e]
 dsimp only
 rw[aFQ]
 dsimp only
 unfold SetTable.orStandIn
 rw[sz,f,if_pos rfl]
 rfl
theorem uQ {mask:Nat}(hm:M3 mask):∀(hs:List Int) (owner:Array (Option Nat)) (ps:List Nat),Ow mask owner ps->ps.length+hs.length<=mask ->
  ∃owner' qs,hs.foldl (aFx mask) (some (owner,ps.length))=some (owner',ps.length+hs.length)/\Ow mask owner' (ps++qs)/\qs.length=hs.length
 |[],owner,ps,O,_=>⟨owner,[],rfl,by rw[iu];exact O,rfl⟩
 |h :: hs,owner,ps,O,hl=>by
  rw[ba] at hl
  obtain⟨L1,x,L2,e,q1,q2,q3⟩:=zG O (je mask) (je mask) (gm h % (mask+1)) (gm h) (az _) (λx hx=>aFe (h:=h) x hx) (zX hm h (by omega))
  have hx:x<=mask:=aFe (h:=h) x (by show x∈tE mask _ _ _;rw[e];exact cm _ (bp ..))
  have ln:(ps++[x]).length=ps.length+1:=by rw[au];rfl
  obtain⟨ow,qs,r1,r2,r3⟩:=uQ hm hs _ (ps++[x]) (O.step q2 hx) (by rw[ln];omega)
  have es:ps++[x]++qs=ps++x :: qs:=by rw[ez];rfl
  rw[es] at r2
  refine⟨ow,x :: qs,?_,r2,by rw[ba,r3];rfl⟩
  rw[List.foldl_cons]
  have:aFx mask (some (owner,ps.length)) h=some (owner.setIfInBounds x (some ps.length),(ps++[x]).length):=by
   unfold aFx
   rw[ln]
   show(kx mask owner (je mask) (gm h % (mask+1)) (gm h) >>= _)=_
   rw[q3]
   rfl
  rw[this,r1,ln,ba]
  congr 2
  omega
theorem aEp {es:Array (Int×Value)}(t:SetTable){wanted m':Nat}(hw:uc wanted - 1=m')(hm:M3 m')(hl:es.size*5<m'*3)(led:Bool)(ht:t.led=led/\t.finger=0/\t.plain=true):∃pl',(relayAll t es wanted).2=(spT led m' pl' (t.movedTo m'),false)/\Wk m' pl' es.size:=by
 have O0:Ow m' (xh (m'+1) none) []:=by
  refine⟨by simp,λi j=>?_⟩
  constructor
  ·intro h
   simp at h
  ·intro h
   rw[c4] at h
   by_cases c:j<m'+1
   ·rw[di (by simpa using c)] at h
    simp at h
   ·rw[gq (by simpa using c)] at h
    cases h
 have lh:(es.map (·.1)).toList.length=es.size:=by simp
 obtain⟨ow,ps,r1,O,r3⟩:=uQ hm (es.map (·.1)).toList _ [] O0 (by rw[j3,lh];omega)
 rw[jf] at O
 rw[lh] at r3
 have ml:=λj i=>aCn O (j:=j) (i:=i)
 have ond:((mT m' ow).map (·.2)).Nodup:=by
  rw[il,List.pairwise_map]
  refine uz (λ{a b} ha hb hab e=>?_) (vI ow)
  have h1:=(ml a.1 a.2).mp ha
  have h2:=(ml b.1 b.2).mp hb
  rw[e] at h1
  rw[h1] at h2
  have:=bu h2
  omega
 have operm:((mT m' ow).map (·.2)).Perm (aj es.size):=by
  refine(gn ond f6).mpr λi=>?_
  rw[c8,bb]
  constructor
  ·rintro⟨p,hp,rfl⟩
   have:=(ml p.1 p.2).mp hp
   rw[<- r3]
   exact(ah.mp this).1
  ·intro hi
   have:=ae (show i<ps.length by omega)
   exact⟨(ps[i],i),(ml _ _).mpr this,rfl⟩
 have W:Wk m' ((mT m' ow).map (·.1)) es.size:=⟨hm,by rw[ai,<- operm.length_eq.trans cq,ai],by rw[List.pairwise_map];exact vI ow⟩
 have er:t.relaid (es.map (·.1)) wanted=some (spT led m' ((mT m' ow).map (·.1)) (t.movedTo m'),((mT m' ow).map (·.2)).toArray):=by
  unfold SetTable.relaid SetTable.laid SetTable.layClean
  rw[hw]
  have ef:((es.map (·.1)).foldl (init:=some (xh (m'+1) none,0)) (aFx m')).map (·.1)=some ow:=by
   rw[<- Array.foldl_toList]
   have:=r1
   rw[j3] at this
   rw[this]
   rfl
  show((((es.map (·.1)).foldl (init:=some (xh (m'+1) none,0)) (aFx m')).map (·.1)) >>= λowner=>_)=_
  rw[ef,ht.1,ht.2.1,ht.2.2]
  rfl
 refine⟨_,?_,W⟩
 have cv:coversAll ((mT m' ow).map (·.2)).toArray es.size=true:=by
  unfold coversAll
  exact List.isPerm_iff.mpr (by simpa using operm)
 have sz:(((mT m' ow).map (·.2)).toArray.filterMap (es[·]?)).size=es.size:=by
  rw[<- cu,Array.toList_filterMap]
  have:=(operm.filterMap (es[·]?)).length_eq
  rw[filterMap_getElem?_range,cu] at this
  simpa using this
 unfold relayAll
 rw[er]
 dsimp only
 rw[cv,sz,W.fits (by omega) led (t.movedTo m')]
 rfl
end L2
namespace L2
open PySem PySem.W PySem.Spec PyProof.Rows
abbrev tbO (w:World) (es:Array (Int×Value)) (ep mask:Nat) (pl:List Nat) (mv:Nat):Obj:={ cls := .type "set",dict:=none,data := .set es ep (spT (!byT w) mask pl mv) }
section
variable {prog:Program}{w:World}{A:Around}{E:Value->Shared->Prop}{s:Shared}{a:Addr}{es:Array (Int×Value)}{ep mask mv:Nat}{pl:List Nat}
theorem aCf {Q:Bool->Shared->Prop}(ho:s.heap.get? a=some (tbO w es ep mask pl mv))(hf:(spT (!byT w) mask pl mv).fits es.size=true)(h:Q false s):wpAny (model prog w) A (setDrawn a) Q E s:=by
 unfold setDrawn setsByText
 refine af (qa ho rfl hf (af (af (ki (ao ?_)))))
 refine ao ?_
 have:(!(w.params.followText "set-order") && (!(spT (!byT w) mask pl mv).plain && decide (es.size > 1)))=false:=by
  rw[show(spT (!byT w) mask pl mv).plain=true from rfl];simp
 exact this ▸ h
theorem aDO {Q:Value->Shared->Prop}(ho:s.heap.get? a=some (tbO w es ep mask pl mv))(hf:(spT (!byT w) mask pl mv).fits es.size=true)
  (h:Q (.ref s.heap.objs.size) { s with heap:=s.heap.push { cls := .type "set_iterator",data := .fields #[k7 0,k7 0, .ref a,k7 es.size,k7 ep] } }):wpAny (model prog w) A (Ah (.ref a)) Q E s:=by
 have hT:s.TypeIs (.ref a) "set":=⟨_,ho,rfl⟩
 refine wpAny_pyIter_slot hT F.slot_set_iter (gi F.slot_set_iter hT nI ?g (F.args_set_iter_1 _))
 case g=>
 unfold Builtin.«frozenset.__iter__» Builtin.Frozenset.slot0 Builtin.Frozenset.sizeOf
 refine af (af (ao (ao ?_)))
 refine af (af (sa ho rfl hf (ao ?_)))
 refine af (aCf ho hf ?_)
 rw[if_neg (by exact cf)]
 refine af (ao (af (wpAny_setEpoch_of ho rfl hf ?_)))
 unfold newFields
 refine af (gk (ao ⟨_,rfl,"set_iterator",_,⟨_,br _ rfl,rfl⟩,cB.lookup,?_⟩))
 exact h
theorem aAr {slot i:Nat}{Q:Option (Value×Nat)->Shared->Prop}(ho:s.heap.get? a=some (tbO w es ep mask pl mv))(P:Wk mask pl es.size)(hz:es.size*5<mask*3)(hs:slot=dZ w pl i)(hi:i<=es.size)
  (h:Q (((eW w a ep es)[i]?).map λe=>(e.2,dZ w pl (i+1))) s):wpAny (model prog w) A (setNext a slot i ep) Q E s:=by
 have hf:(spT (!byT w) mask pl mv).fits es.size=true:=P.fits (by omega) (!byT w) mv
 have sz:es.size=pl.length:=P.len.symm
 unfold setNext setsByText
 refine af (qa ho rfl hf (af (af (ki (ao ?_)))))
 dsimp only
 show wpAny _ _ (if byT w=true then _ else _) _ _ _
 cases hb:byT w with
 |true=>
  rw[if_pos rfl,if_neg (by simp)]
  unfold setWalk setsByText
  refine af (af (qa ho rfl hf (af (af (ki (ao ?_))))))
  dsimp only
  show wpAny _ _ (if byT w=true then _ else _) _ _ _
  rw[if_pos hb]
  refine af (ki (ao (ao ?_)))
  unfold eW at h
  rw[if_pos hb] at h
  have e1:dZ w pl (i+1)=slot:=by
   rw[hs]
   cases i with
   |zero=>simp[dZ,hb]
   |succ i=>simp[dZ,hb]
  rw[e1] at h
  exact h
 |false=>
  rw[if_neg (by simp)]
  rw[if_neg]
  rotate_left
  ·show ¬ ((!true && decide (es.size > 1))=true)
   simp
  refine af (vb (a:=()) rfl ?_)
  refine ao ?_
  unfold eW at h
  rw[hb,if_neg (by simp)] at h
  have z0:=xJ P.ris
  have eb:b9 pl.toArray slot=i:=by
   rw[hs]
   cases i with
   |zero=>exact z0
   |succ i=>
    show b9 pl.toArray (if byT w then 0 else pl.getD i 0+1)=i+1
    rw[hb,if_neg (by simp)]
    have hi':i<pl.length:=by rw[<- sz];omega
    rw[ak,ae hi']
    exact wN P.ris (ae hi')
  show Q (match es[b9 pl.toArray slot]?,pl.toArray[b9 pl.toArray slot]? with
     |some (_,x),some j=>some (x,j+1)
     |_,_=>none) s
  rw[eb]
  by_cases c:i<es.size
  ·have c':i<pl.length:=by rw[<- sz];exact c
   rw[di c] at h ⊢
   rw[l5,ae c']
   have e2:dZ w pl (i+1)=pl[i]+1:=by
    show(if byT w then 0 else pl.getD i 0+1)=_
    rw[hb,if_neg (by simp),ak,ae c']
    rfl
   rw[e2] at h
   exact h
  ·rw[gq (by omega)] at h ⊢
   exact h
theorem aCd {it:Addr}{i:Nat}{Q:Option Value->Shared->Prop}(hit:SIt it a (dZ w pl i) i es.size ep s.heap)(ho:s.heap.get? a=some (tbO w es ep mask pl mv))(P:Wk mask pl es.size)(hz:es.size*5<mask*3){e:Int×Value}(hx:(eW w a ep es)[i]?=some e)(hi:i<es.size)
  (q:∀h',SIt it a (dZ w pl (i+1)) (i+1) es.size ep h'->ir it s.heap h'->Q (some e.2) { s with heap:=h' }):wpAny (model prog w) A (wm (.ref it)) Q E s:=by
 have hf:(spT (!byT w) mask pl mv).fits es.size=true:=P.fits (by omega) (!byT w) mv
 have hT:=hit.typeIs
 obtain⟨oi,hi1,hi2,hi3⟩:=id hit
 unfold wm
 refine af (wpAny_attempt (ka (name:=qe "__next__") hT cB (gi cB hT fP ?g (gD _))))
 case g=>
 unfold Builtin.«set_iterator.__next__» slotArgs
 refine af (ao (af (wpAny_fieldsOf hi1 hi3 ?_)))
 refine af (sa ho rfl hf ?_)
 rw[if_neg (by simp)]
 show wpAny _ _ (setNext a (dZ w pl i:Int).toNat (i:Int).toNat (ep:Int).toNat >>= _) _ _ s
 rw[dj,dj,dj]
 refine af (aAr ho P hz rfl (gw hi) ?_)
 rw[hx]
 show wpAny _ _ (setField (.ref it) 0 (k7 (dZ w pl (i+1))) >>= _) _ _ s
 refine af (yj hi1 hi3 (by simp) ?_)
 have d1:=ua hi3 (·.setIfInBounds 0 (k7 (dZ w pl (i+1))))
 have g1:=gy (vh (·.setIfInBounds 0 (k7 (dZ w pl (i+1))))) hi1 (qj d1)
 refine af (yj g1 d1 (by simp) ?_)
 exact ao ⟨_,rfl,ao (q _ (SIt.step hit) ((ke ..).trans (ke ..)))⟩
theorem aDY {it : Addr}{Q : Option Value -> Shared -> Prop} (hh : A.handled = none) (hit : SIt it a (dZ w pl es.size) es.size es.size ep s.heap) (ho : s.heap.get? a = some (tbO w es ep mask pl mv)) (P : Wk mask pl es.size) (hz : es.size * 5 < mask * 3)
    (q : ∀h', Heap.ExtBut it s.heap h' -> Q none { s with heap := h' }) : wpAny (model prog w) A (wm (.ref it)) Q E s := by
  have hf : (spT (!byT w) mask pl mv).fits es.size = true := P.fits (by omega) (!byT w) mv
  have hT := hit.typeIs
  obtain⟨oi, hi1, hi2, hi3⟩ := id hit
  unfold wm
  refine af (wpAny_attempt (ka (name := qe "__next__") hT cB (gi cB hT fP ?g (gD _))))
  case g =>
  unfold Builtin.«set_iterator.__next__» slotArgs
  refine af (ao (af (wpAny_fieldsOf hi1 hi3 ?_)))
  refine af (sa ho rfl hf ?_)
  rw[if_neg (by simp)]
  show wpAny _ _ (setNext a (dZ w pl es.size : Int).toNat (es.size : Int).toNat (ep : Int).toNat >>= _) _ _ s
  rw[dj, dj, dj]
  refine af (aAr ho P hz rfl (az _) ?_)
  have hw : (eW w a ep es).size = es.size := by rw[<- cu, (gT w a ep es).length_eq, cu]
  rw[gq (by omega)]
  show wpAny _ _ (setField (.ref it) 2 .none >>= _) _ _ s
  refine af (yj hi1 hi3 (by simp) ?_)
  show wpAny _ _ (newExc (.type "StopIteration") [] >>= _) _ _ _
  simp only[newExc, newTuple]
  refine af (af (gk (af (m := firstArgMember _ _) (vb (a := Value.none) (by first | rfl | (simp only[firstArgMember]; rfl)) (gk ?g (by size_fits)))) (by size_fits)))
  case g =>
  simp only[raiseNew]
  refine af (wpAny_handled ?g)
  case g =>
  rw[show A.in1.handled = none from hh]
  refine af (ao (wpAny_throw ?z))
  case z => refine af (nh (T := "StopIteration") (b := true) ⟨_, br _ rfl, rfl⟩ isSubtype_stop ?z)
            case z => exact ao (q _ (((ke ..).extBut.push _).push _))
theorem aCB (hh:A.handled=none)(I a:Addr)(hne:a≠I)(ep:Nat)(P:Wk mask pl es.size)(hz:es.size*5<mask*3) :
  Walks prog w A I [I,a] [I] es.size (λi v=>∃e,(eW w a ep es)[i]?=some e/\v=e.2) (λi h=>SIt I a (dZ w pl i) i es.size ep h/\h.get? a=some (tbO w es ep mask pl mv)) where
 sub:=λb hb=>by simp at hb;simp[hb]
 frame:=λ_ _ _ st hk=>⟨st.1.at λo e=>hk I (by simp) o e,hk a (by simp) _ st.2⟩
 item:=λi s Q E hi st hQ=>by
  have hw:(eW w a ep es).size=es.size:=by rw[<- cu,(gT w a ep es).length_eq,cu]
  refine aCd st.1 st.2 P hz (di (by omega)) hi λh' hit' hs'=>?_
  exact hQ _ h' s.toks ⟨_,di (by omega),rfl⟩ ⟨hit',by rw[hs'.2 a hne];exact st.2⟩ λb o hb e=>hs'.extBut b o (λh=>hb (by simp[h])) e
 done:=λs Q E st hQ=>aDY hh st.1 st.2 P hz λh' he'=>hQ h' s.toks λb o hb e=>he' b o (λh=>hb (by simp[h])) e
 self:=λi s Q E st hQ=>by
  have hT:s.TypeIs (.ref I) "set_iterator":=SIt.typeIs st.1
  refine wpAny_pyIter_slot hT fY (gi fY hT kK ?_ (mQ _))
  show wpAny _ _ (ret (.ref I)) _ _ s
  exact ao ⟨_,rfl,"set_iterator",_,hT,cB.lookup,hQ⟩
theorem aFS (P:Wk mask pl es.size)(hz:es.size*5<mask*3):KdlSrc prog w "set" a a es.size (λi v=>∃e,(eW w a ep es)[i]?=some e/\v=e.2) (λh=>h.get? a=some (tbO w es ep mask pl mv)) where
 type:=λ_ hm=>⟨_,hm,rfl⟩
 there:=λ_ hm=>⟨b7 hm,b7 hm⟩
 keep:=λ_ _ hm hk=>hk a (.inl rfl) _ hm
 notList:=by decide
 notTuple:=by decide
 hint:=λ_ _ s _ hm hq=>aCa ⟨_,hm,rfl⟩ hq
 iter:=λA s hh hm=>⟨{ cls := .type "set_iterator",data := .fields #[k7 0,k7 0, .ref a,k7 es.size,k7 ep] },_,(λ_ _ hq=>aDO hm (P.fits (by omega) (!byT w) mv) hq),aCB hh _ a (dt (b7 hm)) ep P hz,⟨⟨_,br _ rfl,rfl,rfl⟩,aq _ hm⟩⟩
theorem wE {Q:List Value->Shared->Prop}(hh:A.handled=none)(ho:s.heap.get? a=some (tbO w es ep mask pl mv))(P:Wk mask pl es.size)(hz:es.size*5<mask*3)
  (hQ:∀(h':Heap) (tk:Nat) (vs:List Value),vs.Perm (es.toList.map (·.2))->(∀b o,s.heap.get? b=some o->h'.get? b=some o)->s.heap.objs.size<h'.objs.size->Q vs { s with heap:=h',toks:=tk }):wpAny (model prog w) A (collect (.ref a)) Q E s:=by
 have few:es.size<=100:=by rcases P.m with rfl | rfl | rfl <;> omega
 have ha:a<s.heap.objs.size:=b7 ho
 unfold collect
 let R1:vp->Shared->Prop:=λr s'=>∃h' tk acc c,r = .ok (.ret (.ref s.heap.objs.size))/\s'={ s with heap:=h',toks:=tk }/\h'.get? s.heap.objs.size=some { cls := .type "list",dict:=none,data := .seq acc c,slots:=#[] }/\(∀b o,s.heap.get? b=some o->h'.get? b=some o)/\ItemsOf (λi v=>∃e,(eW w a ep es)[i]?=some e/\v=e.2) acc es.size
 refine af (yd (jq (R:=R1) ?_ ?_))
 ·refine gu F.entry_proto_collect ?_
  rw[gp F.plain_proto_collect _]
  show wpAny _ A.in1 (newList [] >>= λl=>again (.builtin "list.__iadd__" ⟨[l, .ref a],[]⟩)) _ _ s
  refine af (gk ?_)
  refine ao ⟨mi F.plain_list_iadd _,gu F.entry_list_iadd ?_⟩
  rw[gp F.plain_list_iadd _]
  have ho1:(s.heap.push { cls := .type "list",data := .seq ([]:List Value).toArray }).get? a=some (tbO w es ep mask pl mv):=aq _ ho
  have hS₁:(s.heap.push { cls := .type "list",data := .seq ([]:List Value).toArray }).get? s.heap.objs.size=some { cls := .type "list",data := .seq ([]:List Value).toArray }:=br _ rfl
  show wpAny _ A.in1 (ly (.ref s.heap.objs.size) (.ref a) (.ref s.heap.objs.size)) _ _ { s with heap:=s.heap.push { cls := .type "list",data := .seq ([]:List Value).toArray } }
  exact kdl_extend (R:=R1) (s:={ s with heap:=s.heap.push { cls := .type "list",data := .seq ([]:List Value).toArray } }) (aFS (prog:=prog) (w:=w) (a:=a) (ep:=ep) P hz) hh ho1 s.heap.objs.size (sr ha) (sr ha) (.ref s.heap.objs.size) 0 hS₁ (λh' tk acc c hk hS' hA=>⟨h',tk,acc,c,rfl,rfl,hS',λb o e=>hk b o (dt (b7 e)) (aq _ e),hA⟩) (by rw[jt];omega)
 ·rintro r s' ⟨h',tk,acc,c,rfl,rfl,hS',hk,hA⟩
  have hp:=gT w a ep es
  have ea:acc.toList=(eW w a ep es).toList.map (·.2):=by
   apply List.ext_getElem?
   intro i
   rw[bg,lb,lb]
   by_cases c:i<acc.size
   ·obtain⟨e,h1,h2⟩:=hA.2 i acc[i] (di c)
    rw[di c,h1,h2];rfl
   ·have hw:(eW w a ep es).size=es.size:=by rw[<- cu,hp.length_eq,cu]
    rw[gq (by omega),gq (by have:=hA.1;omega)];rfl
  show wpAny _ A (load s.heap.objs.size >>= _) _ _ _
  refine af (wpAny_load hS' ?_)
  show wpAny _ _ (pure acc.toList) _ _ _
  exact ao (hQ h' tk acc.toList (by rw[ea];exact hp.map _) hk (b7 hS'))
end
end L2
namespace L2
open PySem PySem.Spec PySem.W PyProof.Rows
def vlI:Value->Int
 | .int k _=>k
 |_=>0
def yB (es:Array (Int×Value)):List Int:=es.toList.map λe=>vlI e.2
def ItE (es:Array (Int×Value)):Prop:=∀e∈es.toList,∃k tk,e=(wd k, .int k tk)
def uX (w:World) (a:Addr) (ks:List Int) (h:Heap):Prop:=∃es ep mask pl mv,h.get? a=some (tbO w es ep mask pl mv)/\Wk mask pl es.size/\es.size*5<mask*3/\ItE es/\yB es=ks/\ks.Nodup
theorem IntsAre.at':∀{vs:List Value}{ns:List Int}{i:Nat},IntsAre vs ns->i<ns.length->∃t,vs[i]?=some (.int (ns.getD i 0) t)
 |_,_,0, .cons n t r,_=>⟨t,rfl⟩
 |_,_,i+1, .cons n t r,h=>IntsAre.at' (i:=i) r (by simpa using h)
theorem aAY (es:Array (Int×Value)):(yB es).length=es.size:=by unfold yB;rw[ai,cu]
section
variable {prog:Program}{w:World}{A:Around}{E:Value->Shared->Prop}{s:Shared}{a:Addr}{es:Array (Int×Value)}
theorem ItE.elems (h:ItE es):ElemsOf (ic prog w) es.toList:=by
 intro e he
 obtain⟨k,tk,rfl⟩:=h e he
 exact⟨⟨k,xp _ _ _ _,rfl⟩,rfl⟩
theorem ItE.mem (h:ItE es)(k:Int):k∈yB es↔∃e∈es.toList,(ic prog w).is k e.2=true:=by
 unfold yB
 rw[c8]
 constructor
 ·rintro⟨e,he,hk⟩
  obtain⟨k',tk,rfl⟩:=h e he
  refine⟨_,he,?_⟩
  rw[show k=k' from hk.symm]
  exact xp _ _ _ _
 ·rintro⟨e,he,hi⟩
  obtain⟨k',tk,rfl⟩:=h e he
  exact⟨_,he,((ic prog w).inj _ _ _ hi (xp _ _ _ _)).symm⟩
theorem aGT {ks:List Int}{k:Int}{t:Tok}{Q:Bool->Shared->Prop}(hS:uX w a ks s.heap)(hn:ks.length<=60)
  (h:∀h' b ks',ir a s.heap h'->uX w a ks' h'->(k∈ks/\ks'.Perm ks\/k∉ks/\ks'.Perm (k :: ks))->Q b { s with heap:=h' }):wpAny (model prog w) A (setAddHashed a (.int k t) (wd k)) Q E s:=by
 obtain⟨es,ep,mask,pl,mv,ho,W,hz,hE,hk,nd⟩:=hS
 have hel:ElemsOf (ic prog w) es.toList:=hE.elems
 have sz:es.size<=60:=by rw[<- aAY,hk];exact hn
 have hf:(spT (!byT w) mask pl mv).fits es.size=true:=W.fits (by omega) _ _
 have hb:es.size<scanBound:=by unfold scanBound;omega
 have hkey:=xp prog w k t
 unfold setAddHashed setAddHashedIn
 refine ft (af (qa ho rfl hf ?_))
 dsimp only
 rw[byScan_of (knd:=ic prog w) rfl hb hel]
 simp only[↓reduceIte]
 unfold setAddByScan
 refine af ?_
 refine af (xm ?_)
 refine af (wpAny_setScan_of (knd:=ic prog w) hkey ho rfl hf hel ?_)
 cases hr:List.findIdx? (λe=>(ic prog w).is k e.2) es.toList with
 |some j=>
  dsimp only
  obtain⟨hj,hpj,_⟩:=List.findIdx?_eq_some_iff_getElem.mp hr
  have hin:k∈ks:=by rw[<- hk];exact(hE.mem (prog:=prog) (w:=w) k).mpr ⟨_,dg hj,hpj⟩
  refine ao (ao ?_)
  have e:s={ s with heap:=s.heap }:=by cases s;rfl
  rw[e]
  exact h s.heap _ ks (Heap.SameBut.refl a s.heap) ⟨es,ep,mask,pl,mv,ho,W,hz,hE,hk,nd⟩ (.inl ⟨hin, .refl _⟩)
 |none=>
  dsimp only
  have hn':k∉ks:=λz=>by
   rw[<- hk] at z
   obtain⟨e,he,hp⟩:=(hE.mem (prog:=prog) (w:=w) k).mp z
   have:=List.findIdx?_eq_none_iff.mp hr e he
   rw[hp] at this;exact Bool.noConfusion this
  obtain⟨pl1,e1,W1⟩:=aHb W hz (!byT w) mv (wd k) (.int k t)
  have pm:=layNew_perm (spT (!byT w) mask pl mv) es (wd k) (.int k t)
  generalize layNew (spT (!byT w) mask pl mv) es (wd k) (.int k t)=L at e1 pm ⊢
  obtain⟨es1,t1,b1,b2⟩:=L
  dsimp only at e1 pm ⊢
  simp only[Prod.mk.injEq] at e1
  obtain⟨rfl,rfl,rfl⟩:=e1
  refine af (ao ?_)
  have s1:es1.size=es.size+1:=by rw[<- cu,pm.length_eq,cu,Array.size_push]
  have E1:ItE es1:=λe he=>by
   rw[pm.mem_iff,ph,bo,ay] at he
   rcases he with he | rfl
   ·exact hE e he
   ·exact⟨k,t,rfl⟩
  have K1:(yB es1).Perm (k :: ks):=by
   have:=pm.map λe:Int×Value=>vlI e.2
   rw[ph,de] at this
   refine this.trans ?_
   show(yB es++[k]).Perm _
   rw[hk]
   exact List.perm_append_singleton k ks
  have N1:(yB es1).Nodup:=K1.nodup_iff.mpr (dk.mpr ⟨hn',nd⟩)
  have hz1:es1.size<=b8:=by rw[s1,jt];omega
  rw[if_pos (show(spT (!byT w) mask pl1 mv).plain=true from rfl),hashByValue_scannable 8 rfl]
  refine af (ao ?_)
  rw[if_pos (show plainKind (.int k t)=true from rfl)]
  refine af (wpAny_storeSet_of ho rfl ?_ hz1)
  have ho1:=yK (ks:=[]) (es':=es1) (t':=spT (!byT w) mask pl1 mv) ho rfl
  have sb1:=ke s.heap a (Obj.putSet es1 (spT (!byT w) mask pl1 mv))
  rw[aDG,W1.len]
  by_cases c:(es.size+1)*5≥mask*3
  ·rw[if_pos (by simp[c])]
   obtain⟨m',h1,h2,h3,h5⟩:∃m',uc (kq (es.size+1)) - 1=m'/\¬ uc (kq (es.size+1)) > b8/\M3 m'/\(es.size+1)*5<m'*3:=by
    rcases W.m with rfl | rfl | rfl
    ·have e:es.size=4:=by omega
     rw[e]
     exact⟨31,by decide+kernel,by rw[jt];decide+kernel, .inr (.inl rfl),by decide⟩
    ·have e:es.size=18:=by omega
     rw[e]
     exact⟨127,by decide+kernel,by rw[jt];decide+kernel, .inr (.inr rfl),by decide⟩
    ·omega
   obtain⟨pl2,e2,W2⟩:=aEp (es:=es1) (spT (!byT w) mask pl1 mv) (wanted:=kq es1.size) (by rw[s1];exact h1) h3 (by rw[s1];exact h5) (!byT w) ⟨rfl,rfl,rfl⟩
   have pm2:=relayAll_perm (spT (!byT w) mask pl1 mv) es1 (kq es1.size)
   generalize relayAll (spT (!byT w) mask pl1 mv) es1 (kq es1.size)=L2 at e2 pm2 ⊢
   obtain⟨es2,t2,b3⟩:=L2
   dsimp only at e2 pm2 ⊢
   simp only[Prod.mk.injEq] at e2
   obtain⟨rfl,rfl⟩:=e2
   have s2:es2.size=es1.size:=by rw[<- cu,pm2.length_eq,cu]
   have K2:(yB es2).Perm (yB es1):=pm2.map λe:Int×Value=>vlI e.2
   refine af (ao (af (wpAny_storeSet_of ho1 rfl ?_ (by rw[s2];exact hz1))))
   have ho2:=yK (ks:=[]) (es':=es2) (t':=spT (!byT w) m' pl2 ((spT (!byT w) mask pl1 mv).movedTo m')) ho1 rfl
   exact ao (ao (h _ _ (yB es2) (sb1.trans (ke _ a _)) ⟨es2,_,m',pl2,_,ho2,by rw[s2];exact W2,by rw[s2,s1];exact h5,λe he=>E1 e (pm2.mem_iff.mp he),rfl,K2.nodup_iff.mpr N1⟩ (.inr ⟨hn',K2.trans K1⟩)))
  ·rw[if_neg (by simp[c])]
   exact ao (ao (h _ _ (yB es1) sb1 ⟨es1,_,mask,pl1,mv,ho1,by rw[s1];exact W1,by rw[s1];omega,E1,rfl,N1⟩ (.inr ⟨hn',K1⟩)))
theorem aBP (h:Heap):uX w h.objs.size [] (h.push (smO w #[] 0 [])):=⟨#[],0,7,[],0,br _ rfl,⟨.inl rfl,rfl, .nil⟩,by decide,(λe he=>by cases he),rfl,qd⟩
end
section
variable {prog:Program}{w:World}{A:Around}{R:vp->Shared->Prop}{I:Addr}{fp wr:List Addr}{G:Array GenState->Array GenState->Prop}{n:Nat}{P:Nat->Value->Prop}{St:Nat->Shared->Prop}
theorem aFJ (W:WalksS prog w A.in1 I fp wr G n P St)(S:Addr)(hSf:S∉fp)(val:Nat->Int)(hval:∀i v,i<n->P i v->∃t,v = .int (val i) t)(h60:n<=60) :
  ∀(k i:Nat) (ks:List Int) (s:Shared),n - i=k->i<=n->St i s->uX w S ks s.heap->(∀j,j∈ks↔∃m,m<i/\val m=j)->ks.length<=i ->
   (∀ks' s',Moved (S :: wr) G s s'->uX w S ks' s'.heap->(∀j,j∈ks'↔∃m,m<n/\val m=j)->R (.ok (.ret .none)) s') ->
   uf (model prog w) A (.builtin "set.update.loop" ⟨[.ref S, .ref I],[]⟩) R s:=by
 have hSw:S∉wr:=λh=>hSf (W.sub _ h)
 have hsub:∀b∈wr,b∈S :: wr:=λb hb=>ar _ hb
 have up:∀{ks:List Int}{s s':Shared},Moved wr G s s'->uX w S ks s.heap->uX w S ks s'.heap:=λhm ⟨es,ep,mk,pl,mv,ho,hE⟩=>⟨es,ep,mk,pl,mv,hm.heap S _ hSw ho,hE⟩
 intro k
 induction k with
 |zero=>
  intro i ks s hk hi hst hS hm _ hR
  have hin:i=n:=by omega
  subst hin
  refine gu vk ?_
  rw[gp oo _]
  show wpAny _ A.in1 (wm (.ref I) >>= _) _ _ s
  refine af (W.done s _ _ hst λs' hmv=>?_)
  show wpAny _ A.in1 (ret Value.none) _ _ s'
  exact ao (hR ks s' (hmv.mono hsub) (up hmv hS) hm)
 |succ k ih=>
  intro i ks s hk hi hst hS hm hl hR
  have hlt:i<n:=by omega
  refine gu vk ?_
  rw[gp oo _]
  show wpAny _ A.in1 (wm (.ref I) >>= _) _ _ s
  refine af (W.item i s _ _ hlt hst λv s' hP hst' hmv=>?_)
  obtain⟨t,rfl⟩:=hval i v hlt hP
  have hS':=up hmv hS
  show wpAny _ A.in1 (wj [Value.int (val i) t] (setAdd S (.int (val i) t)) >>= _) _ _ s'
  refine af (ft ?_)
  unfold setAdd
  refine ft ?_
  refine af ((ic prog w).pyHash (k:=val i) (xp _ _ _ _) ?_)
  refine aGT (s:={ s' with toks:=s'.toks+1 }) hS' (by omega) λh' b ks1 hsb hS2 hcase=>?_
  have pj:∀j,j∈ks1↔j∈ks\/j=val i:=λj=>by
   rcases hcase with⟨h1,h2⟩ | ⟨h1,h2⟩
   ·rw[h2.mem_iff]
    exact⟨.inl,λz=>z.elim id λe=>e ▸ h1⟩
   ·rw[h2.mem_iff,a9]
    exact⟨λz=>z.elim .inr .inl,λz=>z.elim .inr .inl⟩
  have l1:ks1.length<=i+1:=by
   rcases hcase with⟨h1,h2⟩ | ⟨h1,h2⟩
   ·rw[h2.length_eq];omega
   ·rw[h2.length_eq,ba];omega
  refine ao ⟨mi oo _,ih (i+1) _ _ (by omega) hlt (W.frame _ s' _ _ hst' (nj _) λb hb o e=>?_) hS2 (λj=>?_) l1 λks' s'' hm'' hS'' hks=>?_⟩
  ·rw[hsb.2 b (λh:b=S=>hSf (by rw[<- h];exact hb))];exact e
  ·rw[pj,hm j]
   constructor
   ·rintro(⟨m,h1,h2⟩ | rfl)
    ·exact⟨m,iq h1,h2⟩
    ·exact⟨i,jk i,rfl⟩
   ·rintro⟨m,h1,h2⟩
    rcases Nat.lt_succ_iff_lt_or_eq.mp h1 with h1 | rfl
    ·exact .inl ⟨m,h1,h2⟩
    ·exact .inr h2.symm
  ·refine hR ks' s'' (Moved.trans W.gtrans ((hmv.mono hsub).then_heap (nj _) λb o hb e=>?_) hm'') hS'' hks
   rw[hsb.2 b (λh:b=S=>hb (by rw[h];exact bp))];exact e
end
section
variable {prog:Program}{w:World}{A:Around}{E:Value->Shared->Prop}{s:Shared}
theorem xT {l:Addr}{items:Array Value}{ns:List Int}{Q:Value->Shared->Prop}(hh:A.handled=none)(hl:s.heap.IsList l items)(hi:IntsAre items.toList ns)(h60:ns.length<=60)
  (h:∀(h':Heap) (tk:Nat) (us:List Int),uX w s.heap.objs.size us h'->(∀j,j∈us↔j∈ns)->(∀b o,b<s.heap.objs.size->s.heap.get? b=some o->h'.get? b=some o)->Q (.ref s.heap.objs.size) { s with heap:=h',toks:=tk }) :
  wpAny (model prog w) A (call (.type "set") [.ref l]) Q E s:=by
 obtain⟨c,tl,hmro⟩:=me.mro
 have hmade:=me.made
 have hsub:=me.sub
 refine wpAny_call (wu ?_)
 show wpAny _ _ (callAny (.type "set") _) _ _ _
 refine ao ⟨Code.quiet_builtin _ (by decide+kernel),gu F.entry_type_call ?_⟩
 rw[Around.under_plain (weight_type_call_type "set" [.ref l] []) rfl]
 have h1:=me.notType
 have h2:=me.canCreate
 have hct:=F.typeCall_set_1 (.ref l)
 repeat (any_goals (first | assumption | wp_step))
 refine jq (aGd (.ref l) (E:=E) (Q₁:=λobj s1=>obj = .ref s.heap.objs.size/\s1={ s with heap:=s.heap.push (smO w #[] 0 []) }) ⟨rfl,rfl⟩) λr s1 hr=>?_
 cases r with
 |error e=>exact hr
 |ok fl=>
  cases fl with
  |ret obj=>
   obtain⟨rfl,rfl⟩:=hr
   have hS:(s.heap.push (smO w #[] 0 [])).get? s.heap.objs.size=some (smO w #[] 0 []):=br _ rfl
   have hT:Shared.TypeIs { s with heap:=s.heap.push (smO w #[] 0 []) } (.ref s.heap.objs.size) "set":=⟨_,hS,rfl⟩
   have hli:=me.init.lookup
   have hbi:=me.init.bind (.ref s.heap.objs.size)
   repeat (any_goals (first | assumption | wp_step))
   refine jq (codeAny_call_builtin (R:=wants (λr s2=>r = .none/\∃h' tk us,s2={ s with heap:=h',toks:=tk }/\uX w s.heap.objs.size us h'/\(∀j,j∈us↔j∈ns)/\∀b o,b<s.heap.objs.size->s.heap.get? b=some o->h'.get? b=some o) E) me.init.plain F.entry_set_init (check_set_init_1 hT ?_)) λr2 s2 hr2=>?_
   ·obtain⟨ol,hol,hcl,nl,hdl⟩:=hl
    obtain⟨ocls,odict,odata,oslots⟩:=ol
    simp only at hcl hdl
    subst hcl;subst hdl
    have hol':(s.heap.push (smO w #[] 0 [])).get? l=some { cls := .type "list",dict:=odict,data := .seq items nl,slots:=oslots }:=aq _ hol
    have hsls:=F.sub_list_set
    have hslf:=F.sub_list_frozenset
    have hne:(Value.type "list" == Value.type "dict")=false:=by decide
    have hl1:(s.heap.push (smO w #[] 0 [])).IsList l items:=⟨_,hol',rfl,nl,rfl⟩
    have hlS:l<s.heap.objs.size:=b7 hol
    unfold Builtin.«set.__init__» noKeywords Builtin.Frozenset.updateFrom
    generalize hPI:Ah=PI
    wp_walk
    subst hPI
    refine ur hl1 ?_
    refine af (yd ?_)
    have hh3:A.in1.in1.in1.handled=none:=by simp[hh]
    have hneI:l≠(s.heap.push (smO w #[] 0 [])).objs.size:=by
     rw[jb]
     exact dt (iq hlS)
    have hlen:items.size=ns.length:=by rw[<- cu,IntsAre.len hi]
    refine aFJ ((Walks.list hh3 _ l hneI items).toS) s.heap.objs.size ?_ (λi=>ns.getD i 0) (λi v hlt hv=>?_) (by omega) (items.size - 0) 0 [] _ (by omega) (bc _) ⟨⟨_,br _ rfl,rfl,rfl⟩,hl1.push _⟩ ?_ (λj=>⟨(λz=>by cases z),λ⟨m,h,_⟩=>absurd h (lx m)⟩) (bc _) ?_
    ·rw[jb]
     simp only[a9,List.not_mem_nil,or_false,not_or]
     exact⟨dt (jk _),sr hlS⟩
    ·have hv:items[i]?=some v:=hv
     rw[<- lb] at hv
     obtain⟨t,e⟩:=IntsAre.at' hi (show i<ns.length by omega)
     rw[e] at hv
     exact⟨t,(bu hv).symm⟩
    ·obtain⟨es,ep,mk,pl,mv,a1,a2⟩:=aBP (w:=w) s.heap
     exact⟨es,ep,mk,pl,mv,aq _ a1,a2⟩
    ·intro us' s' hm hS' hks
     obtain⟨h',g',d',tk',os'⟩:=s'
     have eg:g'=s.gens:=hm.gens
     have ed:d'=s.drawn:=hm.drawn
     have eo:os'=s.os:=hm.os
     subst eg ed eo
     show wpAny _ _ _ _ _ _
     refine ao ?_
     show wpAny _ _ (ret Value.none) _ _ _
     refine ao ⟨rfl,h',tk',us',rfl,hS',λj=>?_,λb o hb e=>hm.heap b o ?_ (aq _ (aq _ e))⟩
     ·rw[hks j]
      constructor
      ·rintro⟨m,h1,h2⟩
       rw[<- h2]
       try dsimp only
       rw[ak,ae (show m<ns.length by omega)]
       exact dg _
      ·intro hj
       obtain⟨m,hm'⟩:=fq.mp hj
       refine⟨m,by rw[hlen];exact(ah.mp hm').1,?_⟩
       try dsimp only
       rw[ak,hm'];rfl
     ·rw[jb]
      simp only[a9,List.not_mem_nil,or_false,not_or]
      exact⟨dt hb,dt (iq hb)⟩
   ·cases r2 with
    |error e=>exact hr2
    |ok fl2=>
     cases fl2 with
     |ret r=>
      obtain⟨rfl,h',tk,us,rfl,hd⟩:=hr2
      repeat (any_goals (first | assumption | wp_step))
      exact h _ _ _ hd.1 hd.2.1 hd.2.2
     |_=>exact hr2.elim
  |_=>exact hr.elim
end
theorem sC:∀{vs:List Value},(∀v∈vs,∃k tk,v = .int k tk)->IntsAre vs (vs.map vlI)
 |[],_ => .nil
 |v :: vs,h=>by
  obtain⟨k,tk,rfl⟩:=h v (bp ..)
  exact .cons k tk (sC λv hv=>h v (ar _ hv))
section
variable {prog:Program}{w:World}{A:Around}{E:Value->Shared->Prop}{s:Shared}{a:Addr}
theorem aBE {ks:List Int}{Q:Value->Shared->Prop}(hh:A.handled=none)(hS:uX w a ks s.heap)(h60:ks.length<=60)
  (q:∀(l:Addr) (h':Heap) (tk:Nat) (out:Array Value) (c:Nat) (ns:List Int),s.heap.objs.size<=l->(∀b o,s.heap.get? b=some o->h'.get? b=some o)->h'.get? l=some (jr "list" out c)->IntsAre out.toList ns->ns.Perm ks->ns.Pairwise (·<=·)->Q (.ref l) { s with heap:=h',toks:=tk }):wpAny (model prog w) A (call (.builtin "sorted") [.ref a]) Q E s:=by
 obtain⟨es,ep,mask,pl,mv,ho,W,hz,hE,hk,nd⟩:=hS
 refine mz An Ab Ac (Ad _) ?g1
 case g1=>
  unfold vv
  refine af (m:=checkCount "sorted" 1 1 _) (ao (af (wE hh ho W hz λh1 tk acc hp hk1 hz1=>?g2)))
  case g2=>
   have hI:IntsAre acc (acc.map vlI):=sC λv hv=>by
    obtain⟨e,he,rfl⟩:=c8.mp (hp.mem_iff.mp hv)
    obtain⟨k,tk,rfl⟩:=hE e he
    exact⟨k,tk,rfl⟩
   have pk:(acc.map vlI).Perm ks:=by
    rw[<- hk]
    have:=hp.map vlI
    rw[jc] at this
    exact this
   have hl:acc.length=ks.length:=by rw[<- pk.length_eq,ai]
   refine af (qz ?g3 (by rw[hl,jt];omega))
   case g3=>
    have e2:(h1.push (jr "list" acc.toArray 0)).get? h1.objs.size=some (jr "list" acc.toArray 0):=br _ rfl
    show wpAny _ _ _ _ _ { s with heap:=h1.push (jr "list" acc.toArray 0),toks:=tk }
    refine af (ft (gi ye ⟨_,e2,rfl⟩ wz (list_sort_tree (s:={ s with heap:=h1.push (jr "list" acc.toArray 0),toks:=tk }) e2 hI (by omega) λout ns' a1 a2 a3=>⟨_,rfl,ao ⟨_,rfl,?g4⟩⟩) (yf _)))
    case g4=>
     obtain⟨c,he⟩:=sortedHeap_at (vs:=acc) (out:=out) e2
     refine q h1.objs.size _ tk out c ns' (gw hz1) (λb o e=>?_) he a1 (a2.trans pk) a3
     have hb:b<h1.objs.size:=b7 (hk1 b o e)
     rw[sortedHeap_old (dt hb) (by rw[jb];exact iq hb)]
     exact aq _ (hk1 b o e)
end
section
variable {X:Cx}
def aFc (w:World) (K:aa):List V->Hp->VK->Prop:=λvs H Q=>∃(a:Addr) (ns:List Int),vs=[.ref a]/\SqL K H a (ns.map V.int)/\ns.length<=60/\∀p ks,H p=none->ks.Nodup->ks.length<=60->(∀j,j∈ks↔j∈ns)->Q (.ref p) (upd H p (.ext (uX w p ks)))
def aCN (w:World):List V->Hp->VK->Prop:=λvs H Q=>∃(a:Addr) (ks:List Int),vs=[.ref a]/\H a=some (.ext (uX w a ks))/\ks.length<=60/\∀(l:Addr) (ns:List Int),H l=none->ns.Perm ks->ns.Pairwise (·<=·)->Q (.ref l) (upd H l (.lst (ns.map V.int)))
theorem yT (hc:X.calm=true):CallR X (.type "set") (aFc X.w X.K):=by
 intro pins s σ H xs us Q I r ⟨a,ns,e,ha,h60,q⟩
 subst e
 obtain⟨u,rfl,ru⟩:=r.one
 obtain rfl:u=Value.ref a:=ru
 obtain⟨its,rv,pl,hz⟩:=I.list ha
 refine xT (items:=its.toArray) (ns:=ns) (I.ok.hd hc) pl.isList (by simpa using zT rv) h60 λh' tk ks d1 dm d2=>?_
 obtain⟨es,ep,mk,pl',mv,o1,o2,o3,o4,o5,o6⟩:=id d1
 have l60:ks.length<=60:=bq (aDl ks ns o6 λj hj=>(dm j).mp hj) h60
 exact⟨.ref s.heap.objs.size,_,I.laid (a:=s.heap.objs.size) (o := .ext (uX X.w s.heap.objs.size ks)) (λb u e=>d2 b u (b7 e) e) (az _) ⟨d1,⟨_,o1⟩,λh1 h2 ⟨es,ep,mk,pl,mv,z1,z2⟩ k=>⟨es,ep,mk,pl,mv,k _ z1,z2⟩⟩,rfl,q _ _ (I.hok.fresh (az _)) o6 l60 dm⟩
theorem xB (hc:X.calm=true):CallR X (.builtin "sorted") (aCN X.w):=by
 intro pins s σ H xs us Q I r ⟨a,ks,e,ha,h60,q⟩
 subst e
 obtain⟨u,rfl,ru⟩:=r.one
 obtain rfl:u=Value.ref a:=ru
 have hS:uX X.w a ks s.heap:=(I.hok a _ ha).1
 refine aBE (I.ok.hd hc) hS h60 λl h' tk out c ns hl hk he hI pm srt=>?_
 refine⟨.ref l,_,I.laid (a:=l) (t':=tk) (o := .lst (ns.map V.int)) hk hl ⟨?_,out.toList,c,gE hI,by simpa using he⟩,rfl,q l ns (I.hok.fresh hl) pm srt⟩
 rw[ai,pm.length_eq,jt]
 omega
def aHN (K:aa):List V->Hp->VK->Prop:=λvs H Q=>∃(a:Addr) (ns:List Int),vs=[.ref a]/\SqL K H a (ns.map V.int)/\ns.length<=60 /\
 ∀ks:List Int,ks.Pairwise (· < ·)->(∀j,j∈ks↔j∈ns)->∀H',Same H H'->∀l,H' l=none->Q (.ref l) (upd H' l (.lst (ks.map V.int)))
theorem aEO {K:aa}{x y:Str}{p p' pos pos':Pos}{e:Expr}{es:List Expr}{t:TA}(hK:X.K=K)(hc:X.calm=true)(hg:Gl X x)(hm:X.mg x=none)(hv:dw x=some (.builtin "sorted"))(hg':Gl X y)(hm':X.mg y=none)(hv':dw y=some (.type "set"))(ha:PA X (e :: es) t)
  (hn:x≠"__name__":=by decide) (hdb:(x == ("__debug__" : Str))=false:=by decide) (hn':y≠"__name__":=by decide) (hdb':(y == ("__debug__" : Str))=false:=by decide)
  (he:ff (e :: es) X.env=(false,eval e X.env) :: ff es X.env:=by rfl) (hpl:(vo pos' (ff es X.env)).any (·.1)=false:=by rfl):PE X (.Call (.Name x p) [.Call (.Name y p') (e :: es) [] pos'] [] pos) (tCB (aHN K) t):=by
 subst hK
 have h1:PE X (.Call (.Name x p) [.Call (.Name y p') (e :: es) [] pos'] [] pos) (tCB (aCN X.w) (aB (tCB (aFc X.w X.K) (tCl t)) aO)):=aI (xB hc) hg hm hv (aP (bE (yT hc) hg' hm' hv' (aGH ha) hn' hdb' he hpl) aE) hn hdb
 intro pins s σ H Q I h
 refine h1 pins s σ H Q I ⟨_,h,λvs H1 ⟨a,ns,e1,e2,e3,e4⟩=>⟨a,ns,e1,e2,e3,λp ks hp nd l60 hj=>?_⟩⟩
 refine⟨p,ks,rfl,aF,l60,λl ms hl pm srt=>e4 ms ?_ (λj=>by rw[pm.mem_iff];exact hj j) _ (aH hp _) l hl⟩
 have nd':ms.Nodup:=pm.nodup_iff.mpr nd
 refine uz (R:=λa b=>a<=b/\a≠b) (λ{a b} _ _ h=>by omega) ?_
 exact List.pairwise_and_iff.mpr ⟨srt,nd'⟩
end
end L2
namespace K31
open PySem L2
def top (i:Nat):Stmt:=PySem.Challenge.pw_homeround_k31_trees_looked_at.main.body.getD i (.Pass ⟨0,0,0,0⟩)
section
variable {P:Program}{w:World}{K:aa}{mg:Str->Option Value}{base:Heap}
variable (B:aHE mg){p0:Sp}(d0:Def P w K mg base "is_whole" 1 ["thing"] p0){p1:Sp}(d1:Def P w K mg base "are_wholes" 2 ["thing"] p1){c0:Addr}(e0:mg "NotEven" = some (.ref c0))(x0:oe K c0 aGu "ValueError.__new__" = true){p2:Sp}(d2:Def P w K mg base "is_even" 1 ["table"] p2){p3:Sp}(d3:Def P w K mg base "tree_sum" 1 ["table","ties"] p3){p4:Sp}(d4:Def P w K mg base "is_tree" 4 ["many","ties"] p4){p5:Sp}(y0:DefX P w K mg base "least_tree" 2 ["table"] p5){p6:Sp}(d5:Def P w K mg base "is_tie" 3 ["many","thing"] p6){p7:Sp}(d6:Def P w K mg base "parts" 1 ["places","ties"] p7){p8:Sp}(d7:Def P w K mg base "_law_cmixed" 1 ["cell","at"] p8){p9:Sp}(d8:Def P w K mg base "_law_cdraw" 2 ["feed","many"] p9){p10:Sp}(d9:Def P w K mg base "_law_cpairs" 1 ["many"] p10){p11:Sp}(d10:Def P w K mg base "_law_cshort" 1 ["rows"] p11){p12:Sp}(d11:Def P w K mg base "_law_cwhole" 1 ["thing"] p12){p13:Sp}(d12:Def P w K mg base "_law_cahead" 1 ["ties","start"] p13){p14:Sp}(d13:Def P w K mg base "_law_cis_tie" 2 ["many","thing"] p14){p15:Sp}(d14:Def P w K mg base "_law_corder" 3 ["feed","some"] p15){p16:Sp}(d15:Def P w K mg base "_law_cswapped" 1 ["some","at"] p16){p17:Sp}(d16:Def P w K mg base "_law_cdrawn_tree" 4 ["feed","many"] p17){p18:Sp}(d17:Def P w K mg base "_law_ceven" 3 ["feed","least","most"] p18){p19:Sp}(d18:Def P w K mg base "_law_cis_least" 2 ["table","ties"] p19){p20:Sp}(d19:Def P w K mg base "_law_cis_tree" 3 ["many","ties"] p20){p21:Sp}(d20:Def P w K mg base "_law_cleast_ties" 4 ["feed","table"] p21){p22:Sp}(d21:Def P w K mg base "_law_copen" 1 ["script"] p22){p23:Sp}(d22:Def P w K mg base "_law_ctie_bends" 4 ["feed","many","ties"] p23){p24:Sp}(y1:DefX P w K mg base "is_least_tree" 5 ["table","ties"] p24)
def oM (K:aa) : TS:=(aQ (eZ (nB (tCB (xM K) (aB (aD 0) (aB (tC (.ty "int")) aO))) (aDD (tCB (xM K) (aB (aD 0) (aB (tC (.ty "bool")) aO)))))) aL)
def uJ : OkN P w K mg base "is_whole" (top 4) 1 ["thing"] ["thing"] (oM K):=okN λ_ _ _ _ _ _ _ nd hr=>(aC (bH (kD (aI (dA (K:=K) rfl) rfl B.isi iP (aA (pv 0) (aA (fH (v := .ty "int") rfl B.int aCU rfl) aE))) (lN (aCZ (aI (dA (K:=K) rfl) rfl B.isi iP (aA (pv 0) (aA (fH (v := .ty "bool") rfl B.bool oQ rfl) aE))))))) aG)
def jZ (K:aa) (p0:Sp) : TS:=(aQ (eZ (nB (tCB (xM K) (aB (aD 0) (aB (tC (.ty "tuple")) aO))) (tCB (aGs K) (aB (fS [none] (gL K (aD 0)) (aJ 0) [] λacc=>(eJ (bD p0 [] E0 (aB (aD 0) aO)) acc)) aO)))) aL)
def pJ : OkN P w K mg base "are_wholes" (top 5) 2 ["thing"] ["thing"] (jZ K p0):=okN λ_ _ _ _ _ _ _ nd hr=>(aC (bH (kD (aI (dA (K:=K) rfl) rfl B.isi iP (aA (pv 0) (aA (fH (v := .ty "tuple") rfl B.tuple gK rfl) aE))) (lN (aI (lV (K:=K) rfl rfl) rfl B.all zV (cD (dS (N':=["part"]) (ix:=[none]) rfl rfl rfl (bL (K:=K) rfl (pv 0)) (λ_ _ _=>(aS (i:=0) (show(["part"]:List Str).Nodup from by decide+kernel) rfl (Or.inl rfl))) (λ_ _ _ => .nil) (λ_ _ _ _=>(cV rfl (bA (d0.mono (by decide)) hr rfl (aA (pv 0) aE)) rfl))) aE))))) aG)
def vX (K:aa) (p1:Sp) : TS:=(aQ (eZ (nB (bD p1 [] E0 (aB (aD 1) aO)) (nB (tOp (fZ K) (tCB (hU K) (aB (aD 1) aO)) (tC (.int 2))) (tZ yLe yLt yLt (tC (.int 0)) (tOp (bC K) (aD 1) (tC (.int 0))) (tOp (bC K) (aD 1) (tC (.int 1))) (aD 0))))) aL)
def aAh : OkN P w K mg base "is_tie" (top 6) 3 ["many","thing"] ["many","thing"] (vX K p1):=okN λ_ _ _ _ _ _ _ nd hr=>(aC (bH (kD (bA (d1.mono (by decide)) hr rfl (aA (pv 1) aE)) (kD (fT (eB (K:=K) rfl hr) (aI (aU (K:=K) rfl) rfl B.len bX (aA (pv 1) aE)) aK (bV _)) (lN (sI aFv wW wW aK (bF (aT (K:=K) rfl) (pv 1) aK (λ_ _=>rfl)) (bF (aT (K:=K) rfl) (pv 1) aK (λ_ _=>rfl)) (pv 0)))))) aG)
def zB (K:aa) : TS:=(aQ (bO (fS [none] (gL K (aD 0)) (aJ 0) [] λacc=>(eJ (eU (aB (aD 0) aO)) acc)) (aJ 2)) (aQ (hV (gL K (aD 1)) (aAU K 2 (eX (aJ 3) (eX (aJ 4) aBo))) (aQ (bO (fS [none,some 3,some 4] (gL K (aD 2)) (aJ 0) [(tOr (bU (tOp (aEC K false) (aD 1) (aD 0))) (bU (tOp (aEC K false) (aD 2) (aD 0))))] λacc=>(eJ (aD 0) acc)) (aJ 5)) (aQ (fA (bU (tOp (fZ K) (tCB (hU K) (aB (aD 5) aO)) (tC (.int 2)))) (aQ (bO (tOp (bN K) (fS [none,some 5] (gL K (aD 2)) (aJ 0) [(bU (tOp (aEC K true) (aD 0) (aD 1)))] λacc=>(eJ (aD 0) acc)) (eU (aB (tOp (bN K) (tOp (bC K) (aD 5) (tC (.int 0))) (tOp (bC K) (aD 5) (tC (.int 1)))) aO))) (aJ 2)) aL) aL) aL))) (aQ (eZ (aD 2)) aL)))
def aBJ : OkN P w K mg base "parts" (top 7) 1 ["places","ties","found","i","j","tied"] ["places","ties"] (zB K):=okN λ_ _ _ _ _ _ _ nd hr=>(aC (gG (i:=2) nd rfl (Or.inl rfl) (N':=["place"]) (ix:=[none]) rfl rfl rfl (bL (K:=K) rfl (pv 0)) (λ_ _ _=>(aS (i:=0) (show(["place"]:List Str).Nodup from by decide+kernel) rfl (Or.inl rfl))) (λ_ _ _ => .nil) (λ_ _ _ _=>(cV rfl (bY (aA (pv 0) aE)) rfl))) (aC (cO df rfl (bL (K:=K) rfl (pv 1)) (fI (K:=K) rfl rfl (bQ (aS (i:=3) nd rfl (Or.inr rfl)) (bQ (aS (i:=4) nd rfl (Or.inr rfl)) fK))) (aC (aY (i:=5) nd rfl (.inr rfl) (dS (N':=["part","i","j"]) (ix:=[none,some 3,some 4]) rfl rfl rfl (bL (K:=K) rfl (pv 2)) (λ_ _ _=>(aS (i:=0) (show(["part","i","j"]:List Str).Nodup from by decide+kernel) rfl (Or.inl rfl))) (λ_ _ _=>(.cons (PW.pt (mX (bP (yI (K:=K) rfl hr) (pv 1) (pv 0) rfl) (iE (bP (yI (K:=K) rfl hr) (pv 2) (pv 0) rfl)))) .nil)) (λ_ _ _ _=>(cV rfl (pv 0) rfl)))) (aC (eL (bP (eB (K:=K) rfl hr) (aI (aU (K:=K) rfl) rfl B.len bX (aA (pv 5) aE)) aK (bV _)) (aC (aY (i:=2) nd rfl (.inl rfl) (bB (aW (K:=K) rfl) (dS (N':=["part","tied"]) (ix:=[none,some 5]) rfl rfl rfl (bL (K:=K) rfl (pv 2)) (λ_ _ _=>(aS (i:=0) (show(["part","tied"]:List Str).Nodup from by decide+kernel) rfl (Or.inl rfl))) (λ_ _ _=>(.cons (bP (wI (K:=K) rfl hr) (pv 0) (pv 1) rfl) .nil)) (λ_ _ _ _=>(cV rfl (pv 0) rfl))) (bY (cE (bB (aW (K:=K) rfl) (bF (aT (K:=K) rfl) (pv 5) aK (λ_ _=>rfl)) (bF (aT (K:=K) rfl) (pv 5) aK (λ_ _=>rfl))) aE)))) aG) aG) aG))) (aC (bH (pv 2)) aG)))
def qO (K:aa) : TS:=(aQ (bO (tCB (hU K) (aB (aD 0) aO)) (aJ 1)) (aQ (eZ (tCB (aGs K) (aB (fS [none,none,some 0] (kH (aB (aD 1) aO)) (aJ 0) [] λacc=>(hV (kH (aB (aD 0) aO)) (aJ 1) (fX [] (eJ (tOp (fZ K) (tOp (bC K) (tOp (bC K) (aD 2) (aD 0)) (aD 1)) (tOp (bC K) (tOp (bC K) (aD 2) (aD 1)) (aD 0))) acc)))) aO))) aL))
def xK : OkN P w K mg base "is_even" (top 9) 1 ["table","many"] ["table"] (qO K):=okN λ_ _ _ _ _ _ _ nd hr=>(aC (aY (i:=1) nd rfl (.inl rfl) (aI (aU (K:=K) rfl) rfl B.len bX (aA (pv 0) aE))) (aC (bH (aI (lV (K:=K) rfl rfl) rfl B.all zV (cD (dS (N':=["i","j","table"]) (ix:=[none,none,some 0]) rfl rfl rfl (cP rfl B.range (aA (pv 1) aE)) (λ_ _ _=>(aS (i:=0) (show(["i","j","table"]:List Str).Nodup from by decide+kernel) rfl (Or.inl rfl))) (λ_ _ _ => .nil) (λ_ _ _ _=>(aBj rfl rfl rfl (λ_ h=>by first | (cases h;rfl) | cases h) (cP rfl B.range (aA (pv 0) aE)) (aS (i:=1) (show(["i","j","table"]:List Str).Nodup from by decide+kernel) rfl (Or.inl rfl)) .nil (cV rfl (fT (eB (K:=K) rfl hr) (bF (aT (K:=K) rfl) (bF (aT (K:=K) rfl) (pv 2) (pv 0) (λ_ _=>rfl)) (pv 1) (λ_ _=>rfl)) (bF (aT (K:=K) rfl) (bF (aT (K:=K) rfl) (pv 2) (pv 1) (λ_ _=>rfl)) (pv 0) (λ_ _=>rfl)) (bV _)) rfl)))) aE))) aG))
def jT (K:aa) (c0:Addr) (E:XK) (p2:Sp) (p3:Sp) : TS:=(aQ (fA (yA (tB (bD p2 [] E0 (aB (aD 0) aO)))) (aQ (aBk c0 E) aL) aL) (aQ (bO (eU aO) (aJ 1)) (aQ (bO (eU (aB (tC (.int 0)) aO)) (aJ 2)) (aQ (bO (tCB (nE K) (aB (tCB aEL (aB (tC (.int 1)) (aB (tCB (hU K) (aB (aD 0) aO)) aO))) aO)) (aJ 3)) (aQ (uZ (aHJ K (aD 3)) (aQ (bO (tCB (aDV K) (aB (fS [none,none,some 3,some 0] (gL K (aD 2)) (aJ 0) [] λacc=>(hV (gL K (aD 2)) (aJ 1) (fX [] (eJ (eK (aB (tOp (bC K) (tOp (bC K) (aD 3) (aD 0)) (aD 1)) (aB (aD 0) (aB (aD 1) aO)))) acc)))) aO)) (aAU K 3 (eX (aJ 4) (eX (aJ 5) (eX (aJ 6) aBo))))) (aQ (jP (tBM K "list" dH (aD 1) (aB (eK (aB (tCB nL (aB (aD 5) (aB (aD 6) aO))) (aB (tCB aFk (aB (aD 5) (aB (aD 6) aO))) aO))) aO))) (aQ (jP (tBM K "list" dH (aD 2) (aB (aD 6) aO))) (aQ (jP (tBM K "list" aGb (aD 3) (aB (aD 6) aO))) aL))))) (aQ (eZ (eK (aB (bD p3 [] E0 (aB (aD 0) (aB (aD 1) aO))) (aB (tCB (jW K) (aB (aD 1) aO)) aO)))) aL))))))
def oS : OkX P w K mg base "least_tree" (top 11) 2 ["table","ties","inside","outside","way","one","other"] ["table"] (λE=>jT K c0 E p2 p3):=okX λ_ _ _ _ _ _ E nd hr=>(aC (eL (PT.nox (iF (iD (bA (d2.mono (by decide)) hr rfl (aA (pv 0) aE))))) (aC (yO (K:=K) rfl wQ rfl rfl e0 x0) aG) aG) (aC (PS.nox (aY (i:=1) nd rfl (.inl rfl) (bY aE))) (aC (PS.nox (aY (i:=2) nd rfl (.inl rfl) (bY (bK aK aE)))) (aC (PS.nox (aY (i:=3) nd rfl (.inr rfl) (bE (cW (K:=K) rfl rfl) rfl B.list fD (aP (bE jA rfl B.range lI (bK aK (aP (aI (aU (K:=K) rfl) rfl B.len bX (aA (pv 0) aE)) aE))) aE)))) (aC (PS.nox (oP df (aEg (K:=K) rfl (pv 3) (λ_=>rfl)) (aC (iQ (aI (nZ (K:=K) rfl hr rfl) rfl B.min rF (cD (dS (N':=["one","other","outside","table"]) (ix:=[none,none,some 3,some 0]) rfl rfl rfl (bL (K:=K) rfl (pv 2)) (λ_ _ _=>(aS (i:=0) (show(["one","other","outside","table"]:List Str).Nodup from by decide+kernel) rfl (Or.inl rfl))) (λ_ _ _ => .nil) (λ_ _ _ _=>(aBj rfl rfl rfl (λ_ h=>by first | (cases h;rfl) | cases h) (bL (K:=K) rfl (pv 2)) (aS (i:=1) (show(["one","other","outside","table"]:List Str).Nodup from by decide+kernel) rfl (Or.inl rfl)) .nil (cV rfl (cG (cX (bF (aT (K:=K) rfl) (bF (aT (K:=K) rfl) (pv 3) (pv 0) (λ_ _=>rfl)) (pv 1) (λ_ _=>rfl)) (aA (pv 0) (aA (pv 1) aE)))) rfl)))) aE)) (fI (K:=K) rfl rfl (bQ (aS (i:=4) nd rfl (Or.inl rfl)) (bQ (aS (i:=5) nd rfl (Or.inl rfl)) (bQ (aS (i:=6) nd rfl (Or.inl rfl)) fK))))) (aC (eA (fR (K:=K) rfl dr dy dz cH (pv 1) (bS (cG (aP (aI (jN rfl) rfl B.min rF (aA (pv 5) (aA (pv 6) aE))) (aP (aI (xC rfl) rfl B.max aCW (aA (pv 5) (aA (pv 6) aE))) aE))) aE))) (aC (eA (fR (K:=K) rfl dr dy dz cH (pv 2) (aA (pv 6) aE))) (aC (eA (fR (K:=K) rfl dr PySem.F.slot_list_remove PySem.F.type_list_remove aDQ (pv 3) (aA (pv 6) aE))) aG)))))) (aC (PS.nox (bH (cG (aP (bA (d3.mono (by decide)) hr rfl (aA (pv 0) (aA (pv 1) aE))) (aP (aI (dD (K:=K) rfl) rfl B.sorted dW (aA (pv 1) aE)) aE))))) aG))))))
def nY (K:aa) : TS:=(aQ (eZ (tCB (aHx K) (aB (fS [none,none,some 0] (gL K (aD 1)) (aAU K 2 (eX (aJ 0) (eX (aJ 1) aBo))) [] λacc=>(eJ (tOp (bC K) (tOp (bC K) (aD 2) (aD 0)) (aD 1)) acc)) aO))) aL)
def tS : OkN P w K mg base "tree_sum" (top 12) 1 ["table","ties"] ["table","ties"] (nY K):=okN λ_ _ _ _ _ _ _ nd hr=>(aC (bH (aI (aAv (K:=K) rfl rfl) rfl B.sum aEV (cD (dS (N':=["i","j","table"]) (ix:=[none,none,some 0]) rfl rfl rfl (bL (K:=K) rfl (pv 1)) (λ_ _ _=>(fI (K:=K) rfl rfl (bQ (aS (i:=0) (show(["i","j","table"]:List Str).Nodup from by decide+kernel) rfl (Or.inl rfl)) (bQ (aS (i:=1) (show(["i","j","table"]:List Str).Nodup from by decide+kernel) rfl (Or.inl rfl)) fK)))) (λ_ _ _ => .nil) (λ_ _ _ _=>(cV rfl (bF (aT (K:=K) rfl) (bF (aT (K:=K) rfl) (pv 2) (pv 0) (λ_ _=>rfl)) (pv 1) (λ_ _=>rfl)) rfl))) aE))) aG)
def fU (K:aa) (E:XK) (p4:Sp) (p3:Sp) (p5:Sp) : TS:=(aQ (bO (tOp (bC K) (bD p5 [] E (aB (aD 0) aO)) (tC (.int 0))) (aJ 2)) (aQ (eZ (nB (bD p4 [] E0 (aB (tCB (hU K) (aB (aD 0) aO)) (aB (aD 1) aO))) (tOp (fZ K) (bD p3 [] E0 (aB (aD 0) (aB (aD 1) aO))) (aD 2)))) aL))
def kM : OkX P w K mg base "is_least_tree" (top 13) 5 ["table","ties","least"] ["table","ties"] (λE=>fU K E p4 p3 p5):=okX λ_ _ _ _ _ _ E nd hr=>(aC (aY (i:=2) nd rfl (.inl rfl) (bF (aT (K:=K) rfl) (uN (y0.mono (by decide)) hr rfl wT (aA (pv 0) aE)) aK (λ_ _=>rfl))) (aC (PS.nox (bH (kD (bA (d4.mono (by decide)) hr rfl (aP (aI (aU (K:=K) rfl) rfl B.len bX (aA (pv 0) aE)) (aA (pv 1) aE))) (lN (fT (eB (K:=K) rfl hr) (bA (d3.mono (by decide)) hr rfl (aA (pv 0) (aA (pv 1) aE))) (pv 2) (bV _)))))) aG))
def qP (K:aa) (p6:Sp) (p7:Sp) : TS:=(aQ (fA (yA (tB (tCB (aGs K) (aB (fS [none,some 0] (gL K (aD 1)) (aJ 0) [] λacc=>(eJ (bD p6 [] E0 (aB (aD 1) (aB (aD 0) aO))) acc)) aO)))) (aQ (eZ (tC (.bl false))) aL) aL) (aQ (fA (tOr (bU (tOp (vN K) (tCB (hU K) (aB (aD 1) aO)) (tOp mW (aD 0) (tC (.int 1))))) (bU (tOp (vN K) (tCB (jW K) (aB (aD 1) aO)) (aD 1)))) (aQ (eZ (tC (.bl false))) aL) aL) (aQ (eZ (tOp (fZ K) (tCB (hU K) (aB (bD p7 [] E0 (aB (tCB (nE K) (aB (tCB aEL (aB (aD 0) aO)) aO)) (aB (aD 1) aO))) aO)) (tC (.int 1)))) aL)))
def wS : OkN P w K mg base "is_tree" (top 14) 4 ["many","ties"] ["many","ties"] (qP K p6 p7):=okN λ_ _ _ _ _ _ _ nd hr=>(aC (eL (iF (iD (aI (lV (K:=K) rfl rfl) rfl B.all zV (cD (dS (N':=["thing","many"]) (ix:=[none,some 0]) rfl rfl rfl (bL (K:=K) rfl (pv 1)) (λ_ _ _=>(aS (i:=0) (show(["thing","many"]:List Str).Nodup from by decide+kernel) rfl (Or.inl rfl))) (λ_ _ _ => .nil) (λ_ _ _ _=>(cV rfl (bA (d5.mono (by decide)) hr rfl (aA (pv 1) (aA (pv 0) aE))) rfl))) aE)))) (aC (bH kI) aG) aG) (aC (eL (PW.pt (mX (bP (iZ (K:=K) rfl hr) (aI (aU (K:=K) rfl) rfl B.len bX (aA (pv 1) aE)) (bB lM (pv 0) aK) (bV _)) (iE (bP (iZ (K:=K) rfl hr) (aI (dD (K:=K) rfl) rfl B.sorted dW (aA (pv 1) aE)) (pv 1) (bV _))))) (aC (bH kI) aG) aG) (aC (bH (fT (eB (K:=K) rfl hr) (aI (aU (K:=K) rfl) rfl B.len bX (aP (bA (d6.mono (by decide)) hr rfl (aP (bE (cW (K:=K) rfl rfl) rfl B.list fD (aP (bE jA rfl B.range lI (aA (pv 0) aE)) aE)) (aA (pv 1) aE))) aE)) aK (bV _))) aG)))
def iS (K:aa) : TS:=(aQ (bO (tOp xS (tOp (bN K) (tOp (bN K) (tOp iX (tOp xS (aD 0) (tC (.int 1000000007))) (tC (.int 69069))) (tOp iX (aD 1) (tC (.int 40503)))) (tC (.int 977))) (tC (.int 2147483629))) (aJ 2)) (aQ (bO (tOp xS (tOp (bN K) (tOp (bN K) (tOp iX (aD 2) (aD 2)) (tOp iX (aD 1) (tC (.int 7919)))) (tOp xS (aD 0) (tC (.int 65537)))) (tC (.int 2147483587))) (aJ 3)) (aQ (bO (tOp xS (tOp (bN K) (tOp (bN K) (tOp iX (aD 3) (aD 3)) (tOp iX (aD 2) (tC (.int 31)))) (tC (.int 5))) (tC (.int 2147483563))) (aJ 4)) (aQ (eZ (tOp (bN K) (tOp iX (tOp (bN K) (tOp iX (aD 2) (tC (.int 2147483659))) (aD 3)) (tC (.int 2147483693))) (aD 4))) aL))))
def nG : OkN P w K mg base "_law_cmixed" (top 16) 1 ["cell","at","one","two","three"] ["cell","at"] (iS K):=okN λ_ _ _ _ _ _ _ nd hr=>(aC (aY (i:=2) nd rfl (.inl rfl) (bB kB (bB (aW (K:=K) rfl) (bB (aW (K:=K) rfl) (bB eS (bB kB (pv 0) aK) aK) (bB eS (pv 1) aK)) aK) aK)) (aC (aY (i:=3) nd rfl (.inl rfl) (bB kB (bB (aW (K:=K) rfl) (bB (aW (K:=K) rfl) (bB eS (pv 2) (pv 2)) (bB eS (pv 1) aK)) (bB kB (pv 0) aK)) aK)) (aC (aY (i:=4) nd rfl (.inl rfl) (bB kB (bB (aW (K:=K) rfl) (bB (aW (K:=K) rfl) (bB eS (pv 3) (pv 3)) (bB eS (pv 2) aK)) aK) aK)) (aC (bH (bB (aW (K:=K) rfl) (bB eS (bB (aW (K:=K) rfl) (bB eS (pv 2) aK) (pv 3)) aK) (pv 4))) aG))))
def jU (K:aa) : TS:=(aQ (eZ (eU (aB (tCB (nE K) (aB (tSl (qS K) (aD 0) cL (eO (tC (.int 40)))) aO)) (aB (tC (.int 0)) (aB (tC (.int 0)) aO))))) aL)
def pE : OkN P w K mg base "_law_copen" (top 17) 1 ["script"] ["script"] (jU K):=okN λ_ _ _ _ _ _ _ nd hr=>(aC (bH (bY (aP (bE (cW (K:=K) rfl rfl) rfl B.list fD (cX (cJ (jI (K:=K) rfl) (pv 0) dG (cY aK)) aE)) (bK aK (bK aK aE))))) aG)
def kE (K:aa) (p8:Sp) : TS:=(aQ (fA (aEF (bU (tOp yLt (tOp (bC K) (aD 0) (tC (.int 2))) (aD 1))) (bU (tOp yGt (tCB (hU K) (aB (tOp (bC K) (aD 0) (tC (.int 0))) aO)) (tC (.int 0))))) (aQ (bO (tOp (bC K) (aD 0) (tC (.int 1))) (aJ 2)) (aQ (bO (tOp (bC K) (tOp (bC K) (aD 0) (tC (.int 0))) (tOp xS (aD 2) (tCB (hU K) (aB (tOp (bC K) (aD 0) (tC (.int 0))) aO)))) (aJ 3)) (aQ (bO (tOp (bN K) (aD 2) (tC (.int 1))) (lC (aD 0) (tC (.int 1)) dM)) (aQ (bO (aD 3) (lC (aD 0) (tC (.int 2)) dM)) (aQ (fA (tOr (bU (tOp yLt (aD 3) (tOp aCY (tC (.int 10)) (tC (.int 18))))) (bU (tOp yGe (aD 2) (tCB (hU K) (aB (tOp (bC K) (aD 0) (tC (.int 0))) aO))))) (aQ (bO (bD p8 [] E0 (aB (aD 3) (aB (aD 2) aO))) (lC (aD 0) (tC (.int 2)) dM)) aL) aL) aL))))) aL) (aQ (bO (tOp xS (tOp (bC K) (aD 0) (tC (.int 2))) (aD 1)) (aJ 4)) (aQ (bO (tOp aBD (tOp (bC K) (aD 0) (tC (.int 2))) (aD 1)) (lC (aD 0) (tC (.int 2)) dM)) (aQ (eZ (aD 4)) aL))))
def pA : OkN P w K mg base "_law_cdraw" (top 18) 2 ["feed","many","at","cell","found"] ["feed","many"] (kE K p8):=okN λ_ _ _ _ _ _ _ nd hr=>(aC (eL (PW.pt (uP (bP wW (bF (aT (K:=K) rfl) (pv 0) aK (λ_ _=>rfl)) (pv 1) (bV _)) (oY (bP aBW (aI (aU (K:=K) rfl) rfl B.len bX (cX (bF (aT (K:=K) rfl) (pv 0) aK (λ_ _=>rfl)) aE)) aK (bV _))))) (aC (aY (i:=2) nd rfl (.inl rfl) (bF (aT (K:=K) rfl) (pv 0) aK (λ_ _=>rfl))) (aC (aY (i:=3) nd rfl (.inl rfl) (bF (aT (K:=K) rfl) (bF (aT (K:=K) rfl) (pv 0) aK (λ_ _=>rfl)) (bB kB (pv 2) (aI (aU (K:=K) rfl) rfl B.len bX (cX (bF (aT (K:=K) rfl) (pv 0) aK (λ_ _=>rfl)) aE))) (λ_ _=>rfl))) (aC (iQ (bB (aW (K:=K) rfl) (pv 2) aK) (lJ (pv 0) aK fG)) (aC (iQ (pv 3) (lJ (pv 0) aK fG)) (aC (eL (PW.pt (mX (bP wW (pv 3) (bB aCL aK aK) (bV _)) (iE (bP aGP (pv 2) (aI (aU (K:=K) rfl) rfl B.len bX (cX (bF (aT (K:=K) rfl) (pv 0) aK (λ_ _=>rfl)) aE)) (bV _))))) (aC (iQ (bA (d7.mono (by decide)) hr rfl (aA (pv 3) (aA (pv 2) aE))) (lJ (pv 0) aK fG)) aG) aG) aG))))) aG) (aC (aY (i:=4) nd rfl (.inl rfl) (bB kB (bF (aT (K:=K) rfl) (pv 0) aK (λ_ _=>rfl)) (pv 1))) (aC (iQ (bB aBK (bF (aT (K:=K) rfl) (pv 0) aK (λ_ _=>rfl)) (pv 1)) (lJ (pv 0) aK fG)) (aC (bH (pv 4)) aG))))
def iT (K:aa) : TS:=(aQ (eZ (nB (tCB (xM K) (aB (aD 0) (aB (tC (.ty "int")) aO))) (aDD (tCB (xM K) (aB (aD 0) (aB (tC (.ty "bool")) aO)))))) aL)
def nJ : OkN P w K mg base "_law_cwhole" (top 19) 1 ["thing"] ["thing"] (iT K):=okN λ_ _ _ _ _ _ _ nd hr=>(aC (bH (kD (aI (dA (K:=K) rfl) rfl B.isi iP (aA (pv 0) (aA (fH (v := .ty "int") rfl B.int aCU rfl) aE))) (lN (aCZ (aI (dA (K:=K) rfl) rfl B.isi iP (aA (pv 0) (aA (fH (v := .ty "bool") rfl B.bool oQ rfl) aE))))))) aG)
def iW (K:aa) : TS:=(aQ (bO (eU aO) (aJ 1)) (aQ (hV (kH (aB (aD 0) aO)) (aJ 2) (aQ (bO (tOp (bN K) (aD 1) (fS [none,some 2] (aEr (aB (tOp (bN K) (aD 2) (tC (.int 1))) (aB (aD 0) aO))) (aJ 0) [] λacc=>(eJ (eK (aB (aD 1) (aB (aD 0) aO))) acc))) (aJ 1)) aL)) (aQ (eZ (aD 1)) aL)))
def nD : OkN P w K mg base "_law_cpairs" (top 20) 1 ["many","found","i"] ["many"] (iW K):=okN λ_ _ _ _ _ _ _ nd hr=>(aC (aY (i:=1) nd rfl (.inl rfl) (bY aE)) (aC (cO df rfl (cP rfl B.range (aA (pv 0) aE)) (aS (i:=2) nd rfl (Or.inr rfl)) (aC (aY (i:=1) nd rfl (.inl rfl) (bB (aW (K:=K) rfl) (pv 1) (dS (N':=["j","i"]) (ix:=[none,some 2]) rfl rfl rfl (sG rfl B.range (cE (bB (aW (K:=K) rfl) (pv 2) aK) (aA (pv 0) aE))) (λ_ _ _=>(aS (i:=0) (show(["j","i"]:List Str).Nodup from by decide+kernel) rfl (Or.inl rfl))) (λ_ _ _ => .nil) (λ_ _ _ _=>(cV rfl (cG (aA (pv 1) (aA (pv 0) aE))) rfl))))) aG)) (aC (bH (pv 1)) aG)))
def iG (K:aa) : TS:=(aQ (bO (fS [none] (gL K (aD 0)) (aJ 0) [] λacc=>(eJ (tCB (nE K) (aB (aD 0) aO)) acc)) (aJ 1)) (aQ (hV (kH (aB (tCB (hU K) (aB (aD 0) aO)) aO)) (aJ 2) (aQ (hV (kH (aB (tCB (hU K) (aB (aD 0) aO)) aO)) (aJ 3) (aQ (hV (kH (aB (tCB (hU K) (aB (aD 0) aO)) aO)) (aJ 4) (aQ (bO (tOp (bN K) (tOp (bC K) (tOp (bC K) (aD 1) (aD 3)) (aD 2)) (tOp (bC K) (tOp (bC K) (aD 1) (aD 2)) (aD 4))) (aJ 5)) (aQ (bO (tCB nL (aB (tOp (bC K) (tOp (bC K) (aD 1) (aD 3)) (aD 4)) (aB (aD 5) aO))) (lC (tOp (bC K) (aD 1) (aD 3)) (aD 4) dM)) aL))) aL)) aL)) (aQ (eZ (tCB (mE K) (aB (fS [none] (gL K (aD 1)) (aJ 0) [] λacc=>(eJ (tCB (mE K) (aB (aD 0) aO)) acc)) aO))) aL)))
def mZ : OkN P w K mg base "_law_cshort" (top 21) 1 ["rows","found","k","i","j","step"] ["rows"] (iG K):=okN λ_ _ _ _ _ _ _ nd hr=>(aC (gG (i:=1) nd rfl (Or.inl rfl) (N':=["row"]) (ix:=[none]) rfl rfl rfl (bL (K:=K) rfl (pv 0)) (λ_ _ _=>(aS (i:=0) (show(["row"]:List Str).Nodup from by decide+kernel) rfl (Or.inl rfl))) (λ_ _ _ => .nil) (λ_ _ _ _=>(cV rfl (bE (cW (K:=K) rfl rfl) rfl B.list fD (aA (pv 0) aE)) rfl))) (aC (cO df rfl (cP rfl B.range (aP (aI (aU (K:=K) rfl) rfl B.len bX (aA (pv 0) aE)) aE)) (aS (i:=2) nd rfl (Or.inl rfl)) (aC (cO df rfl (cP rfl B.range (aP (aI (aU (K:=K) rfl) rfl B.len bX (aA (pv 0) aE)) aE)) (aS (i:=3) nd rfl (Or.inl rfl)) (aC (cO df rfl (cP rfl B.range (aP (aI (aU (K:=K) rfl) rfl B.len bX (aA (pv 0) aE)) aE)) (aS (i:=4) nd rfl (Or.inl rfl)) (aC (aY (i:=5) nd rfl (.inl rfl) (bB (aW (K:=K) rfl) (bF (aT (K:=K) rfl) (bF (aT (K:=K) rfl) (pv 1) (pv 3) (λ_ _=>rfl)) (pv 2) (λ_ _=>rfl)) (bF (aT (K:=K) rfl) (bF (aT (K:=K) rfl) (pv 1) (pv 2) (λ_ _=>rfl)) (pv 4) (λ_ _=>rfl)))) (aC (iQ (aI (jN rfl) rfl B.min rF (cX (bF (aT (K:=K) rfl) (bF (aT (K:=K) rfl) (pv 1) (pv 3) (λ_ _=>rfl)) (pv 4) (λ_ _=>rfl)) (aA (pv 5) aE))) (lJ (bF (aT (K:=K) rfl) (pv 1) (pv 3) (λ_ _=>rfl)) (pv 4) fG)) aG))) aG)) aG)) (aC (bH (bE (fB (K:=K) rfl) rfl B.tuple gK (cD (dS (N':=["row"]) (ix:=[none]) rfl rfl rfl (bL (K:=K) rfl (pv 1)) (λ_ _ _=>(aS (i:=0) (show(["row"]:List Str).Nodup from by decide+kernel) rfl (Or.inl rfl))) (λ_ _ _ => .nil) (λ_ _ _ _=>(cV rfl (bE (fB (K:=K) rfl) rfl B.tuple gK (aA (pv 0) aE)) rfl))) aE))) aG)))
def kA (K:aa) (p9:Sp) (p10:Sp) (p11:Sp) : TS:=(aQ (bO (tOp (bN K) (aD 1) (bD p9 [] E0 (aB (aD 0) (aB (tOp (bN K) (tOp mW (aD 2) (aD 1)) (tC (.int 1))) aO)))) (aJ 3)) (aQ (bO (bD p9 [] E0 (aB (aD 0) (aB (tC (.int 8)) aO))) (aJ 4)) (aQ (bO (tOp (bC K) (eU (aB (tC (.int 2)) (aB (tC (.int 5)) (aB (tC (.int 30)) (aB (tC (.int 1000001)) aO))))) (bD p9 [] E0 (aB (aD 0) (aB (tC (.int 4)) aO)))) (aJ 5)) (aQ (bO (fS [none,some 3] (kH (aB (aD 3) aO)) (aJ 0) [] λacc=>(eJ (tOp iX (eU (aB (tC (.int 0)) aO)) (aD 1)) acc)) (aJ 6)) (aQ (bO (fS [none,some 0,some 5] (kH (aB (aD 3) aO)) (aJ 0) [] λacc=>(eJ (eK (aB (bD p9 [] E0 (aB (aD 1) (aB (aD 2) aO))) (aB (bD p9 [] E0 (aB (aD 1) (aB (aD 2) aO))) aO))) acc)) (aJ 7)) (aQ (hV (gL K (bD p10 [] E0 (aB (aD 3) aO))) (aAU K 2 (eX (aJ 8) (eX (aJ 9) aBo))) (aQ (bO (bD p9 [] E0 (aB (aD 0) (aB (aD 5) aO))) (aJ 10)) (aQ (fA (bU (tOp (fZ K) (aD 4) (tC (.int 1)))) (aQ (bO (tOp iX (tOp xS (aD 10) (tC (.int 2))) (tOp mW (aD 5) (tC (.int 1)))) (aJ 10)) aL) aL) (aQ (fA (tOr (bU (tOp (fZ K) (aD 4) (tC (.int 2)))) (bU (tOp (fZ K) (aD 4) (tC (.int 3))))) (aQ (bO (tCB yN (aB (tOp mW (tOp (bC K) (tOp (bC K) (aD 7) (aD 8)) (tC (.int 0))) (tOp (bC K) (tOp (bC K) (aD 7) (aD 9)) (tC (.int 0)))) aO)) (aJ 10)) aL) aL) (aQ (fA (bU (tOp (fZ K) (aD 4) (tC (.int 3)))) (aQ (bO (tOp (bN K) (aD 10) (tCB yN (aB (tOp mW (tOp (bC K) (tOp (bC K) (aD 7) (aD 8)) (tC (.int 1))) (tOp (bC K) (tOp (bC K) (aD 7) (aD 9)) (tC (.int 1)))) aO))) (aJ 10)) aL) aL) (aQ (fA (bU (tOp (fZ K) (aD 4) (tC (.int 4)))) (aQ (bO (tOp mW (aD 5) (tC (.int 1))) (aJ 10)) aL) aL) (aQ (bO (tCB nL (aB (aD 10) (aB (tOp aCY (tC (.int 10)) (tC (.int 6))) aO))) (lC (tOp (bC K) (aD 6) (aD 8)) (aD 9) dM)) (aQ (bO (tOp (bC K) (tOp (bC K) (aD 6) (aD 8)) (aD 9)) (lC (tOp (bC K) (aD 6) (aD 9)) (aD 8) dM)) aL)))))))) (aQ (fA (bU (tOp yGt (aD 4) (tC (.int 5)))) (aQ (eZ (bD p11 [] E0 (aB (aD 6) aO))) aL) aL) (aQ (eZ (tCB (mE K) (aB (fS [none] (gL K (aD 6)) (aJ 0) [] λacc=>(eJ (tCB (mE K) (aB (aD 0) aO)) acc)) aO))) aL))))))))
def pY : OkN P w K mg base "_law_ceven" (top 22) 3 ["feed","least","most","many","way","top","rows","spots","i","j","found"] ["feed","least","most"] (kA K p9 p10 p11):=okN λ_ _ _ _ _ _ _ nd hr=>(aC (aY (i:=3) nd rfl (.inr rfl) (bB (aW (K:=K) rfl) (pv 1) (bA (d8.mono (by decide)) hr rfl (aA (pv 0) (cE (bB (aW (K:=K) rfl) (bB lM (pv 2) (pv 1)) aK) aE))))) (aC (aY (i:=4) nd rfl (.inl rfl) (bA (d8.mono (by decide)) hr rfl (aA (pv 0) (bK aK aE)))) (aC (aY (i:=5) nd rfl (.inr rfl) (bF (aT (K:=K) rfl) (bY (bK aK (bK aK (bK aK (bK aK aE))))) (bA (d8.mono (by decide)) hr rfl (aA (pv 0) (bK aK aE))) (λ_ _=>rfl))) (aC (gG (i:=6) nd rfl (Or.inl rfl) (N':=["k","many"]) (ix:=[none,some 3]) rfl rfl rfl (cP rfl B.range (aA (pv 3) aE)) (λ_ _ _=>(aS (i:=0) (show(["k","many"]:List Str).Nodup from by decide+kernel) rfl (Or.inl rfl))) (λ_ _ _ => .nil) (λ_ _ _ _=>(cV rfl (bB eS (bY (bK aK aE)) (pv 1)) rfl))) (aC (gG (i:=7) nd rfl (Or.inl rfl) (N':=["k","feed","top"]) (ix:=[none,some 0,some 5]) rfl rfl rfl (cP rfl B.range (aA (pv 3) aE)) (λ_ _ _=>(aS (i:=0) (show(["k","feed","top"]:List Str).Nodup from by decide+kernel) rfl (Or.inl rfl))) (λ_ _ _ => .nil) (λ_ _ _ _=>(cV rfl (cG (aP (bA (d8.mono (by decide)) hr rfl (aA (pv 1) (aA (pv 2) aE))) (aP (bA (d8.mono (by decide)) hr rfl (aA (pv 1) (aA (pv 2) aE))) aE))) rfl))) (aC (cO df rfl (bL (K:=K) rfl (bA (d9.mono (by decide)) hr rfl (aA (pv 3) aE))) (fI (K:=K) rfl rfl (bQ (aS (i:=8) nd rfl (Or.inl rfl)) (bQ (aS (i:=9) nd rfl (Or.inl rfl)) fK))) (aC (aY (i:=10) nd rfl (.inl rfl) (bA (d8.mono (by decide)) hr rfl (aA (pv 0) (aA (pv 5) aE)))) (aC (eL (bP (eB (K:=K) rfl hr) (pv 4) aK (bV _)) (aC (aY (i:=10) nd rfl (.inl rfl) (bB eS (bB kB (pv 10) aK) (bB lM (pv 5) aK))) aG) aG) (aC (eL (PW.pt (mX (bP (eB (K:=K) rfl hr) (pv 4) aK (bV _)) (iE (bP (eB (K:=K) rfl hr) (pv 4) aK (bV _))))) (aC (aY (i:=10) nd rfl (.inl rfl) (aI rX rfl B.abs aDb (cE (bB lM (bF (aT (K:=K) rfl) (bF (aT (K:=K) rfl) (pv 7) (pv 8) (λ_ _=>rfl)) aK (λ_ _=>rfl)) (bF (aT (K:=K) rfl) (bF (aT (K:=K) rfl) (pv 7) (pv 9) (λ_ _=>rfl)) aK (λ_ _=>rfl))) aE))) aG) aG) (aC (eL (bP (eB (K:=K) rfl hr) (pv 4) aK (bV _)) (aC (aY (i:=10) nd rfl (.inl rfl) (bB (aW (K:=K) rfl) (pv 10) (aI rX rfl B.abs aDb (cE (bB lM (bF (aT (K:=K) rfl) (bF (aT (K:=K) rfl) (pv 7) (pv 8) (λ_ _=>rfl)) aK (λ_ _=>rfl)) (bF (aT (K:=K) rfl) (bF (aT (K:=K) rfl) (pv 7) (pv 9) (λ_ _=>rfl)) aK (λ_ _=>rfl))) aE)))) aG) aG) (aC (eL (bP (eB (K:=K) rfl hr) (pv 4) aK (bV _)) (aC (aY (i:=10) nd rfl (.inl rfl) (bB lM (pv 5) aK)) aG) aG) (aC (iQ (aI (jN rfl) rfl B.min rF (aA (pv 10) (cE (bB aCL aK aK) aE))) (lJ (bF (aT (K:=K) rfl) (pv 6) (pv 8) (λ_ _=>rfl)) (pv 9) fG)) (aC (iQ (bF (aT (K:=K) rfl) (bF (aT (K:=K) rfl) (pv 6) (pv 8) (λ_ _=>rfl)) (pv 9) (λ_ _=>rfl)) (lJ (bF (aT (K:=K) rfl) (pv 6) (pv 9) (λ_ _=>rfl)) (pv 8) fG)) aG)))))))) (aC (eL (bP aBW (pv 4) aK (bV _)) (aC (bH (bA (d10.mono (by decide)) hr rfl (aA (pv 6) aE))) aG) aG) (aC (bH (bE (fB (K:=K) rfl) rfl B.tuple gK (cD (dS (N':=["row"]) (ix:=[none]) rfl rfl rfl (bL (K:=K) rfl (pv 6)) (λ_ _ _=>(aS (i:=0) (show(["row"]:List Str).Nodup from by decide+kernel) rfl (Or.inl rfl))) (λ_ _ _ => .nil) (λ_ _ _ _=>(cV rfl (bE (fB (K:=K) rfl) rfl B.tuple gK (aA (pv 0) aE)) rfl))) aE))) aG))))))))
def iR (K:aa) : TS:=(aQ (bO (aFa [((aD 1),(tC .non))]) (aJ 2)) (aQ (hV (kH (aB (tCB (hU K) (aB (aD 0) aO)) aO)) (aJ 3) (aQ (hV (gL K (aD 0)) (aAU K 2 (eX (aJ 4) (eX (aJ 5) aBo))) (aQ (fA (aEF (tB (aGp (aD 4) (aD 2))) (tB (lP (aD 5) (aD 2)))) (aQ (aBM (aD 2) (aD 5) (aD 4)) aL) aL) (aQ (fA (aEF (tB (aGp (aD 5) (aD 2))) (tB (lP (aD 4) (aD 2)))) (aQ (aBM (aD 2) (aD 4) (aD 5)) aL) aL) aL))) aL)) (aQ (eZ (aD 2)) aL)))
def nH : OkN P w K mg base "_law_cahead" (top 23) 1 ["ties","start","found","turn","i","j"] ["ties","start"] (iR K):=okN λ_ _ _ _ _ _ _ nd hr=>(aC (aY (i:=2) nd rfl (.inl rfl) (aEz (aBX (pv 1) uR aDX) rfl rfl (by intro h;cases h) (by decide))) (aC (cO df rfl (cP rfl B.range (aP (aI (aU (K:=K) rfl) rfl B.len bX (aA (pv 0) aE)) aE)) (aS (i:=3) nd rfl (Or.inl rfl)) (aC (cO df rfl (bL (K:=K) rfl (pv 0)) (fI (K:=K) rfl rfl (bQ (aS (i:=4) nd rfl (Or.inl rfl)) (bQ (aS (i:=5) nd rfl (Or.inl rfl)) fK))) (aC (eL (PW.pt (uP (sV (aCS (pC hr) (pv 4) (pv 2))) (oY (sV (mS (pC hr) (pv 5) (pv 2)))))) (aC (yQ (pC hr) (pv 2) (pv 5) (pv 4) rfl) aG) aG) (aC (eL (PW.pt (uP (sV (aCS (pC hr) (pv 5) (pv 2))) (oY (sV (mS (pC hr) (pv 4) (pv 2)))))) (aC (yQ (pC hr) (pv 2) (pv 4) (pv 5) rfl) aG) aG) aG))) aG)) (aC (bH (pv 2)) aG)))
def gP (K:aa) (p12:Sp) : TS:=(aQ (fA (tOr (yA (tB (tCB (xM K) (aB (aD 1) (aB (tC (.ty "tuple")) aO))))) (bU (tOp (vN K) (tCB (hU K) (aB (aD 1) aO)) (tC (.int 2))))) (aQ (eZ (tC (.bl false))) aL) aL) (aQ (fA (tOr (yA (tB (bD p12 [] E0 (aB (tOp (bC K) (aD 1) (tC (.int 0))) aO)))) (yA (tB (bD p12 [] E0 (aB (tOp (bC K) (aD 1) (tC (.int 1))) aO))))) (aQ (eZ (tC (.bl false))) aL) aL) (aQ (eZ (tZ yLe yLt yLt (tC (.int 0)) (tOp (bC K) (aD 1) (tC (.int 0))) (tOp (bC K) (aD 1) (tC (.int 1))) (aD 0))) aL)))
def mC : OkN P w K mg base "_law_cis_tie" (top 24) 2 ["many","thing"] ["many","thing"] (gP K p12):=okN λ_ _ _ _ _ _ _ nd hr=>(aC (eL (PW.pt (mX (iF (iD (aI (dA (K:=K) rfl) rfl B.isi iP (aA (pv 1) (aA (fH (v := .ty "tuple") rfl B.tuple gK rfl) aE))))) (iE (bP (iZ (K:=K) rfl hr) (aI (aU (K:=K) rfl) rfl B.len bX (aA (pv 1) aE)) aK (bV _))))) (aC (bH kI) aG) aG) (aC (eL (PW.pt (mX (iF (iD (bA (d11.mono (by decide)) hr rfl (cX (bF (aT (K:=K) rfl) (pv 1) aK (λ_ _=>rfl)) aE)))) (iE (iF (iD (bA (d11.mono (by decide)) hr rfl (cX (bF (aT (K:=K) rfl) (pv 1) aK (λ_ _=>rfl)) aE))))))) (aC (bH kI) aG) aG) (aC (bH (sI aFv wW wW aK (bF (aT (K:=K) rfl) (pv 1) aK (λ_ _=>rfl)) (bF (aT (K:=K) rfl) (pv 1) aK (λ_ _=>rfl)) (pv 0))) aG)))
def gA (K:aa) (p13:Sp) (p14:Sp) : TS:=(aQ (fA (tOr (yA (tB (tCB (xM K) (aB (aD 1) (aB (tC (.ty "list")) aO))))) (bU (tOp (vN K) (tCB (hU K) (aB (aD 1) aO)) (tOp mW (aD 0) (tC (.int 1)))))) (aQ (eZ (tC (.bl false))) aL) aL) (aQ (hV (gL K (aD 1)) (aJ 2) (aQ (fA (yA (tB (bD p14 [] E0 (aB (aD 0) (aB (aD 2) aO))))) (aQ (eZ (tC (.bl false))) aL) aL) aL)) (aQ (eZ (nB (tOp (fZ K) (aD 1) (tCB (jW K) (aB (aD 1) aO))) (tOp (fZ K) (tCB aGX (aB (bD p13 [] E0 (aB (aD 1) (aB (tC (.int 0)) aO))) aO)) (aD 0)))) aL)))
def kO : OkN P w K mg base "_law_cis_tree" (top 25) 3 ["many","ties","tie"] ["many","ties"] (gA K p13 p14):=okN λ_ _ _ _ _ _ _ nd hr=>(aC (eL (PW.pt (mX (iF (iD (aI (dA (K:=K) rfl) rfl B.isi iP (aA (pv 1) (aA (fH (v := .ty "list") rfl B.list fD rfl) aE))))) (iE (bP (iZ (K:=K) rfl hr) (aI (aU (K:=K) rfl) rfl B.len bX (aA (pv 1) aE)) (bB lM (pv 0) aK) (bV _))))) (aC (bH kI) aG) aG) (aC (cO df rfl (bL (K:=K) rfl (pv 1)) (aS (i:=2) nd rfl (Or.inl rfl)) (aC (eL (iF (iD (bA (d13.mono (by decide)) hr rfl (aA (pv 0) (aA (pv 2) aE))))) (aC (bH kI) aG) aG) aG)) (aC (bH (kD (fT (eB (K:=K) rfl hr) (pv 1) (aI (dD (K:=K) rfl) rfl B.sorted dW (aA (pv 1) aE)) (bV _)) (lN (fT (eB (K:=K) rfl hr) (aI zE rfl B.len bX (aP (bA (d12.mono (by decide)) hr rfl (aA (pv 1) (bK aK aE))) aE)) (pv 0) (bV _))))) aG)))
def fO (K:aa) (p13:Sp) (p10:Sp) : TS:=(aQ (hV (gL K (bD p10 [] E0 (aB (tCB (hU K) (aB (aD 0) aO)) aO))) (aAU K 2 (eX (aJ 2) (eX (aJ 3) aBo))) (aQ (bO (bD p13 [] E0 (aB (aD 1) (aB (aD 2) aO))) (aJ 4)) (aQ (bO (aD 3) (aJ 5)) (aQ (uZ (bU (tOp (vN K) (aD 5) (aD 2))) (aQ (fA (bU (tOp yGt (tOp (bC K) (tOp (bC K) (aD 0) (aEd (aD 4) (aD 5))) (aD 5)) (tOp (bC K) (tOp (bC K) (aD 0) (aD 2)) (aD 3)))) (aQ (eZ (tC (.bl false))) aL) aL) (aQ (bO (aEd (aD 4) (aD 5)) (aJ 5)) aL))) aL)))) (aQ (eZ (tC (.bl true))) aL))
def jK : OkN P w K mg base "_law_cis_least" (top 26) 2 ["table","ties","i","j","ahead","here"] ["table","ties"] (fO K p13 p10):=okN λ_ _ _ _ _ _ _ nd hr=>(aC (cO df rfl (bL (K:=K) rfl (bA (d9.mono (by decide)) hr rfl (aP (aI (aU (K:=K) rfl) rfl B.len bX (aA (pv 0) aE)) aE))) (fI (K:=K) rfl rfl (bQ (aS (i:=2) nd rfl (Or.inl rfl)) (bQ (aS (i:=3) nd rfl (Or.inl rfl)) fK))) (aC (aY (i:=4) nd rfl (.inl rfl) (bA (d12.mono (by decide)) hr rfl (aA (pv 1) (aA (pv 2) aE)))) (aC (aY (i:=5) nd rfl (.inl rfl) (pv 3)) (aC (oP df (bP (iZ (K:=K) rfl hr) (pv 5) (pv 2) (bV _)) (aC (eL (bP aBW (bF (aT (K:=K) rfl) (bF (aT (K:=K) rfl) (pv 0) (zJ (pC hr) (pv 4) (pv 5) (λ_ _=>rfl)) (λ_ _=>rfl)) (pv 5) (λ_ _=>rfl)) (bF (aT (K:=K) rfl) (bF (aT (K:=K) rfl) (pv 0) (pv 2) (λ_ _=>rfl)) (pv 3) (λ_ _=>rfl)) (bV _)) (aC (bH kI) aG) aG) (aC (aY (i:=5) nd rfl (.inl rfl) (zJ (pC hr) (pv 4) (pv 5) (λ_ _=>rfl))) aG))) aG)))) (aC (bH kI) aG))
def iC (K:aa) (p9:Sp) : TS:=(aQ (bO (tCB (nE K) (aB (aD 1) aO)) (aJ 2)) (aQ (bO (eU aO) (aJ 3)) (aQ (uZ (bU (tOp (vN K) (aD 2) (eU aO))) (aQ (jP (tBM K "list" dH (aD 3) (aB (tBM K "list" aCE (aD 2) (aB (bD p9 [] E0 (aB (aD 0) (aB (tCB (hU K) (aB (aD 2) aO)) aO))) aO)) aO))) aL)) (aQ (eZ (aD 3)) aL))))
def nC : OkN P w K mg base "_law_corder" (top 27) 3 ["feed","some","left","found"] ["feed","some"] (iC K p9):=okN λ_ _ _ _ _ _ _ nd hr=>(aC (aY (i:=2) nd rfl (.inl rfl) (bE (cW (K:=K) rfl rfl) rfl B.list fD (aA (pv 1) aE))) (aC (aY (i:=3) nd rfl (.inl rfl) (bY aE)) (aC (oP df (bP (iZ (K:=K) rfl hr) (pv 2) (bY aE) (bV _)) (aC (eA (fR (K:=K) rfl dr dy dz cH (pv 3) (aP (fR (K:=K) rfl dr PySem.F.slot_list_pop PySem.F.type_list_pop aCm (pv 2) (aP (bA (d8.mono (by decide)) hr rfl (aA (pv 0) (aP (aI (aU (K:=K) rfl) rfl B.len bX (aA (pv 2) aE)) aE))) aE)) aE))) aG)) (aC (bH (pv 3)) aG))))
def eC (K:aa) (p9:Sp) (p15:Sp) : TS:=(aQ (bO (bD p15 [] E0 (aB (aD 0) (aB (tCB (nE K) (aB (tCB aEL (aB (aD 1) aO)) aO)) aO))) (aJ 2)) (aQ (bO (eU aO) (aJ 3)) (aQ (hV (aEr (aB (tC (.int 1)) (aB (aD 1) aO))) (aJ 4) (aQ (bO (eU (aB (tOp (bC K) (aD 2) (aD 4)) (aB (tOp (bC K) (aD 2) (bD p9 [] E0 (aB (aD 0) (aB (aD 4) aO)))) aO))) (aJ 5)) (aQ (jP (tBM K "list" dH (aD 3) (aB (eK (aB (tCB (aDV K) (aB (aD 5) aO)) (aB (tCB (aHF K) (aB (aD 5) aO)) aO))) aO))) aL))) (aQ (eZ (tCB (jW K) (aB (aD 3) aO))) aL))))
def gW : OkN P w K mg base "_law_cdrawn_tree" (top 28) 4 ["feed","many","order","found","k","pair"] ["feed","many"] (eC K p9 p15):=okN λ_ _ _ _ _ _ _ nd hr=>(aC (aY (i:=2) nd rfl (.inl rfl) (bA (d14.mono (by decide)) hr rfl (aA (pv 0) (aP (bE (cW (K:=K) rfl rfl) rfl B.list fD (aP (bE jA rfl B.range lI (aA (pv 1) aE)) aE)) aE)))) (aC (aY (i:=3) nd rfl (.inl rfl) (bY aE)) (aC (cO df rfl (sG rfl B.range (bK aK (aA (pv 1) aE))) (aS (i:=4) nd rfl (Or.inl rfl)) (aC (aY (i:=5) nd rfl (.inl rfl) (bY (cX (bF (aT (K:=K) rfl) (pv 2) (pv 4) (λ_ _=>rfl)) (cX (bF (aT (K:=K) rfl) (pv 2) (bA (d8.mono (by decide)) hr rfl (aA (pv 0) (aA (pv 4) aE))) (λ_ _=>rfl)) aE)))) (aC (eA (fR (K:=K) rfl dr dy dz cH (pv 3) (bS (cG (aP (aI (nZ (K:=K) rfl hr rfl) rfl B.min rF (aA (pv 5) aE)) (aP (aI (aBa (K:=K) rfl rfl) rfl B.max aCW (aA (pv 5) aE)) aE))) aE))) aG))) (aC (bH (aI (dD (K:=K) rfl) rfl B.sorted dW (aA (pv 3) aE))) aG))))
def eE (K:aa) (p13:Sp) (p15:Sp) (p10:Sp) : TS:=(aQ (bO (bD p15 [] E0 (aB (aD 0) (aB (bD p10 [] E0 (aB (tCB (hU K) (aB (aD 1) aO)) aO)) aO))) (aJ 2)) (aQ (bO (eU aO) (aJ 3)) (aQ (hV (gL K (tCB (aHN K) (aB (fS [none,none,some 1] (gL K (aD 2)) (aAU K 2 (eX (aJ 0) (eX (aJ 1) aBo))) [] λacc=>(eJ (tOp (bC K) (tOp (bC K) (aD 2) (aD 0)) (aD 1)) acc)) aO))) (aJ 4) (aQ (hV (gL K (aD 2)) (aAU K 2 (eX (aJ 5) (eX (aJ 6) aBo))) (aQ (fA (aEF (bU (tOp (fZ K) (tOp (bC K) (tOp (bC K) (aD 1) (aD 5)) (aD 6)) (aD 4))) (tB (lP (aD 6) (bD p13 [] E0 (aB (aD 3) (aB (aD 5) aO)))))) (aQ (jP (tBM K "list" dH (aD 3) (aB (eK (aB (aD 5) (aB (aD 6) aO))) aO))) aL) aL) aL)) aL)) (aQ (eZ (tCB (jW K) (aB (aD 3) aO))) aL))))
def gY : OkN P w K mg base "_law_cleast_ties" (top 29) 4 ["feed","table","pairs","found","length_here","i","j"] ["feed","table"] (eE K p13 p15 p10):=okN λ_ _ _ _ _ _ _ nd hr=>(aC (aY (i:=2) nd rfl (.inl rfl) (bA (d14.mono (by decide)) hr rfl (aA (pv 0) (aP (bA (d9.mono (by decide)) hr rfl (aP (aI (aU (K:=K) rfl) rfl B.len bX (aA (pv 1) aE)) aE)) aE)))) (aC (aY (i:=3) nd rfl (.inl rfl) (bY aE)) (aC (cO df rfl (bL (K:=K) rfl (aEO (K:=K) rfl rfl rfl B.sorted dW rfl B.set aEJ (cD (dS (N':=["i","j","table"]) (ix:=[none,none,some 1]) rfl rfl rfl (bL (K:=K) rfl (pv 2)) (λ_ _ _=>(fI (K:=K) rfl rfl (bQ (aS (i:=0) (show(["i","j","table"]:List Str).Nodup from by decide+kernel) rfl (Or.inl rfl)) (bQ (aS (i:=1) (show(["i","j","table"]:List Str).Nodup from by decide+kernel) rfl (Or.inl rfl)) fK)))) (λ_ _ _ => .nil) (λ_ _ _ _=>(cV rfl (bF (aT (K:=K) rfl) (bF (aT (K:=K) rfl) (pv 2) (pv 0) (λ_ _=>rfl)) (pv 1) (λ_ _=>rfl)) rfl))) aE))) (aS (i:=4) nd rfl (Or.inl rfl)) (aC (cO df rfl (bL (K:=K) rfl (pv 2)) (fI (K:=K) rfl rfl (bQ (aS (i:=5) nd rfl (Or.inl rfl)) (bQ (aS (i:=6) nd rfl (Or.inl rfl)) fK))) (aC (eL (PW.pt (uP (bP (eB (K:=K) rfl hr) (bF (aT (K:=K) rfl) (bF (aT (K:=K) rfl) (pv 1) (pv 5) (λ_ _=>rfl)) (pv 6) (λ_ _=>rfl)) (pv 4) (bV _)) (oY (sV (mS (pC hr) (pv 6) (bA (d12.mono (by decide)) hr rfl (aA (pv 3) (aA (pv 5) aE)))))))) (aC (eA (fR (K:=K) rfl dr dy dz cH (pv 3) (bS (cG (aA (pv 5) (aA (pv 6) aE))) aE))) aG) aG) aG)) aG)) (aC (bH (aI (dD (K:=K) rfl) rfl B.sorted dW (aA (pv 3) aE))) aG))))
def dB (K:aa) (p9:Sp) (p15:Sp) (p10:Sp) (p16:Sp) : TS:=(aQ (bO (eU (aB (wR K (aD 2)) (aB (tOp (bN K) (aD 2) (tSl (qS K) (aD 2) cL (eO (tC (.int 1))))) (aB (tOp (bN K) (aD 2) (eU (aB (tC .non) aO))) (aB (tOp (bN K) (tSl (qS K) (aD 2) cL (eO (tUn aEt (tC (.int 1))))) (eU (aB (tC (.int 7)) aO))) aO))))) (aJ 3)) (aQ (hV (gL K (tSl (qS K) (bD p15 [] E0 (aB (aD 0) (aB (tCB (nE K) (aB (tCB aEL (aB (tCB (hU K) (aB (aD 2) aO)) aO)) aO)) aO))) cL (eO (tC (.int 4))))) (aJ 4) (aQ (bO (tOp (bC K) (aD 2) (aD 4)) (aAU K 2 (eX (aJ 5) (eX (aJ 6) aBo)))) (aQ (bO (eU (aB (eK (aB (aD 6) (aB (aD 5) aO))) (aB (eU (aB (aD 5) (aB (aD 6) aO))) (aB (eK (aB (aD 5) (aB (aD 6) (aB (aD 6) aO)))) (aB (eK (aB (aD 5) aO)) (aB (eK (aB (aD 5) (aB (aD 1) aO))) aO)))))) (aJ 7)) (aQ (bO (tOp (bN K) (aD 7) (eU (aB (eK (aB (tUn aEt (tC (.int 1))) (aB (aD 6) aO))) (aB (eK (aB (aD 5) (aB (tC (.bl true)) aO))) (aB (eK (aB (aD 5) (aB (tCB xE (aB (aD 6) aO)) aO))) aO))))) (aJ 7)) (aQ (bO (tOp (bN K) (aD 7) (eU (aB (eK (aB (tOp (fZ K) (aD 5) (tC (.int 1))) (aB (aD 6) aO))) (aB (eK (aB (tOp yGt (aD 5) (tC (.int 0))) (aB (aD 6) aO))) (aB (eK (aB (tCB xE (aB (aD 5) aO)) (aB (aD 6) aO))) aO))))) (aJ 7)) (aQ (bO (tOp (bN K) (aD 7) (eU (aB (eK (aB (tC .non) (aB (aD 6) aO))) (aB (eK (aB (aD 5) (aB (tC .non) aO))) (aB (eK (aB (eK (aB (aD 5) aO)) (aB (aD 6) aO))) (aB (eK (aB (aD 5) (aB (eU (aB (aD 6) aO)) aO))) aO)))))) (aJ 7)) (aQ (bO (tOp (bN K) (aD 7) (bD p10 [] E0 (aB (aD 1) aO))) (aJ 7)) (aQ (hV (gL K (aD 7)) (aJ 8) (aQ (jP (tBM K "list" dH (aD 3) (aB (tOp (bN K) (tOp (bN K) (tSl (qS K) (aD 2) cL (eO (aD 4))) (eU (aB (aD 8) aO))) (tSl (qS K) (aD 2) (eO (tOp (bN K) (aD 4) (tC (.int 1)))) cL)) aO))) aL)) (aQ (jP (tBM K "list" dH (aD 3) (aB (tOp (bN K) (tSl (qS K) (aD 2) cL (eO (aD 4))) (tSl (qS K) (aD 2) (eO (tOp (bN K) (aD 4) (tC (.int 1)))) cL)) aO))) (aQ (jP (tBM K "list" dH (aD 3) (aB (bD p16 [] E0 (aB (aD 2) (aB (aD 4) aO))) aO))) aL)))))))))) (aQ (bO (bD p9 [] E0 (aB (aD 0) (aB (tOp (bN K) (tCB (hU K) (aB (aD 2) aO)) (tC (.int 1))) aO))) (aJ 4)) (aQ (hV (gL K (bD p10 [] E0 (aB (aD 1) aO))) (aJ 9) (aQ (jP (tBM K "list" dH (aD 3) (aB (tOp (bN K) (tOp (bN K) (tSl (qS K) (aD 2) cL (eO (aD 4))) (eU (aB (aD 9) aO))) (tSl (qS K) (aD 2) (eO (aD 4)) cL)) aO))) (aQ (jP (tBM K "list" dH (aD 3) (aB (tCB (jW K) (aB (tOp (bN K) (aD 2) (eU (aB (aD 9) aO))) aO)) aO))) aL))) (aQ (eZ (aD 3)) aL)))))
def iK : OkN P w K mg base "_law_ctie_bends" (top 30) 4 ["feed","many","ties","found","at","i","j","other","one","pair"] ["feed","many","ties"] (dB K p9 p15 p10 p16):=okN λ_ _ _ _ _ _ _ nd hr=>(aC (aY (i:=3) nd rfl (.inl rfl) (bY (cX (vJ (K:=K) rfl (pv 2)) (cE (bB (aW (K:=K) rfl) (pv 2) (cJ (jI (K:=K) rfl) (pv 2) dG (cY aK))) (cE (bB (aW (K:=K) rfl) (pv 2) (bY (bK uR aE))) (cE (bB (aW (K:=K) rfl) (cJ (jI (K:=K) rfl) (pv 2) dG (cY (aDA aBb aK))) (bY (bK aK aE))) aE)))))) (aC (cO df rfl (bL (K:=K) rfl (cJ (jI (K:=K) rfl) (bA (d14.mono (by decide)) hr rfl (aA (pv 0) (aP (bE (cW (K:=K) rfl rfl) rfl B.list fD (aP (bE jA rfl B.range lI (aP (aI (aU (K:=K) rfl) rfl B.len bX (aA (pv 2) aE)) aE)) aE)) aE))) dG (cY aK))) (aS (i:=4) nd rfl (Or.inl rfl)) (aC (iQ (bF (aT (K:=K) rfl) (pv 2) (pv 4) (λ_ _=>rfl)) (fI (K:=K) rfl rfl (bQ (aS (i:=5) nd rfl (Or.inl rfl)) (bQ (aS (i:=6) nd rfl (Or.inl rfl)) fK)))) (aC (aY (i:=7) nd rfl (.inl rfl) (bY (bS (cG (aA (pv 6) (aA (pv 5) aE))) (vC (bY (aA (pv 5) (aA (pv 6) aE))) (bS (cG (aA (pv 5) (aA (pv 6) (aA (pv 6) aE)))) (bS (cG (aA (pv 5) aE)) (bS (cG (aA (pv 5) (aA (pv 1) aE))) aE))))))) (aC (aY (i:=7) nd rfl (.inl rfl) (bB (aW (K:=K) rfl) (pv 7) (bY (bS (cG (aBS (aDA aBb aK) (aA (pv 6) aE))) (bS (cG (aA (pv 5) (bK kI aE))) (bS (cG (aA (pv 5) (aP (bE sA rfl B.str aDi (aA (pv 6) aE)) aE))) aE)))))) (aC (aY (i:=7) nd rfl (.inl rfl) (bB (aW (K:=K) rfl) (pv 7) (bY (bS (cG (cD (fT (eB (K:=K) rfl hr) (pv 5) aK (bV _)) (aA (pv 6) aE))) (bS (cG (cD (fT aBW (pv 5) aK (bV _)) (aA (pv 6) aE))) (bS (cG (aP (bE sA rfl B.str aDi (aA (pv 5) aE)) (aA (pv 6) aE))) aE)))))) (aC (aY (i:=7) nd rfl (.inl rfl) (bB (aW (K:=K) rfl) (pv 7) (bY (bS (cG (bK uR (aA (pv 6) aE))) (bS (cG (aA (pv 5) (bK uR aE))) (bS (cG (bS (cG (aA (pv 5) aE)) (aA (pv 6) aE))) (bS (cG (aA (pv 5) (vC (bY (aA (pv 6) aE)) aE))) aE))))))) (aC (aY (i:=7) nd rfl (.inl rfl) (bB (aW (K:=K) rfl) (pv 7) (bA (d9.mono (by decide)) hr rfl (aA (pv 1) aE)))) (aC (cO df rfl (bL (K:=K) rfl (pv 7)) (aS (i:=8) nd rfl (Or.inl rfl)) (aC (eA (fR (K:=K) rfl dr dy dz cH (pv 3) (cE (bB (aW (K:=K) rfl) (bB (aW (K:=K) rfl) (cJ (jI (K:=K) rfl) (pv 2) dG (cY (pv 4))) (bY (aA (pv 8) aE))) (cJ (jI (K:=K) rfl) (pv 2) (cY (bB (aW (K:=K) rfl) (pv 4) aK)) dG)) aE))) aG)) (aC (eA (fR (K:=K) rfl dr dy dz cH (pv 3) (cE (bB (aW (K:=K) rfl) (cJ (jI (K:=K) rfl) (pv 2) dG (cY (pv 4))) (cJ (jI (K:=K) rfl) (pv 2) (cY (bB (aW (K:=K) rfl) (pv 4) aK)) dG)) aE))) (aC (eA (fR (K:=K) rfl dr dy dz cH (pv 3) (aP (bA (d15.mono (by decide)) hr rfl (aA (pv 2) (aA (pv 4) aE))) aE))) aG)))))))))) (aC (aY (i:=4) nd rfl (.inl rfl) (bA (d8.mono (by decide)) hr rfl (aA (pv 0) (cE (bB (aW (K:=K) rfl) (aI (aU (K:=K) rfl) rfl B.len bX (aA (pv 2) aE)) aK) aE)))) (aC (cO df rfl (bL (K:=K) rfl (bA (d9.mono (by decide)) hr rfl (aA (pv 1) aE))) (aS (i:=9) nd rfl (Or.inl rfl)) (aC (eA (fR (K:=K) rfl dr dy dz cH (pv 3) (cE (bB (aW (K:=K) rfl) (bB (aW (K:=K) rfl) (cJ (jI (K:=K) rfl) (pv 2) dG (cY (pv 4))) (bY (aA (pv 9) aE))) (cJ (jI (K:=K) rfl) (pv 2) (cY (pv 4)) dG)) aE))) (aC (eA (fR (K:=K) rfl dr dy dz cH (pv 3) (aP (aI (dD (K:=K) rfl) rfl B.sorted dW (cE (bB (aW (K:=K) rfl) (pv 2) (bY (aA (pv 9) aE))) aE)) aE))) aG))) (aC (bH (pv 3)) aG)))))
def fV (K:aa) : TS:=(aQ (bO (tSl (qS K) (aD 0) (eO (aD 1)) (eO (tOp (bN K) (aD 1) (tC (.int 2))))) (aJ 2)) (aQ (eZ (tOp (bN K) (tOp (bN K) (tSl (qS K) (aD 0) cL (eO (aD 1))) (wR K (aD 2))) (tSl (qS K) (aD 0) (eO (tOp (bN K) (aD 1) (tC (.int 2)))) cL))) aL))
def kL : OkN P w K mg base "_law_cswapped" (top 31) 1 ["some","at","pair"] ["some","at"] (fV K):=okN λ_ _ _ _ _ _ _ nd hr=>(aC (aY (i:=2) nd rfl (.inl rfl) (cJ (jI (K:=K) rfl) (pv 0) (cY (pv 1)) (cY (bB (aW (K:=K) rfl) (pv 1) aK)))) (aC (bH (bB (aW (K:=K) rfl) (bB (aW (K:=K) rfl) (cJ (jI (K:=K) rfl) (pv 0) dG (cY (pv 1))) (vJ (K:=K) rfl (pv 2))) (cJ (jI (K:=K) rfl) (pv 0) (cY (bB (aW (K:=K) rfl) (pv 1) aK)) dG))) aG))
def aFt (K:aa) (p17:Sp) (p18:Sp) (p19:Sp) (p20:Sp) (p21:Sp) (p22:Sp) (p23:Sp) (p24:Sp) : TS:=(aQ (bO (bD p22 [] E0 (aB (aD 0) aO)) (aJ 1)) (aQ (hV (kH (aB (tC (.int 2)) aO)) (aJ 2) (aQ (bO (bD p18 [] E0 (aB (aD 1) (aB (tC (.int 1)) (aB (tC (.int 8)) aO)))) (aJ 3)) (aQ (hV (gL K (eU (aB (bD p21 [] E0 (aB (aD 1) (aB (aD 3) aO))) (aB (bD p17 [] E0 (aB (aD 1) (aB (tCB (hU K) (aB (aD 3) aO)) aO))) aO)))) (aJ 4) (aQ (hV (gL K (tOp (bN K) (eU (aB (aD 4) aO)) (bD p23 [] E0 (aB (aD 1) (aB (tCB (hU K) (aB (aD 3) aO)) (aB (aD 4) aO)))))) (aJ 5) (aQ (bO (tCB (wF K) (aB (aD 5) aO)) (aJ 6)) (aQ (bO (nB (bD p20 [] E0 (aB (tCB (hU K) (aB (aD 3) aO)) (aB (aD 5) aO))) (bD p19 [] E0 (aB (aD 3) (aB (aD 5) aO)))) (aJ 7)) (aQ (bO (bD p24 [] E0 (aB (aD 3) (aB (aD 5) aO))) (aJ 8)) (aQ (fA (tOr (yA (tB (tCB (xM K) (aB (aD 8) (aB (tC (.ty "bool")) aO))))) (tOr (bU (tOp (vN K) (aD 8) (aD 7))) (bU (tOp (vN K) (tCB (wF K) (aB (aD 5) aO)) (aD 6))))) (aQ (eZ (tC (.bl false))) aL) aL) aL))))) aL)) (aQ (bO (bD p18 [] E0 (aB (aD 1) (aB (tCB (hU K) (aB (aD 3) aO)) (aB (tCB (hU K) (aB (aD 3) aO)) aO)))) (aJ 9)) (aQ (hV (gL K (eU (aB (bD p21 [] E0 (aB (aD 1) (aB (aD 3) aO))) (aB (bD p17 [] E0 (aB (aD 1) (aB (tCB (hU K) (aB (aD 3) aO)) aO))) aO)))) (aJ 4) (aQ (hV (gL K (eK (aB (aD 3) (aB (aD 9) (aB (aD 3) aO))))) (aJ 10) (aQ (bO (bD p24 [] E0 (aB (aD 10) (aB (tCB (nE K) (aB (aD 4) aO)) aO))) (aJ 8)) (aQ (fA (tOr (yA (tB (tCB (xM K) (aB (aD 8) (aB (tC (.ty "bool")) aO))))) (bU (tOp (vN K) (aD 8) (bD p19 [] E0 (aB (aD 10) (aB (aD 4) aO)))))) (aQ (eZ (tC (.bl false))) aL) aL) aL))) aL)) aL))))) (aQ (eZ (tC (.bl true))) aL)))
def aER : OkN P w K mg base "law" (top 32) 6 ["script","feed","turn","table","ties","thing","seen","due","found","other","one"] ["script"] (aFt K p17 p18 p19 p20 p21 p22 p23 p24):=okN λ_ _ _ _ _ _ _ nd hr=>(aC (aY (i:=1) nd rfl (.inl rfl) (bA (d21.mono (by decide)) hr rfl (aA (pv 0) aE))) (aC (cO df rfl (cP rfl B.range (bK aK aE)) (aS (i:=2) nd rfl (Or.inl rfl)) (aC (aY (i:=3) nd rfl (.inl rfl) (bA (d17.mono (by decide)) hr rfl (aA (pv 1) (bK aK (bK aK aE))))) (aC (@cO _ _ _ _ _ _ _ _ df rfl (@bL _ K _ _ _ rfl (bY (aP (bA (d20.mono (by decide)) hr rfl (aA (pv 1) (aA (pv 3) aE))) (aP (bA (d16.mono (by decide)) hr rfl (aA (pv 1) (aP (aI (aU (K:=K) rfl) rfl B.len bX (aA (pv 3) aE)) aE))) aE)))) (aS (i:=4) nd rfl (Or.inl rfl)) (aC (cO df rfl (bL (K:=K) rfl (bB (aW (K:=K) rfl) (bY (aA (pv 4) aE)) (bA (d22.mono (by decide)) hr rfl (aA (pv 1) (aP (aI (aU (K:=K) rfl) rfl B.len bX (aA (pv 3) aE)) (aA (pv 4) aE)))))) (aS (i:=5) nd rfl (Or.inl rfl)) (aC (aY (i:=6) nd rfl (.inl rfl) (aI (nN (K:=K) rfl hr) rfl B.repr aBi (aA (pv 5) aE))) (aC (aY (i:=7) nd rfl (.inl rfl) (kD (bA (d19.mono (by decide)) hr rfl (aP (aI (aU (K:=K) rfl) rfl B.len bX (aA (pv 3) aE)) (aA (pv 5) aE))) (lN (bA (d18.mono (by decide)) hr rfl (aA (pv 3) (aA (pv 5) aE)))))) (aC (aY (i:=8) nd rfl (.inl rfl) (uN (y1.mono (by decide)) hr rfl yW (aA (pv 3) (aA (pv 5) aE)))) (aC (eL (PW.pt (mX (iF (iD (aI (dA (K:=K) rfl) rfl B.isi iP (aA (pv 8) (aA (fH (v := .ty "bool") rfl B.bool oQ rfl) aE))))) (mX (bP (iZ (K:=K) rfl hr) (pv 8) (pv 7) (bV _)) (iE (bP (iZ (K:=K) rfl hr) (aI (nN (K:=K) rfl hr) rfl B.repr aBi (aA (pv 5) aE)) (pv 6) (bV _)))))) (aC (bH kI) aG) aG) aG))))) aG) (by intro _;rfl)) (aC (aY (i:=9) nd rfl (.inl rfl) (bA (d17.mono (by decide)) hr rfl (aA (pv 1) (aP (aI (aU (K:=K) rfl) rfl B.len bX (aA (pv 3) aE)) (aP (aI (aU (K:=K) rfl) rfl B.len bX (aA (pv 3) aE)) aE))))) (aC (@cO _ _ _ _ _ _ _ _ df rfl (@bL _ K _ _ _ rfl (bY (aP (bA (d20.mono (by decide)) hr rfl (aA (pv 1) (aA (pv 3) aE))) (aP (bA (d16.mono (by decide)) hr rfl (aA (pv 1) (aP (aI (aU (K:=K) rfl) rfl B.len bX (aA (pv 3) aE)) aE))) aE)))) (aS (i:=4) nd rfl (Or.inl rfl)) (aC (@cO _ _ _ _ _ _ _ _ df rfl (@bL _ K _ _ _ rfl (cG (aA (pv 3) (aA (pv 9) (aA (pv 3) aE))))) (aS (i:=10) nd rfl (Or.inl rfl)) (aC (aY (i:=8) nd rfl (.inl rfl) (uN (y1.mono (by decide)) hr rfl yW (aA (pv 10) (aP (bE (cW (K:=K) rfl rfl) rfl B.list fD (aA (pv 4) aE)) aE)))) (aC (eL (PW.pt (mX (iF (iD (aI (dA (K:=K) rfl) rfl B.isi iP (aA (pv 8) (aA (fH (v := .ty "bool") rfl B.bool oQ rfl) aE))))) (iE (bP (iZ (K:=K) rfl hr) (pv 8) (bA (d18.mono (by decide)) hr rfl (aA (pv 10) (aA (pv 4) aE))) (bV _))))) (aC (bH kI) aG) aG) aG)) (by intro _;rfl)) aG) (by intro _;rfl)) aG))))) (aC (bH kI) aG)))
end
def whD:Dt->Bool
 | .int _=>true
 |_=>false
def aGm:Dt->Bool
 | .tup ds=>ds.all whD
 |_=>false
def spW (K:aa):Sp:=λvs H Q _=>∃(v:V) (d:Dt),vs=[v]/\Sh K H d v/\∀H',Same H H'->Q (.bl (whD d)) H'
def aHD (K:aa):Sp:=λvs H Q _=>∃(v:V) (d:Dt),vs=[v]/\Sh K H d v/\(∀ds,d = .tup ds->ds.length<=1000)/\∀H',Same H H'->Q (.bl (aGm d)) H'
theorem uV {α β:Type}(f:α->β)(e:α):∀ds:List α,(aj ds.length).flatMap (λi=>[f (ds.getD i e)])=ds.map f
 |[]=>rfl
 |d :: ds=>by
  rw[ba,jh,mh,List.flatMap_map,bx,<- uV f e ds]
  rfl
section
variable {K:aa}
theorem vK:∀vs H Q E,spW K vs H Q E->oM K { nx:=λ_ H'=>Q .non H',rt:=Q } (bZ ["thing"] vs) H:=by
 intro vs H Q E h
 obtain⟨v,d,rfl,hS,q⟩:=h
 have q0:=q H (Same.refl _)
 refine⟨_,rfl,v,d,"int",rfl,by decide,hS,_,rfl,?_⟩
 by_cases hi:aDp d "int" = true
 ·rw[if_pos hi]
  refine⟨_,rfl,v,d,"bool",rfl,by decide,hS,_,rfl,?_⟩
  cases d <;> first | exact q0 | (exact absurd hi (by simp[aDp]))
 ·rw[if_neg hi]
  cases d <;> first | exact q0 | (exact absurd (by rfl) hi)
theorem aAa:∀vs H Q E,aHD K vs H Q E->jZ K (spW K) { nx:=λ_ H'=>Q .non H',rt:=Q } (bZ ["thing"] vs) H:=by
 intro vs H Q E h
 obtain⟨v,d,rfl,hS,hz,q⟩:=h
 refine⟨_,rfl,v,d,"tuple",rfl,by decide,hS,_,rfl,?_⟩
 by_cases hi:aDp d "tuple" = true
 ·rw[if_pos hi]
  cases d with
  |tup ds=>
   obtain⟨a,xs,rfl,ha,hL⟩:=id hS
   have hl:ds.length=xs.length:=hL.length
   refine⟨_,rfl,a,rfl, .inr ⟨⟨xs,ha⟩,λacc hacc=>?_⟩⟩
   refine mI [0] ((ds.map whD).map V.bl) hacc (by rw[ai,ai];exact bq (hz ds rfl) (by decide)) ?_ λσ' H' sm hl'=>⟨acc,ds.map whD,rfl, .inl (.of hl'),?_⟩
   ·refine Emits.cast (L:=(aj xs.length).flatMap λi=>[V.bl (whD (ds.getD i .non))]) ?_ (by rw[<- hl,uV (λd=>V.bl (whD d)),jc];rfl)
    refine aBC (by decide) (by show 0<1;decide) (λH' sx=>(cZ hacc sx).tup ha) λi x σ1 H1 hx l1 ag1 s1 sx1 _=>?_
    refine sU λQ hQ=>?_
    have hi':i<ds.length:=by rw[hl];exact(ah.mp hx).1
    obtain⟨y,hy,sy⟩:=hL.get (j:=i) (d:=ds.getD i .non) (by rw[ak];simp[hi'])
    obtain rfl:y=x:=by rw[hx] at hy;cases hy;rfl
    exact⟨_,s1,y,_,rfl,sy.same (cZ hacc sx1),hQ⟩
   ·have:=q H' sm
    rw[show aGm (.tup ds)=ds.all whD from rfl] at this
    rw[zy]
    exact this
  |_=>exact absurd hi (by simp[aDp])
 ·rw[if_neg hi]
  have q0:=q H (Same.refl _)
  cases d <;> first | exact q0 | (exact absurd (by rfl) hi)
end
def rL:List Dt->List Int
 |[]=>[]
 | .int i :: ds=>i :: rL ds
 |_ :: ds=>0 :: rL ds
theorem aAW:∀{ds:List Dt},ds.all whD=true->ds=(rL ds).map Dt.int
 |[],_=>rfl
 |d :: ds,h=>by
  rw[n5,du] at h
  cases d with
  |int i=>rw[rL,bx,<- aAW h.2]
  |_=>exact absurd h.1 (by simp[whD])
theorem gJ:∀(ns ms:List Int),eqL (ns.map Dt.int) (ms.map Dt.int)=decide (ns=ms)
 |[],[]=>by unfold eqL;rfl
 |[],m :: ms=>by simp[eqL]
 |n :: ns,[]=>by simp[eqL]
 |n :: ns,m :: ms=>by
  rw[bx,bx,eqL,gJ ns ms,eqD]
  by_cases h:n=m <;> by_cases h':ns=ms <;> simp[h,h']
theorem mD {i j:Int}:eqD (.int i) (.int j)=decide (i=j):=by rw[eqD];rfl
section
variable {K:aa}
def lQ (m:Nat) (d:Dt):Prop:=∃i j:Nat,d = .tup [.int (i:Int), .int (j:Int)]/\i<j/\j<m
def aBL (K:aa):Sp:=λvs H Q _=>∃(m:Nat) (x:V) (d:Dt),vs=[.int (m:Int),x]/\Sh K H d x/\thin d=true/\∀b,(b=true↔lQ m d)->∀H',Same H H'->Q (.bl b) H'
theorem aFi:∀vs H Q E,aBL K vs H Q E->vX K (aHD K) { nx:=λ_ H'=>Q .non H',rt:=Q } (bZ ["many","thing"] vs) H:=by
 intro vs H Q E h
 obtain⟨m,x,d,rfl,hx,th,q⟩:=h
 have no:∀H',Same H H'->¬ lQ m d->Q (.bl false) H':=λH' s' g=>q false ⟨(λz=>by cases z),λz=>absurd z g⟩ H' s'
 refine⟨_,rfl,x,d,rfl,hx,λds e=>by subst e;exact bq (gw (aCg th).1) (by decide),λH1 s1=>⟨_,rfl,?_⟩⟩
 cases hw:aGm d with
 |false=>
  refine cA rfl (no H1 s1 ?_)
  rintro⟨i,j,rfl,_⟩
  cases hw
 |true=>
  refine cF rfl ?_
  cases d with
  |tup ds=>
   have hd:=aAW hw
   generalize rL ds=ns at hd
   subst hd
   obtain⟨a,xs,rfl,ha,hL⟩:=id hx
   obtain rfl:=hL.of_ints
   have ha1:=s1.tup ha
   refine⟨_,rfl,a,_,rfl, .inr ha1, .int _, .int _,bc _,rfl,rfl,_,rfl,?_⟩
   rw[mD,ai]
   by_cases c2:ns.length=2
   ·refine cF (decide_eq_true (by omega)) ?_
    match ns,c2 with
    |[x,y],_=>
     refine⟨_,rfl,ixT (j:=0) ha1 rfl ⟨_,_,rfl,rfl,_,rfl,?_⟩⟩
     by_cases cx:0<=x
     ·refine cF (decide_eq_true cx) ⟨_,rfl,ixT (j:=1) ha1 rfl ⟨_,_,rfl,rfl,_,rfl,?_⟩⟩
      by_cases cy:x<y
      ·refine cF (decide_eq_true cy) ⟨_,rfl,_,_,rfl,rfl,q _ ?_ H1 s1⟩
       rw[decide_eq_true_iff]
       constructor
       ·intro h
        refine⟨x.toNat,y.toNat,?_,by omega,by omega⟩
        rw[nq cx,nq (by omega)]
        rfl
       ·rintro⟨i,j,e,h1,h2⟩
        simp only[bx,j7,Dt.tup.injEq,ig,Dt.int.injEq,and_true] at e
        omega
      ·refine cA (decide_eq_false cy) (no H1 s1 ?_)
       rintro⟨i,j,e,h1,h2⟩
       simp only[bx,j7,Dt.tup.injEq,ig,Dt.int.injEq,and_true] at e
       omega
     ·refine cA (decide_eq_false cx) (no H1 s1 ?_)
      rintro⟨i,j,e,h1,h2⟩
      simp only[bx,j7,Dt.tup.injEq,ig,Dt.int.injEq,and_true] at e
      omega
   ·refine cA (decide_eq_false (by omega)) (no H1 s1 ?_)
    rintro⟨i,j,e,h1,h2⟩
    simp only[Dt.tup.injEq] at e
    have:=congrArg u6 e
    rw[ai] at this
    exact c2 this
  |_=>exact absurd hw (by simp[aGm])
end
theorem jS {p:Int->Bool}{a:Int}{L:List Int}(h:a∈L):L.countP p=(L.erase a).countP p+if p a=true then 1 else 0:=by
 have:=(mw h).countP_eq p
 rw[this,qp]
theorem lA {A B:List Int}(h:A.Perm B):A.sum=B.sum:=by
 induction h with
 |nil=>rfl
 |cons a _ ih=>rw[i9,i9,ih]
 |swap a b l=>rw[i9,i9,i9,i9];omega
 |trans _ _ h1 h2=>rw[h1,h2]
theorem sJ {a:Int}{L:List Int}(h:a∈L):L.sum=a+(L.erase a).sum:=by
 have:=lA (mw h)
 rw[this,i9]
theorem aDa:∀(L:List Int),L≠[]->∃a∈L,∀x∈L,x<=a
 |[a],_=>⟨a,by simp,λx hx=>by rw[ay.mp hx];exact lq _⟩
 |a :: b :: L,_=>by
  obtain⟨m,hm,h⟩:=aDa (b :: L) (by simp)
  by_cases c:a<=m
  ·exact⟨m,ar _ hm,λx hx=>by rcases a9.mp hx with rfl | hx;exact c;exact h x hx⟩
  ·exact⟨a,by simp,λx hx=>by
    rcases a9.mp hx with rfl | hx
    ·exact lq _
    ·have:=h x hx;omega⟩
theorem aEZ:∀(n:Nat) (A B:List Int),A.length=n->B.length=n->(∀t:Int,A.countP (λx=>decide (t<x))<=B.countP (λx=>decide (t<x)))->A.sum<=B.sum
 |0,A,B,ha,hb,_=>by
  rw[kl ha,kl hb];exact lq _
 |n+1,A,B,ha,hb,h=>by
  obtain⟨a,hma,ma⟩:=aDa A (by intro e;rw[e] at ha;cases ha)
  have h1:0<A.countP (λx=>decide (a - 1<x)):=yx.mpr ⟨a,hma,decide_eq_true (by omega)⟩
  obtain⟨b,hmb,hb'⟩:=yx.mp (c5 h1 (h (a - 1)))
  have hab:a<=b:=by have:=of_decide_eq_true hb';omega
  have:=aEZ n (A.erase a) (B.erase b) (by rw[i4 hma];omega) (by rw[i4 hmb];omega) λt=>by
   by_cases c:t<a
   ·have e:=h t
    rw[jS hma,jS hmb,if_pos (decide_eq_true c),if_pos (decide_eq_true (show t<b by omega))] at e
    omega
   ·have:(A.erase a).countP (λx=>decide (t<x))=0:=yy.mpr λx hx=>by
     have:=ma x (xi hx)
     simp
     omega
    omega
  rw[sJ hma,sJ hmb]
  omega
inductive Gr:List Nat->List (Nat×Nat)->Prop
 |one (r:Nat):Gr [r] []
 |more {vs:List Nat}{es:List (Nat×Nat)}{p c:Nat}:Gr vs es->p∈vs->c∉vs->Gr (vs++[c]) (es++[(p,c)])
def wts (C:Nat->Nat->Int) (es:List (Nat×Nat)):List Int:=es.map λe=>C e.1 e.2
theorem Gr.len {vs:List Nat}{es:List (Nat×Nat)}(h:Gr vs es):vs.length=es.length+1:=by
 induction h with
 |one r=>rfl
 |more _ _ _ ih=>rw[au,au,ih];rfl
theorem Gr.nd {vs:List Nat}{es:List (Nat×Nat)}(h:Gr vs es):vs.Nodup:=by
 induction h with
 |one r=>simp
 |more _ _ hc ih=>
  rw[gf]
  exact⟨ih,by simp,λa ha b hb e=>hc (by rw[<- ay.mp hb,<- e];exact ha)⟩
theorem Gr.mem {vs:List Nat}{es:List (Nat×Nat)}(h:Gr vs es):∀e∈es,e.1∈vs/\e.2∈vs/\e.1≠e.2:=by
 induction h with
 |one r=>intro e he;cases he
 | @more vs' es' p c g hp hc ih=>
  intro e he
  rcases bo.mp he with he | he
  ·have:=ih e he
   exact⟨da _ this.1,da _ this.2.1,this.2.2⟩
  ·rw[ay.mp he]
   exact⟨da _ hp,cm _ (by simp),λe=>hc (by have e':p=c:=e;rw[<- e'];exact hp)⟩
def aBF (C:Nat->Nat->Int) (vs:List Nat) (ws:List Int):Prop:=∀k w,ws[k]?=some w->∀x∈vs.take (k+1),∀y∈vs.drop (k+1),w<=C x y
def cnt (t:Int) (ws:List Int) (j:Nat):Nat:=(ws.take j).countP λx=>decide (t<x)
theorem aCz (t:Int)(ws:List Int)(j:Nat):cnt t ws (j+1)<=cnt t ws j+1:=by
 unfold cnt
 rw[e8,ud]
 have:(ws[j]?.toList).length<=1:=by cases ws[j]? <;> simp
 have:=bq (List.countP_le_length (p:=λx=>decide (t<x)) (l:=ws[j]?.toList)) this
 omega
theorem vB (t:Int)(ws:List Int):∀(j b:Nat),b<=cnt t ws j->∃i,i<=j/\cnt t ws i=b
 |0,b,h=>⟨0,az _,by
  have:cnt t ws 0=0:=by unfold cnt;simp
  omega⟩
 |j+1,b,h=>by
  by_cases c:b<=cnt t ws j
  ·obtain⟨i,h1,h2⟩:=vB t ws j b c
   exact⟨i,by omega,h2⟩
  ·have:=aCz t ws j
   exact⟨j+1,az _,by omega⟩
theorem aDB (t:Int)(ws:List Int)(b:Nat)(h:b<=ws.countP (λx=>decide (t<x))):∃j,j<=ws.length/\cnt t ws j=b:=vB t ws ws.length b (by unfold cnt;rw[fh];exact h)
theorem aFV {t:Int}{ws:List Int}{i j:Nat}(hij:i<=j)(h:cnt t ws i≠cnt t ws j):∃k w,i<=k/\k<j/\ws[k]?=some w/\t<w:=by
 apply c6
 intro no
 apply h
 unfold cnt
 have e:ws.take j=ws.take i++(ws.take j).drop i:=by
  have:=(l9 i (ws.take j)).symm
  rwa[List.take_take,iz hij] at this
 rw[e,ud]
 have:((ws.take j).drop i).countP (λx=>decide (t<x))=0:=yy.mpr λx hx=>by
  obtain⟨k,hk,rfl⟩:=dq hx
  rw[qm,fg] at hk
  simp only[List.getElem_drop,List.getElem_take]
  intro e1
  exact no ⟨i+k,ws[i+k]'(by omega),by omega,by omega,ae (by omega),of_decide_eq_true e1⟩
 omega
theorem tU {C:Nat->Nat->Int}{m:Nat}{vs us:List Nat}{es fs:List (Nat×Nat)}(sym:∀x y,x<m->y<m->C x y=C y x)(g:Gr vs es)(l:aBF C vs (wts C es))(pv:vs.Perm (aj m))(g':Gr us fs)(pu:us.Perm (aj m)):(wts C es).sum<=(wts C fs).sum:=by
 have lv:vs.length=m:=by rw[pv.length_eq,cq]
 have lu:us.length=m:=by rw[pu.length_eq,cq]
 have le:=g.len
 have lf:=g'.len
 refine aEZ (m - 1) _ _ (by unfold wts;rw[ai];omega) (by unfold wts;rw[ai];omega) λt=>?_
 let β:Nat->Nat:=λv=>cnt t (wts C es) (vs.idxOf v)
 have apart:∀x y,x<m->y<m->β x≠β y->t<C x y:=λx y hx hy hne=>by
  have ix:vs.idxOf x<vs.length:=sd (pv.mem_iff.mpr (bb.mpr hx))
  have iy:vs.idxOf y<vs.length:=sd (pv.mem_iff.mpr (bb.mpr hy))
  have key:∀x y,vs.idxOf x<vs.length->vs.idxOf y<vs.length->vs.idxOf x<=vs.idxOf y->β x≠β y->t<C x y:=λx y ix iy hle hne=>by
   obtain⟨k,w,h1,h2,h3,h4⟩:=aFV hle hne
   have:=l k w h3 x (by
    rw[List.mem_take_iff_getElem]
    exact⟨vs.idxOf x,by omega,List.getElem_idxOf ix⟩) y (by
    rw[List.mem_drop_iff_getElem]
    exact⟨vs.idxOf y - (k+1),by omega,by
     have:k+1+(vs.idxOf y - (k+1))=vs.idxOf y:=by omega
     simp only[this]
     exact List.getElem_idxOf iy⟩)
   omega
  rcases qk (vs.idxOf x) (vs.idxOf y) with h | h
  ·exact key x y ix iy h hne
  ·rw[sym x y hx hy]
   exact key y x iy ix h (gh hne)
 let met:List Nat->Nat:=λws=>((aj ((wts C es).countP (λx=>decide (t<x))+1)).filter λb=>ws.any λv=>decide (β v=b)).length
 have grow:∀{ws:List Nat}{hs:List (Nat×Nat)},Gr ws hs->(∀v∈ws,v<m)->met ws<=1+(wts C hs).countP (λx=>decide (t<x)):=by
  intro ws hs g
  induction g with
  |one r=>
   intro _
   have:met [r]<=1:=by
    show((aj _).filter _).length<=1
    have nd:((aj ((wts C es).countP (λx=>decide (t<x))+1)).filter λb=>[r].any λv=>decide (β v=b)).Nodup:=nr.nodup f6
    have sub:∀b∈((aj ((wts C es).countP (λx=>decide (t<x))+1)).filter λb=>[r].any λv=>decide (β v=b)),b=β r:=λb hb=>by
     have:=(gg.mp hb).2
     simp at this
     exact this.symm
    generalize ((aj ((wts C es).countP (λx=>decide (t<x))+1)).filter λb=>[r].any λv=>decide (β v=b))=Z at nd sub
    match Z,nd,sub with
    |[],_,_=>simp
    |[_],_,_=>simp
    |a :: b :: Z,nd,sub=>
     have h1:=sub a (by simp)
     have h2:=sub b (by simp)
     rw[h1,h2] at nd
     simp at nd
   omega
  | @more ws hs p c g hp hc ih=>
   intro hw
   have ih:=ih λv hv=>hw v (da _ hv)
   have e1:(wts C (hs++[(p,c)])).countP (λx=>decide (t<x))=(wts C hs).countP (λx=>decide (t<x))+if t<C p c then 1 else 0:=by
    unfold wts
    rw[de,ud,bx,j7,qp,List.countP_nil]
    simp
   rw[e1]
   by_cases cb:∃v∈ws,β v=β c
   ·have e2:met (ws++[c])=met ws:=by
     show((aj _).filter _).length=((aj _).filter _).length
     congr 1
     refine List.filter_congr λb _=>?_
     rw[List.any_append]
     cases h:ws.any λv=>decide (β v=b) with
     |true=>rfl
     |false=>
      simp
      intro e
      obtain⟨v,hv,ev⟩:=cb
      rw[pg] at h
      exact h v hv (decide_eq_true (by rw[ev];exact e))
    omega
   ·have hlt:t<C p c:=apart p c (hw p (da _ hp)) (hw c (cm _ (by simp))) λe=>cb ⟨p,hp,e⟩
    rw[if_pos hlt]
    have e3:met (ws++[c])<=met ws+1:=by
     show((aj _).filter _).length<=((aj _).filter _).length+1
     have nd:∀Z:List Nat,Z.Nodup->(Z.filter λb=>(ws++[c]).any λv=>decide (β v=b)).length<=(Z.filter λb=>ws.any λv=>decide (β v=b)).length+if β c∈Z then 1 else 0:=by
      intro Z
      induction Z with
      |nil=>intro _;simp
      |cons z Z ihZ=>
       intro nz
       have nz':=dk.mp nz
       have ih':=ihZ nz'.2
       by_cases cz:β c=z
       ·have hnot:β c∉Z:=by rw[cz];exact nz'.1
        rw[if_neg hnot] at ih'
        rw[if_pos (by rw[cz];simp)]
        rw[km,km]
        split <;> split <;> first | omega | (simp only[ba];omega)
       ·have e4:((ws++[c]).any λv=>decide (β v=z))=ws.any λv=>decide (β v=z):=by
         rw[List.any_append]
         simp[cz]
        have e5:(β c∈z :: Z)↔β c∈Z:=by
         rw[a9]
         exact⟨λh=>h.resolve_left cz, .inr⟩
        rw[km,km,e4]
        simp only[e5]
        split <;> first | omega | (simp only[ba];omega)
     have h2:=nd (aj ((wts C es).countP (λx=>decide (t<x))+1)) f6
     split at h2 <;> omega
    omega
 have all:met us=(wts C es).countP (λx=>decide (t<x))+1:=by
  show((aj _).filter _).length=_
  rw[List.filter_eq_self.mpr,cq]
  intro b hb
  have hb:=bb.mp hb
  obtain⟨j,hj,ej⟩:=aDB t (wts C es) b (by omega)
  have hj':j<vs.length:=by
   unfold wts at hj
   rw[ai] at hj
   omega
  rw[ni]
  refine⟨vs[j],pu.mem_iff.mpr (pv.mem_iff.mp (dg hj')),decide_eq_true ?_⟩
  show cnt t (wts C es) (vs.idxOf vs[j])=b
  rw[g.nd.idxOf_getElem]
  exact ej
 have:=grow g' λv hv=>bb.mp (pu.mem_iff.mp hv)
 omega
theorem aHj {x:Int}{a b:Nat}(hx:x.natAbs<2 ^ a)(h:a<=b):x.natAbs<2 ^ b:=c5 hx (Nat.pow_le_pow_right (by decide) h)
theorem vF {a m j:Int}(h0:0<m)(h1:m<=4611686018427387904):CMul (a % m) j := .inl ⟨by have:=rm a (show m≠0 by omega);omega,by have:=tq a h0;omega⟩
def aHy (l:Addr) (k:Nat) (z:Int):HO := .lst [.ref l, .int (k:Int), .int z]
def PenAt (H:Hp) (p l:Addr) (ns:List Int) (k:Nat) (z:Int):Prop:=H p=some (aHy l k z)/\H l=some (.lst (ns.map V.int))/\l≠p
def Pen (H:Hp) (p l:Addr) (ns:List Int):Prop:=∃k z,PenAt H p l ns k z
theorem PenAt.put {H:Hp}{p l:Addr}{ns:List Int}{k k':Nat}{z z':Int}(h:PenAt H p l ns k z):PenAt (upd H p (aHy l k' z')) p l ns k' z':=⟨aF,by rw[aR h.2.2];exact h.2.1,h.2.2⟩
theorem PenAt.x {H H':Hp}{p l:Addr}{ns:List Int}{k:Nat}{z:Int}(h:PenAt H p l ns k z)(s:Same H H'):PenAt H' p l ns k z:=⟨s _ _ h.1,s _ _ h.2.1,h.2.2⟩
theorem Pen.x {H H':Hp}{p l:Addr}{ns:List Int}(h:Pen H p l ns)(s:Same H H'):Pen H' p l ns:=by
 obtain⟨k,z,h⟩:=h
 exact⟨k,z,h.x s⟩
theorem Pen.ne {H:Hp}{p l:Addr}{ns:List Int}(h:Pen H p l ns){x:Addr}(hx:H x=none):x≠p/\x≠l:=by
 obtain⟨k,z,h⟩:=h
 exact⟨λe=>(by rw[e,h.1] at hx;cases hx),λe=>(by rw[e,h.2.1] at hx;cases hx)⟩
theorem Pen.upd {H:Hp}{p l:Addr}{ns:List Int}(h:Pen H p l ns){x:Addr}{o:HO}(h1:x≠p)(h2:x≠l):Pen (upd H x o) p l ns:=by
 obtain⟨k,z,h⟩:=h
 exact⟨k,z,by rw[aR (gh h1)];exact h.1,by rw[aR (gh h2)];exact h.2.1,h.2.2⟩
theorem aAy {n a b:Nat}:at2 (c7 n (c7 n 0)) a b=0:=by
 unfold at2
 have:(c7 n (c7 n (0:Int))).getD a []=[]\/(c7 n (c7 n (0:Int))).getD a []=c7 n 0:=by
  rw[ak,j9]
  split
  ·exact .inr rfl
  ·exact .inl rfl
 rcases this with e | e
 ·rw[e];rfl
 ·rw[e,ak,j9]
  split <;> rfl
section
variable {K:aa}
theorem wU {H H':Hp}{a p:Addr}{xs ys:List V}(h:SqT K H a xs)(hp:H p=some (.lst ys))(sx:SameX p H H'):SqT K H' a xs:=by
 rcases h with(h | ⟨ob,h⟩) | h
 ·exact .inl (.inl (sx _ _ (ne_of h hp (λz=>nomatch z)) h))
 ·exact .inl (.inr ⟨ob,sx _ _ (ne_of h hp (λz=>nomatch z)) h⟩)
 ·exact .inr h
def aDy:Sp:=λvs H Q _=>∃(c:Int) (k:Nat),vs=[.int c, .int (k:Int)]/\∀v:Int,Q (.int v) H
theorem aEI:∀vs H Q E,aDy vs H Q E->iS K { nx:=λ_ H'=>Q .non H',rt:=Q } (bZ ["cell","at","one","two","three"] vs) H:=by
 intro vs H Q E h
 obtain⟨c,k,rfl,q⟩:=h
 refine⟨_,rfl,_,_,rfl,rfl,by show(0:Int)<1000000007;decide, .inl (.inr ⟨by decide,by decide⟩),_,rfl, .inl (.inr ⟨by decide,by decide⟩),_,_,rfl,rfl,by show(0:Int)<2147483629;decide,?_⟩
 refine⟨_,rfl,_,rfl, .inl (vF (by decide) (by decide)),_,rfl, .inl (.inr ⟨by decide,by decide⟩),_,rfl,_,_,rfl,rfl,by show(0:Int)<65537;decide,_,_,rfl,rfl,by show(0:Int)<2147483587;decide,?_⟩
 refine⟨_,rfl,_,rfl, .inl (vF (by decide) (by decide)),_,rfl, .inl (.inr ⟨by decide,by decide⟩),_,_,rfl,rfl,by show(0:Int)<2147483563;decide,?_⟩
 exact⟨_,rfl, .inl (.inr ⟨by decide,by decide⟩),_,rfl, .inl (.inr ⟨by decide,by decide⟩),_,rfl,q _⟩
def aCX (K:aa):Sp:=λvs H Q _=>∃(a:Addr) (ns:List Int),vs=[.ref a]/\SqL K H a (ns.map V.int)/\∀p l ms H',Same H H'->Pen H' p l ms->Q (.ref p) H'
theorem aDU:∀vs H Q E,aCX K vs H Q E->jU K { nx:=λ_ H'=>Q .non H',rt:=Q } (bZ ["script"] vs) H:=by
 intro vs H Q E h
 obtain⟨a,ns,rfl,hS,q⟩:=h
 refine⟨_,rfl,_,rfl, .inl ⟨a,_,rfl,hS,λsc hsc=>?_⟩⟩
 obtain⟨ms,ems,_⟩:=aCv ns none (some 40)
 rw[ems]
 refine .inl ⟨sc,_,rfl, .inl (.of aF),λl hl=>⟨show 3<=b8 by decide,λp hp=>?_⟩⟩
 have hlp:l≠p:=λe=>by rw[<- e,aF] at hp;cases hp
 refine q p l ms _ (((aH hsc _).trans (aH hl _)).trans (aH hp _)) ⟨0,0,aF,?_,hlp⟩
 rw[aR hlp]
 exact aF
def fQ:Sp:=λvs H Q _=>∃(p l:Addr) (ns:List Int) (m:Nat),vs=[.ref p, .int (m:Int)]/\Pen H p l ns/\1<=m/\m<2 ^ 100/\∀(r:Nat) H',r<m->Pen H' p l ns->SameX p H H'->Q (.int (r:Int)) H'
theorem aEo:∀vs H Q E,fQ vs H Q E->kE K aDy { nx:=λ_ H'=>Q .non H',rt:=Q } (bZ ["feed","many","at","cell","found"] vs) H:=by
 intro vs H Q E h
 obtain⟨p,l,ns,m,rfl,⟨k,z,hP⟩,h1,hm,q⟩:=h
 have rest:∀(G:Hp) (k':Nat) (z':Int) (x2 x3:Option V),PenAt G p l ns k' z'->SameX p H G->aQ (bO (tOp xS (tOp (bC K) (aD 0) (tC (.int 2))) (aD 1)) (aJ 4)) (aQ (bO (tOp aBD (tOp (bC K) (aD 0) (tC (.int 2))) (aD 1)) (lC (aD 0) (tC (.int 2)) dM)) (aQ (eZ (aD 4)) aL)) { nx:=λ_ H'=>Q .non H',rt:=Q } [some (.ref p),some (.int (m:Int)),x2,x3,none] G:=λG k' z' x2 x3 hG sx=>by
  obtain⟨r,er,hr⟩:=aAM (c:=z') (n:=m) h1
  refine⟨_,rfl,ixL (j:=2) (.of hG.1) rfl ⟨_,rfl,vS h1 er ?_⟩⟩
  refine⟨_,rfl,ixL (j:=2) (.of hG.1) rfl ⟨_,rfl,_,_,rfl,rfl,⟨by omega,aHj (a:=100) (by omega) (by decide)⟩,_,rfl,p,_,2,2,rfl,rfl,hG.1,rfl,?_⟩⟩
  exact⟨_,rfl,q r _ hr ⟨k',z' / (m:Int),hG.put⟩ (sx.trans (SameX.put _))⟩
 refine⟨_,rfl,ixL (j:=2) (.of hP.1) rfl ⟨_,rfl,_,_,rfl,rfl,_,rfl,?_⟩⟩
 by_cases c1:z<(m:Int)
 ·refine cF (decide_eq_true c1) ⟨_,rfl,ixL (j:=0) (.of hP.1) rfl ⟨l,_,rfl, .inl (.of hP.2.1),_,_,rfl,rfl,_,rfl,?_⟩⟩
  rw[ai]
  by_cases c2:0<ns.length
  ·refine cF (decide_eq_true (by omega)) ?_
   obtain⟨j,ej,hj⟩:=aAM (c:=(k:Int)) (n:=ns.length) c2
   refine⟨_,rfl,ixL (j:=1) (.of hP.1) rfl ?_⟩
   refine⟨_,rfl,ixL (j:=0) (.of hP.1) rfl ⟨_,rfl,_,rfl,ixL (j:=0) (.of hP.1) rfl ⟨l,_,rfl, .inl (.of hP.2.1),?_⟩⟩⟩
   rw[ai]
   refine vS c2 ej ?_
   refine ixL (j:=j) (v := .int (ns.getD j 0)) (.of hP.2.1) (by rw[bg,L2.tL hj];rfl) ?_
   generalize ns.getD j 0=c
   refine⟨_,rfl,_,rfl,p,_,1,1,rfl,rfl,hP.1,rfl,?_⟩
   have hP1:PenAt (upd H p (.lst ([.ref l, .int (k:Int), .int z].set 1 (.int ((k:Int)+1))))) p l ns (k+1) z:=hP.put
   have sx1:SameX p H (upd H p (.lst ([.ref l, .int (k:Int), .int z].set 1 (.int ((k:Int)+1))))):=SameX.put _
   generalize upd H p (.lst ([.ref l, .int (k:Int), .int z].set 1 (.int ((k:Int)+1))))=G1 at *
   refine⟨_,rfl,_,rfl,p,_,2,2,rfl,rfl,hP1.1,rfl,?_⟩
   have hP2:PenAt (upd G1 p (.lst ([.ref l, .int ((k+1:Nat):Int), .int z].set 2 (.int c)))) p l ns (k+1) c:=hP1.put
   have sx2:=sx1.trans (SameX.put (H:=G1) (.lst ([.ref l, .int ((k+1:Nat):Int), .int z].set 2 (.int c))))
   generalize upd G1 p (.lst ([.ref l, .int ((k+1:Nat):Int), .int z].set 2 (.int c)))=G2 at *
   have mixed:aQ (bO (bD aDy [] E0 (aB (aD 3) (aB (aD 2) aO))) (lC (aD 0) (tC (.int 2)) dM)) aL { nx:=λσ' H'=>aQ (bO (tOp xS (tOp (bC K) (aD 0) (tC (.int 2))) (aD 1)) (aJ 4)) (aQ (bO (tOp aBD (tOp (bC K) (aD 0) (tC (.int 2))) (aD 1)) (lC (aD 0) (tC (.int 2)) dM)) (aQ (eZ (aD 4)) aL)) { nx:=λ_ H'=>Q .non H',rt:=Q } σ' H',rt:=Q } [some (.ref p),some (.int (m:Int)),some (.int (k:Int)),some (.int c),none] G2:=by
    refine⟨_,rfl,_,rfl,c,k,rfl,λv=>⟨_,rfl,p,_,2,2,rfl,rfl,hP2.1,rfl,?_⟩⟩
    exact rest _ (k+1) v _ _ hP2.put (sx2.trans (SameX.put _))
   refine⟨_,rfl,10,18,rfl,rfl,⟨by decide,by decide,by decide⟩,_,_,rfl,rfl,_,rfl,?_⟩
   by_cases c3:c<10 ^ 18
   ·exact cF (decide_eq_true c3) (cF rfl mixed)
   ·refine cA (decide_eq_false c3) ⟨_,rfl,_,rfl,ixL (j:=0) (.of hP2.1) rfl ⟨l,_,rfl, .inl (.of hP2.2.1),_,_,rfl,rfl,_,rfl,?_⟩⟩
    exact aDx (λ_=>mixed) λ_=>rest _ (k+1) c _ _ hP2 sx2
  ·exact cA (decide_eq_false (by omega)) (rest H k z _ _ hP (SameX.refl _ _))
 ·exact cA (decide_eq_false c1) (rest H k z _ _ hP (SameX.refl _ _))
def Bs (M:List (List Int)) (n:Nat):Prop:=∀i j,i<n->j<n->0<=at2 M i j/\at2 M i j<=1000000
def Sy (M:List (List Int)) (n:Nat):Prop:=∀i j,i<n->j<n->at2 M i j=at2 M j i
theorem aCR {M:List (List Int)}{n i j:Nat}{v:Int}(b:Bs M n)(s:Sy M n)(q:Quad M n)(hi:i<n)(hj:j<n)(h0:0<=v)(h1:v<=1000000):Bs (tI (tI M i j v) j i v) n/\Sy (tI (tI M i j v) j i v) n:=by
 have q1:=iJ (j:=j) (v:=v) q hi
 have e:∀a c,at2 (tI (tI M i j v) j i v) a c=if(a=j/\c=i)\/(a=i/\c=j) then v else at2 M a c:=λa c=>by
  rw[pU q1 hj hi,pU q hi hj]
  by_cases h1:a=j/\c=i
  ·rw[if_pos h1,if_pos (.inl h1)]
  ·rw[if_neg h1]
   by_cases h2:a=i/\c=j
   ·rw[if_pos h2,if_pos (.inr h2)]
   ·rw[if_neg h2,if_neg (λz=>z.elim h1 h2)]
 refine⟨λa c ha hc=>?_,λa c ha hc=>?_⟩
 ·rw[e]
  split
  ·exact⟨h0,h1⟩
  ·exact b a c ha hc
 ·rw[e,e]
  by_cases c1:(a=j/\c=i)\/(a=i/\c=j)
  ·rw[if_pos c1,if_pos (by omega)]
  ·rw[if_neg c1,if_neg (by omega)]
   exact s a c ha hc
def prN (L:List (Nat×Nat)):List (List Int):=L.map λe=>[(e.1:Int),(e.2:Int)]
theorem fW {H:Hp}{xs:List V}{L:List (Nat×Nat)}(h:Rows K H xs (prN L)){i:Nat}{x:V}(hx:xs[i]?=some x):∃e b,L[i]?=some e/\x = .ref b/\SqT K H b [aX e.1,aX e.2]:=by
 have hi:i<xs.length:=(ah.mp hx).1
 have hl:i<L.length:=by rw[h.1] at hi;unfold prN at hi;rwa[ai] at hi
 obtain⟨b,e1,e2⟩:=h.2 i [(L[i].1:Int),(L[i].2:Int)] (by unfold prN;rw[bg,ae hl];rfl)
 rw[hx] at e1
 exact⟨L[i],b,ae hl,bu e1,e2⟩
theorem bR {L:List (Nat×Nat)}:(prN L).length=L.length:=by unfold prN;rw[ai]
theorem pK {L M:List (Nat×Nat)}:prN (L++M)=prN L++prN M:=by unfold prN;rw[de]
theorem aBY {H:Hp}{xs ys:List V}{T U:List (List Int)}(h:Rows K H xs T)(g:Rows K H ys U):Rows K H (xs++ys) (T++U):=by
 refine⟨by rw[au,au,h.1,g.1],λi row e=>?_⟩
 by_cases hi:i<T.length
 ·rw[bh hi] at e
  obtain⟨b,e1,e2⟩:=h.2 i row e
  exact⟨b,by rw[bh (by rw[h.1];exact hi)];exact e1,e2⟩
 ·rw[bj (by omega)] at e
  obtain⟨b,e1,e2⟩:=g.2 _ row e
  exact⟨b,by rw[bj (by rw[h.1];omega),h.1];exact e1,e2⟩
def dC (K:aa):Sp:=λvs H Q _=>∃n:Nat,vs=[.int (n:Int)]/\n<=8/\∀F ys M H',Same H H'->H F=none->H' F=some (.lst ys)->Rows K H' ys (prN M)->(∀e∈M,e.1<e.2/\e.2<n)->(∀a b,a<b->b<n->(a,b)∈M)->M.length<=56->Q (.ref F) H'
theorem aBA:∀vs H Q E,dC K vs H Q E->iW K { nx:=λ_ H'=>Q .non H',rt:=Q } (bZ ["many","found","i"] vs) H:=by
 intro vs H Q E h
 obtain⟨n,rfl,h8,q⟩:=h
 refine⟨show 0<=b8 by decide,λF hF=>?_⟩
 have mF:=aH hF (.lst [])
 have hF1:(upd H F (.lst [])) F=some (.lst []):=aF
 generalize upd H F (.lst [])=G at *
 refine⟨_,rfl,(n:Int),rfl,by omega,by omega,?_⟩
 rw[dj]
 refine cI (lo:=0) (n:=n) (λi σ' H'=>Same H H'/\∃F x2 ys M,σ'=[some (.int (n:Int)),some (.ref F),x2]/\H F=none/\H' F=some (.lst ys)/\Rows K H' ys (prN M)/\(∀e∈M,e.1<e.2/\e.2<n)/\(∀a b,a<i->a<b->b<n->(a,b)∈M)/\M.length<=7*i) ⟨mF,F,none,[],[],rfl,hF,hF1,Rows.nil,(λ_ z=>nomatch z),(λa _ h=>absurd h (lx a)),az _⟩ (λi σ' H1 hi ⟨m1,F1,x2,ys,M,es,hF0,hF2,r2,g2,c2,z2⟩=>?_) λσ' H1 ⟨m1,F1,x2,ys,M,es,hF0,hF2,r2,g2,c2,z2⟩=>?_
 ·subst es
  rw[ql]
  refine⟨_,rfl,_,rfl,_,rfl,_,_,rfl,⟨by omega,by omega,by omega,by omega⟩,λA hA=>?_⟩
  rw[show((n:Int) - ((i:Int)+1)).toNat=n - (i+1) by omega]
  have e1:prN ((aj (n - (i+1))).map λk=>(i,i+1+k))=(aj (n - (i+1))).flatMap λk=>[[(i:Int),((i+1+k:Nat):Int)]]:=by
   unfold prN
   rw[jc]
   have:∀(L:List Nat) (f:Nat->List Int),(L.flatMap λk=>[f k])=L.map f:=λL f=>by
    induction L with
    |nil=>rfl
    |cons a L ih=>rw[mh,ih];rfl
   rw[this]
   rfl
  refine vH (K:=K) [0] (prN ((aj (n - (i+1))).map λk=>(i,i+1+k))) hA (by rw[bR,ai,cq];omega) (EmR.cast (aBQ (lo:=(i:Int)+1) (by decide) (by show 0<2;decide) λk σ2 H2 hk l2 ag2 s0 sx2=>?_) e1.symm) λσ2 H2 pre m2 hA2 r3=>?_
  ·have t1:σ2[1]?=some (some (.int (i:Int))):=(ag2 1 (by decide)).trans rfl
   have e3:(i:Int)+1+(k:Int)=((i+1+k:Nat):Int):=by omega
   rw[e3] at s0
   exact zW (by show 2<=100;decide) λR hR=>⟨_,t1,_,s0,hR⟩
  ·have hF3:=m2 _ _ hF2
   refine .inl ⟨F1,A,ys,pre,rfl,rfl,hF3,hA2,?_,λF4 hF4=>?_⟩
   ·rw[r3.1,r2.1,bR,bR,ai,cq]
    exact bq (show _<=100 by omega) (by decide)
   ·have m4:=aH hF4 (.lst (ys++pre))
    refine⟨(m1.trans m2).trans m4,F4,_,ys++pre,M++(aj (n - (i+1))).map λk=>(i,i+1+k),rfl,(m1.trans m2).free hF4,aF,?_,λe he=>?_,λx y hx hxy hy=>?_,?_⟩
    ·rw[pK]
     exact(aBY (r2.same m2) r3).same m4
    ·rcases bo.mp he with he | he
     ·exact g2 e he
     ·obtain⟨k,hk,rfl⟩:=c8.mp he
      have hk:=bb.mp hk
      exact⟨by show i<i+1+k;omega,by show i+1+k<n;omega⟩
    ·by_cases ci:x<i
     ·exact da _ (c2 x y ci hxy hy)
     ·obtain rfl:x=i:=by omega
      exact cm _ (c8.mpr ⟨y - (x+1),bb.mpr (by omega),by show(x,x+1+(y - (x+1)))=(x,y);rw[show x+1+(y - (x+1))=y by omega]⟩)
    ·rw[au,ai,cq];omega
 ·subst es
  exact⟨_,rfl,q F1 ys M H1 m1 hF0 hF2 r2 g2 (λa b h1 h2=>c2 a b (by omega) h1 h2) (by omega)⟩
def Flo (M:List (List Int)) (n k i0 j0:Nat) (M':List (List Int)):Prop:=∀a b,a<n->b<n->at2 M' a b=if a<i0\/(a=i0/\b<j0) then min (at2 M a b) (at2 M a k+at2 M k b) else at2 M a b
theorem aEl {M M':List (List Int)}{n k:Nat}(hk:k<n)(b:Bs M n)(s:Sy M n)(f:Flo M n k n 0 M'):Bs M' n/\Sy M' n:=by
 refine⟨λi j hi hj=>?_,λi j hi hj=>?_⟩
 ·rw[f i j hi hj,if_pos (.inl hi)]
  have:=b i j hi hj
  have:=b i k hi hk
  have:=b k j hk hj
  omega
 ·rw[f i j hi hj,f j i hj hi,if_pos (.inl hi),if_pos (.inl hj),s i j hi hj,s i k hi hk,s k j hk hj,Int.add_comm]
theorem zC {M M':List (List Int)}{n k i0 j0:Nat}(hk:k<n)(b:Bs M n)(f:Flo M n k i0 j0 M'){x:Nat}(hx:x<n):at2 M' x k=at2 M x k/\at2 M' k x=at2 M k x:=by
 have:=b k k hk hk
 constructor
 ·rw[f x k hx hk]
  split
  ·omega
  ·rfl
 ·rw[f k x hk hx]
  split
  ·omega
  ·rfl
def dL (K:aa):Sp:=λvs H Q _=>∃(F:Addr) (ls:List Addr) (M:List (List Int)) (n:Nat),vs=[.ref F]/\Mat H F ls M/\Quad M n/\Bs M n/\Sy M n/\1<=n/\n<=8/\∀T v H',Same H H'->Quad T n->Bs T n->Sy T n->Sh K H' (uO T) v->Q v H'
theorem aAL:∀vs H Q E,dL K vs H Q E->iG K { nx:=λ_ H'=>Q .non H',rt:=Q } (bZ ["rows","found","k","i","j","step"] vs) H:=by
 intro vs H Q E h
 obtain⟨F0,ls0,M0,n,rfl,m0,q0,b0,y0,n1,n8,q⟩:=h
 have l0:ls0.length=n:=by rw[m0.len,q0.len]
 have lenF:∀{H'},Same H H'->SqL K H' F0 (ls0.map V.ref):=λs => .of (s _ _ m0.top)
 refine⟨_,rfl,F0,rfl, .inl ⟨⟨_, .of m0.top⟩,λF hF=>?_⟩⟩
 refine iH (vars:=[0]) (K:=K) (a:=F0) (xs:=ls0.map V.ref) (λi L H'=>∃ls:List Addr,L=ls.map V.ref/\ls.length=i/\ls.Nodup/\F∉ls/\(∀(j:Nat) (x:Addr) (r:List Int),ls[j]?=some x->M0[j]?=some r->H' x=some (.lst (r.map V.int)))/\(∀x∈ls,∃r:List Int,H' x=some (.lst (r.map V.int)))/\∀x∈ls,H x=none) (by decide) (by show 0<1;decide) ⟨[],rfl,rfl,qd,by simp,(λ_ _ _ z=>by cases z),by simp,by simp⟩ hF (λi L H' sm _=>lenF sm) (λi x σ1 H2 L D hx l1 ag1 s1 sm1 ha1 ⟨ls,e1,e2,e3,e4,e5,e55,e6⟩ hD=>?_) λσ1 H2 L sm1 ha1 ⟨ls,e1,e2,e3,e4,e5,e55,e6⟩=>?_
 ·have hi:i<ls0.length:=by have:=(ah.mp hx).1;rwa[ai] at this
  obtain⟨row,g1,g2,g3⟩:=q0.get (show i<n by omega)
  obtain rfl:x = .ref ls0[i]:=by
   rw[bg,ae hi] at hx
   exact(bu hx).symm
  have hrow:=m0.row i _ row (ae hi) g1
  refine⟨_,s1, .inl ⟨ls0[i],row.map V.int,rfl, .inl (.of (sm1 _ _ hrow)),λp2 hp2=>?_⟩⟩
  have hp2F:p2≠F:=λe=>by rw[e,ha1] at hp2;cases hp2
  refine⟨L,by rw[aR (gh hp2F)];exact ha1,cp (show L.length<=9 by rw[e1,ai];omega) (by decide),?_⟩
  have keep:∀b o,b≠F->H2 b=some o->upd (upd H2 p2 (.lst (row.map V.int))) F (.lst (L++[V.ref p2])) b=some o:=λb o hb e=>by
   rw[aR hb,aR (aN e hp2)];exact e
  refine hD σ1 _ (L++[.ref p2]) l1 ag1 (λb o e=>keep b o (aN e hF) (sm1 _ _ e)) aF ⟨ls++[p2],by rw[e1,de];rfl,by rw[au,e2];rfl,?_,?_,?_,?_,?_⟩
  ·refine tK e3 λhmem=>?_
   obtain⟨r,g⟩:=e55 p2 hmem
   rw[g] at hp2;cases hp2
  ·intro hmem
   rcases bo.mp hmem with y | y
   ·exact e4 y
   ·exact hp2F (ay.mp y).symm
  ·intro j x r hj hr
   by_cases cj:j<ls.length
   ·rw[bh cj] at hj
    exact keep x _ (λe=>e4 (e ▸ a8 hj)) (e5 j x r hj hr)
   ·have ej:j=ls.length:=by
     have:=(ah.mp hj).1
     rw[au,fm] at this
     omega
    rw[ej,bj (az _),j8] at hj
    cases hj
    rw[ej,e2,g1] at hr
    cases hr
    rw[aR hp2F]
    exact aF
  ·intro x hx
   rcases bo.mp hx with y | y
   ·obtain⟨r,g⟩:=e55 x y
    exact⟨r,keep x _ (λe=>e4 (e ▸ y)) g⟩
   ·rw[ay.mp y]
    exact⟨row,by rw[aR hp2F];exact aF⟩
  ·intro x hx
   rcases bo.mp hx with y | y
   ·exact e6 x y
   ·rw[ay.mp y]
    exact sm1.free hp2
 rw[ai] at e2
 have mat0:Mat H2 F ls M0:=⟨by rw[ha1,e1],by rw[e2];exact m0.len,e5,e3,e4⟩
 refine⟨_,rfl,F0,_,rfl, .inl (lenF sm1),(n:Int),by rw[ai,l0],by omega,by omega,?_⟩
 rw[dj]
 refine cI (lo:=0) (n:=n) (λk σ' H'=>Same H H'/\∃x2 x3 x4 x5 M,σ'=[some (.ref F0),some (.ref F),x2,x3,x4,x5]/\Mat H' F ls M/\Quad M n/\Bs M n/\Sy M n) ⟨sm1,_,_,_,_,M0,rfl,mat0,q0,b0,y0⟩ (λk σ2 H3 hk ⟨s3,x2,x3,x4,x5,M,es,mM,qM,bM,yM⟩=>?_) λσ2 H3 ⟨s3,x2,x3,x4,x5,M,es,mM,qM,bM,yM⟩=>?_
 ·subst es
  rw[ql]
  refine⟨_,rfl,F0,_,rfl, .inl (lenF s3),(n:Int),by rw[ai,l0],by omega,by omega,?_⟩
  rw[dj]
  refine cI (lo:=0) (n:=n) (λi σ' H'=>Same H H'/\∃x3 x4 x5 M',σ'=[some (.ref F0),some (.ref F),some (.int (k:Int)),x3,x4,x5]/\Mat H' F ls M'/\Quad M' n/\Flo M n k i 0 M') ⟨s3,_,_,_,M,rfl,mM,qM,λa b _ _=>by rw[if_neg (by omega)]⟩ (λi σ3 H4 hi ⟨s4,x3,x4,x5,M4,es,m4,q4,f4⟩=>?_) λσ3 H4 ⟨s4,x3,x4,x5,M4,es,m4,q4,f4⟩=>?_
  ·subst es
   rw[ql]
   refine⟨_,rfl,F0,_,rfl, .inl (lenF s4),(n:Int),by rw[ai,l0],by omega,by omega,?_⟩
   rw[dj]
   refine cI (lo:=0) (n:=n) (λj σ' H'=>Same H H'/\∃x4 x5 M',σ'=[some (.ref F0),some (.ref F),some (.int (k:Int)),some (.int (i:Int)),x4,x5]/\Mat H' F ls M'/\Quad M' n/\Flo M n k i j M') ⟨s4,_,_,M4,rfl,m4,q4,f4⟩ (λj σ4 H5 hj ⟨s5,x4,x5,M5,es,m5,q5,f5⟩=>?_) λσ4 H5 ⟨s5,x4,x5,M5,es,m5,q5,f5⟩=>?_
   ·subst es
    rw[ql]
    refine vL (t:=1) (si:=3) (sj:=2) m5 q5 rfl rfl rfl hi hk (vL (t:=1) (si:=2) (sj:=4) m5 q5 rfl rfl rfl hk hj ?_)
    dsimp only[bN]
    refine vL (t:=1) (si:=3) (sj:=4) m5 q5 rfl rfl rfl hi hj ⟨_,rfl,_,_,rfl,?_⟩
    have ik:=(zC hk bM f5 hi).1
    have kj:=(zC hk bM f5 hj).2
    refine tP (t:=1) (si:=3) (sj:=4) m5 q5 rfl rfl rfl hi hj λl' H6 hl' e6' m6=>⟨?_,_,_,_,rfl,m6,iJ q5 hi,λa b ha hb=>?_⟩
    ·intro c o e
     rw[e6',aR (aN e (e6 l' hl'))]
     exact s5 _ _ e
    ·rw[pU q5 hi hj]
     have hij:at2 M5 i j=at2 M i j:=by rw[f5 i j hi hj,if_neg (by omega)]
     by_cases ce:a=i/\b=j
     ·rw[if_pos ce,hij,ik,kj]
      obtain⟨rfl,rfl⟩:=ce
      rw[if_pos (show a<a\/(a=a/\b<b+1) by omega)]
      split <;> omega
     ·rw[if_neg ce,f5 a b ha hb]
      by_cases cl:a<i\/(a=i/\b<j)
      ·rw[if_pos cl,if_pos (by omega)]
      ·rw[if_neg cl,if_neg (by omega)]
   ·subst es
    refine⟨s5,_,_,_,M5,rfl,m5,q5,λa b ha hb=>?_⟩
    rw[f5 a b ha hb]
    by_cases cl:a<i+1
    ·rw[if_pos (by omega),if_pos (.inl cl)]
    ·rw[if_neg (by omega),if_neg (by omega)]
  ·subst es
   obtain⟨b5,y5⟩:=aEl hk bM yM f4
   exact⟨s4,_,_,_,_,M4,rfl,m4,q4,b5,y5⟩
 ·subst es
  exact rK (t:=1) rfl mM qM (by omega) λp9 H' sm hS=>q M _ H' (s3.trans sm) qM bM yM hS
end
def e1 (K:aa) (cK:Sp) (cQ:Sp) (cR:Sp):TS:=(aQ (bO (bD cK [] E0 (aB (aD 0) (aB (aD 5) aO))) (aJ 10)) (aQ (fA (bU (tOp (fZ K) (aD 4) (tC (.int 1)))) (aQ (bO (tOp iX (tOp xS (aD 10) (tC (.int 2))) (tOp mW (aD 5) (tC (.int 1)))) (aJ 10)) aL) aL) (aQ (fA (tOr (bU (tOp (fZ K) (aD 4) (tC (.int 2)))) (bU (tOp (fZ K) (aD 4) (tC (.int 3))))) (aQ (bO (tCB yN (aB (tOp mW (tOp (bC K) (tOp (bC K) (aD 7) (aD 8)) (tC (.int 0))) (tOp (bC K) (tOp (bC K) (aD 7) (aD 9)) (tC (.int 0)))) aO)) (aJ 10)) aL) aL) (aQ (fA (bU (tOp (fZ K) (aD 4) (tC (.int 3)))) (aQ (bO (tOp (bN K) (aD 10) (tCB yN (aB (tOp mW (tOp (bC K) (tOp (bC K) (aD 7) (aD 8)) (tC (.int 1))) (tOp (bC K) (tOp (bC K) (aD 7) (aD 9)) (tC (.int 1)))) aO))) (aJ 10)) aL) aL) (aQ (fA (bU (tOp (fZ K) (aD 4) (tC (.int 4)))) (aQ (bO (tOp mW (aD 5) (tC (.int 1))) (aJ 10)) aL) aL) (aQ (bO (tCB nL (aB (aD 10) (aB (tOp aCY (tC (.int 10)) (tC (.int 6))) aO))) (lC (tOp (bC K) (aD 6) (aD 8)) (aD 9) dM)) (aQ (bO (tOp (bC K) (tOp (bC K) (aD 6) (aD 8)) (aD 9)) (lC (tOp (bC K) (aD 6) (aD 9)) (aD 8) dM)) aL)))))))
def e2 (K:aa) (cK:Sp) (cQ:Sp) (cR:Sp):TS:=(aQ (fA (bU (tOp (fZ K) (aD 4) (tC (.int 1)))) (aQ (bO (tOp iX (tOp xS (aD 10) (tC (.int 2))) (tOp mW (aD 5) (tC (.int 1)))) (aJ 10)) aL) aL) (aQ (fA (tOr (bU (tOp (fZ K) (aD 4) (tC (.int 2)))) (bU (tOp (fZ K) (aD 4) (tC (.int 3))))) (aQ (bO (tCB yN (aB (tOp mW (tOp (bC K) (tOp (bC K) (aD 7) (aD 8)) (tC (.int 0))) (tOp (bC K) (tOp (bC K) (aD 7) (aD 9)) (tC (.int 0)))) aO)) (aJ 10)) aL) aL) (aQ (fA (bU (tOp (fZ K) (aD 4) (tC (.int 3)))) (aQ (bO (tOp (bN K) (aD 10) (tCB yN (aB (tOp mW (tOp (bC K) (tOp (bC K) (aD 7) (aD 8)) (tC (.int 1))) (tOp (bC K) (tOp (bC K) (aD 7) (aD 9)) (tC (.int 1)))) aO))) (aJ 10)) aL) aL) (aQ (fA (bU (tOp (fZ K) (aD 4) (tC (.int 4)))) (aQ (bO (tOp mW (aD 5) (tC (.int 1))) (aJ 10)) aL) aL) (aQ (bO (tCB nL (aB (aD 10) (aB (tOp aCY (tC (.int 10)) (tC (.int 6))) aO))) (lC (tOp (bC K) (aD 6) (aD 8)) (aD 9) dM)) (aQ (bO (tOp (bC K) (tOp (bC K) (aD 6) (aD 8)) (aD 9)) (lC (tOp (bC K) (aD 6) (aD 9)) (aD 8) dM)) aL))))))
def e3 (K:aa) (cK:Sp) (cQ:Sp) (cR:Sp):TS:=(aQ (fA (tOr (bU (tOp (fZ K) (aD 4) (tC (.int 2)))) (bU (tOp (fZ K) (aD 4) (tC (.int 3))))) (aQ (bO (tCB yN (aB (tOp mW (tOp (bC K) (tOp (bC K) (aD 7) (aD 8)) (tC (.int 0))) (tOp (bC K) (tOp (bC K) (aD 7) (aD 9)) (tC (.int 0)))) aO)) (aJ 10)) aL) aL) (aQ (fA (bU (tOp (fZ K) (aD 4) (tC (.int 3)))) (aQ (bO (tOp (bN K) (aD 10) (tCB yN (aB (tOp mW (tOp (bC K) (tOp (bC K) (aD 7) (aD 8)) (tC (.int 1))) (tOp (bC K) (tOp (bC K) (aD 7) (aD 9)) (tC (.int 1)))) aO))) (aJ 10)) aL) aL) (aQ (fA (bU (tOp (fZ K) (aD 4) (tC (.int 4)))) (aQ (bO (tOp mW (aD 5) (tC (.int 1))) (aJ 10)) aL) aL) (aQ (bO (tCB nL (aB (aD 10) (aB (tOp aCY (tC (.int 10)) (tC (.int 6))) aO))) (lC (tOp (bC K) (aD 6) (aD 8)) (aD 9) dM)) (aQ (bO (tOp (bC K) (tOp (bC K) (aD 6) (aD 8)) (aD 9)) (lC (tOp (bC K) (aD 6) (aD 9)) (aD 8) dM)) aL)))))
def e4 (K:aa) (cK:Sp) (cQ:Sp) (cR:Sp):TS:=(aQ (fA (bU (tOp (fZ K) (aD 4) (tC (.int 3)))) (aQ (bO (tOp (bN K) (aD 10) (tCB yN (aB (tOp mW (tOp (bC K) (tOp (bC K) (aD 7) (aD 8)) (tC (.int 1))) (tOp (bC K) (tOp (bC K) (aD 7) (aD 9)) (tC (.int 1)))) aO))) (aJ 10)) aL) aL) (aQ (fA (bU (tOp (fZ K) (aD 4) (tC (.int 4)))) (aQ (bO (tOp mW (aD 5) (tC (.int 1))) (aJ 10)) aL) aL) (aQ (bO (tCB nL (aB (aD 10) (aB (tOp aCY (tC (.int 10)) (tC (.int 6))) aO))) (lC (tOp (bC K) (aD 6) (aD 8)) (aD 9) dM)) (aQ (bO (tOp (bC K) (tOp (bC K) (aD 6) (aD 8)) (aD 9)) (lC (tOp (bC K) (aD 6) (aD 9)) (aD 8) dM)) aL))))
def e5 (K:aa) (cK:Sp) (cQ:Sp) (cR:Sp):TS:=(aQ (fA (bU (tOp (fZ K) (aD 4) (tC (.int 4)))) (aQ (bO (tOp mW (aD 5) (tC (.int 1))) (aJ 10)) aL) aL) (aQ (bO (tCB nL (aB (aD 10) (aB (tOp aCY (tC (.int 10)) (tC (.int 6))) aO))) (lC (tOp (bC K) (aD 6) (aD 8)) (aD 9) dM)) (aQ (bO (tOp (bC K) (tOp (bC K) (aD 6) (aD 8)) (aD 9)) (lC (tOp (bC K) (aD 6) (aD 9)) (aD 8) dM)) aL)))
def e6 (K:aa) (cK:Sp) (cQ:Sp) (cR:Sp):TS:=(aQ (bO (tCB nL (aB (aD 10) (aB (tOp aCY (tC (.int 10)) (tC (.int 6))) aO))) (lC (tOp (bC K) (aD 6) (aD 8)) (aD 9) dM)) (aQ (bO (tOp (bC K) (tOp (bC K) (aD 6) (aD 8)) (aD 9)) (lC (tOp (bC K) (aD 6) (aD 9)) (aD 8) dM)) aL))
def aDH (p:Addr) (ls:List Addr) (H H':Hp):Prop:=∀b o,b≠p->b∉ls->H b=some o->H' b=some o
theorem aGz {a b:Nat}:eqD (.int (a:Int)) (.int (b:Int))=decide (a=b):=by
 rw[eqD]
 by_cases c:a=b
 ·rw[decide_eq_true c,c];simp
 ·rw[decide_eq_false c];simp;omega
section
variable {K:aa}{p l F:Addr}{ls:List Addr}{ns:List Int}{n:Nat}
structure Ro (K:aa)(G:Hp)(p l F:Addr)(ls:List Addr)(ns:List Int)(n:Nat)(H':Hp):Prop where
 ex:∃M,Quad M n/\Bs M n/\Sy M n/\Mat H' F ls M
 pen:Pen H' p l ns
 sl:aDH p ls G H'
theorem Ro.draw {G H' H2:Hp}(h:Ro K G p l F ls ns n H')(hF:F≠p)(hl:∀x∈ls,x≠p)(hP:Pen H2 p l ns)(sx:SameX p H' H2):Ro K G p l F ls ns n H2:=by
 obtain⟨M,q,b,s,m⟩:=h.ex
 exact⟨⟨M,q,b,s,m.keep λc o hc e=>sx c o (by rcases hc with rfl | hc;exact hF;exact hl c hc) e⟩,hP,λc o hc hn e=>sx c o hc (h.sl c o hc hn e)⟩
variable {G:Hp}{x0 x1 x2:Option V}{way top i j A:Nat}{D:jG}{zs:List V}{R:List (List Int)}
structure Fx (K:aa)(G:Hp)(p l F:Addr)(ls:List Addr)(n A:Nat)(zs:List V)(R:List (List Int)):Prop where
 F:F≠p
 l:∀x∈ls,x≠p/\x≠l
 Ap:A≠p
 Al:A∉ls
 hA:G A=some (.lst zs)
 rows:Rows K G zs R
 two:R.length=n/\∀r∈R,∃a b,r=[a,b]
 pen:∃o,G p=some (.lst o)
 lst:∀x∈ls,∃o,G x=some (.lst o)
theorem aDL {H':Hp}{b:Addr}{xs:List V}(fx:Fx K G p l F ls n A zs R)(sl:aDH p ls G H')(h:SqT K G b xs):SqT K H' b xs:=by
 obtain⟨o,ho⟩:=fx.pen
 have np:∀u,G b=some u->(∀ys,u ≠ .lst ys)->b≠p/\b∉ls:=λu e hu=>⟨λz=>by rw[z,ho] at e;exact hu _ (bu e).symm,λz=>by
  obtain⟨o',ho'⟩:=fx.lst b z
  rw[ho'] at e
  exact hu _ (bu e).symm⟩
 rcases h with(h | ⟨ob,h⟩) | h
 ·have:=np _ h (λys e=>by cases e)
  exact .inl (.inl (sl _ _ this.1 this.2 h))
 ·have:=np _ h (λys e=>by cases e)
  exact .inl (.inr ⟨ob,sl _ _ this.1 this.2 h⟩)
 ·exact .inr h
theorem oX {H':Hp}{σ:St}{Q:VK}{t s k:Nat}{c:Nat}(hk:k<2)(fx:Fx K G p l F ls n A zs R)(sl:aDH p ls G H')(ht:σ[t]?=some (some (.ref A)))(hs:σ[s]?=some (some (.int (c:Int))))(hc:c<n)(q:∀v:Int,Q (.int v) H'):tOp (bC K) (tOp (bC K) (aD t) (aD s)) (tC (.int (k:Int))) σ H' Q:=by
 have hcR:c<R.length:=by rw[fx.two.1];exact hc
 obtain⟨a,b,e⟩:=fx.two.2 _ (dg hcR)
 obtain⟨d,e1,e2⟩:=fx.rows.2 c R[c] (ae hcR)
 have hA':=sl _ _ fx.Ap fx.Al fx.hA
 rw[e] at e2
 refine⟨_,ht,_,hs,ixL (j:=c) (.of hA') e1 ?_⟩
 match k,hk with
 |0,_=>exact ixT (j:=0) (aDL fx sl e2) rfl (q a)
 |1,_=>exact ixT (j:=1) (aDL fx sl e2) rfl (q b)
def StE (p:Addr) (x1 x2:Option V) (n way top:Nat) (F A:Addr) (i j:Nat) (x:Option V):St:=[some (.ref p),x1,x2,some (.int (n:Int)),some (.int (way:Int)),some (.int (top:Int)),some (.ref F),some (.ref A),some (.int (i:Int)),some (.int (j:Int)),x]
theorem aEU {H':Hp}{v:Int}(fx:Fx K G p l F ls n A zs R)(ro:Ro K G p l F ls ns n H')(hi:i<n)(hj:j<n)(hij:i<j)(h0:0<=v)(q:∀x H2,Ro K G p l F ls ns n H2->D.nx (StE p x1 x2 n way top F A i j x) H2):e6 K fQ (dC K) (dL K) D (StE p x1 x2 n way top F A i j (some (.int v))) H':=by
 obtain⟨M,qM,bM,sM,mM⟩:=ro.ex
 refine⟨_,rfl,10,6,rfl,rfl,⟨by decide,by decide,by decide⟩,_,_,rfl,?_⟩
 have hw:∃w:Int,(if((10:Int) ^ (6:Int).toNat)<v then((10:Int) ^ (6:Int).toNat) else v)=w/\0<=w/\w<=1000000:=by
  refine⟨_,rfl,?_⟩
  have:((10:Int) ^ (6:Int).toNat)=1000000:=by decide
  rw[this]
  split <;> omega
 obtain⟨w,ew,w0,w1⟩:=hw
 rw[ew]
 refine tP (t:=6) (si:=8) (sj:=9) mM qM rfl rfl rfl hi hj λl1 H1 hl1 e1 m1=>?_
 have q1:=iJ (j:=j) (v:=w) qM hi
 refine vL (t:=6) (si:=8) (sj:=9) m1 q1 rfl rfl rfl hi hj ?_
 rw[pU qM hi hj,if_pos ⟨rfl,rfl⟩]
 refine tP (t:=6) (si:=9) (sj:=8) m1 q1 rfl rfl rfl hj hi λl2 H2 hl2 e2 m2=>q _ H2 ⟨⟨_,iJ q1 hj,(aCR bM sM qM hi hj w0 w1).1,(aCR bM sM qM hi hj w0 w1).2,m2⟩,?_,λc o hc hn e=>?_⟩
 ·rw[e2,e1]
  exact(ro.pen.upd (fx.l l1 hl1).1 (fx.l l1 hl1).2).upd (fx.l l2 hl2).1 (fx.l l2 hl2).2
 ·rw[e2,aR (λz=>hn (by rw[z];exact hl2)),e1,aR (λz=>hn (by rw[z];exact hl1))]
  exact ro.sl c o hc hn e
theorem aGf {H':Hp}{v:Int}(fx:Fx K G p l F ls n A zs R)(ro:Ro K G p l F ls ns n H')(hi:i<n)(hj:j<n)(hij:i<j)(ht:2<=top)(h0:0<=v)(q:∀x H2,Ro K G p l F ls ns n H2->D.nx (StE p x1 x2 n way top F A i j x) H2):e5 K fQ (dC K) (dL K) D (StE p x1 x2 n way top F A i j (some (.int v))) H':=by
 refine⟨_,rfl, .int (way:Int), .int 4,bc _,rfl,rfl,_,rfl,aDx (λ_=>?_) λ_=>?_⟩
 ·exact⟨_,rfl,_,_,rfl,rfl,aEU fx ro hi hj hij (by omega) q⟩
 ·exact aEU fx ro hi hj hij h0 q
theorem aFI {H':Hp}{v:Int}(fx:Fx K G p l F ls n A zs R)(ro:Ro K G p l F ls ns n H')(hi:i<n)(hj:j<n)(hij:i<j)(ht:2<=top)(h0:0<=v)(q:∀x H2,Ro K G p l F ls ns n H2->D.nx (StE p x1 x2 n way top F A i j x) H2):e4 K fQ (dC K) (dL K) D (StE p x1 x2 n way top F A i j (some (.int v))) H':=by
 refine⟨_,rfl, .int (way:Int), .int 3,bc _,rfl,rfl,_,rfl,aDx (λ_=>?_) λ_=>?_⟩
 ·refine⟨_,rfl,oX (t:=7) (s:=8) (k:=1) (by decide) fx ro.sl rfl rfl hi λa=>oX (t:=7) (s:=9) (k:=1) (by decide) fx ro.sl rfl rfl hj λb=>⟨_,_,rfl,rfl,_,rfl,?_⟩⟩
  exact aGf fx ro hi hj hij ht (by split <;> omega) q
 ·exact aGf fx ro hi hj hij ht h0 q
theorem aET {H':Hp}{v:Int}(fx:Fx K G p l F ls n A zs R)(ro:Ro K G p l F ls ns n H')(hi:i<n)(hj:j<n)(hij:i<j)(ht:2<=top)(h0:0<=v)(q:∀x H2,Ro K G p l F ls ns n H2->D.nx (StE p x1 x2 n way top F A i j x) H2):e3 K fQ (dC K) (dL K) D (StE p x1 x2 n way top F A i j (some (.int v))) H':=by
 have go:(aQ (bO (tCB yN (aB (tOp mW (tOp (bC K) (tOp (bC K) (aD 7) (aD 8)) (tC (.int 0))) (tOp (bC K) (tOp (bC K) (aD 7) (aD 9)) (tC (.int 0)))) aO)) (aJ 10)) aL) { D with nx:=e4 K fQ (dC K) (dL K) D } (StE p x1 x2 n way top F A i j (some (.int v))) H':=by
  refine oX (t:=7) (s:=8) (k:=0) (by decide) fx ro.sl rfl rfl hi λa=>oX (t:=7) (s:=9) (k:=0) (by decide) fx ro.sl rfl rfl hj λb=>⟨_,_,rfl,rfl,_,rfl,?_⟩
  exact aFI fx ro hi hj hij ht (by split <;> omega) q
 refine⟨_,rfl, .int (way:Int), .int 2,bc _,rfl,rfl,_,rfl,aDx (λ_=>cF rfl go) λ_=>⟨_,rfl, .int (way:Int), .int 3,bc _,rfl,rfl,_,rfl,aDx (λ_=>go) λ_=>aFI fx ro hi hj hij ht h0 q⟩⟩
theorem aGU {H':Hp}{v:Int}(fx:Fx K G p l F ls n A zs R)(ro:Ro K G p l F ls ns n H')(hi:i<n)(hj:j<n)(hij:i<j)(ht:2<=top)(ht2:top<=1000001)(h0:0<=v)(q:∀x H2,Ro K G p l F ls ns n H2->D.nx (StE p x1 x2 n way top F A i j x) H2):e2 K fQ (dC K) (dL K) D (StE p x1 x2 n way top F A i j (some (.int v))) H':=by
 refine⟨_,rfl, .int (way:Int), .int 1,bc _,rfl,rfl,_,rfl,aDx (λ_=>?_) λ_=>?_⟩
 ·refine⟨_,rfl,_,_,rfl,rfl,by show(0:Int)<2;decide,_,rfl,_,_,rfl,rfl, .inl (.inr ⟨by omega,by omega⟩),?_⟩
  exact aET fx ro hi hj hij ht (Int.mul_nonneg (rm _ (by decide)) (by omega)) q
 ·exact aET fx ro hi hj hij ht h0 q
theorem aGD {H':Hp}{x:Option V}(fx:Fx K G p l F ls n A zs R)(ro:Ro K G p l F ls ns n H')(hi:i<n)(hj:j<n)(hij:i<j)(ht:2<=top)(ht2:top<=1000001)(q:∀x H2,Ro K G p l F ls ns n H2->D.nx (StE p x1 x2 n way top F A i j x) H2):e1 K fQ (dC K) (dL K) D (StE p x1 x2 n way top F A i j x) H':=by
 refine⟨_,rfl,_,rfl,p,l,ns,top,rfl,ro.pen,by omega,cp ht2 (by decide),λr H2 hr hP sx=>?_⟩
 exact aGU fx (ro.draw fx.F (λx hx=>(fx.l x hx).1) hP sx) hi hj hij ht ht2 (by omega) q
def aDe (K:aa):Sp:=λvs H Q _=>∃(p l:Addr) (ns:List Int) (lo d:Nat),vs=[.ref p, .int (lo:Int), .int ((lo+d:Nat):Int)]/\1<=lo/\lo+d<=8/\Pen H p l ns/\∀T n v H',lo<=n->n<=lo+d->Quad T n->Bs T n->Sy T n->Sh K H' (uO T) v->Pen H' p l ns->SameX p H H'->Q v H'
theorem aCp:∀vs H Q E,aDe K vs H Q E->kA K fQ (dC K) (dL K) { nx:=λ_ H'=>Q .non H',rt:=Q } (bZ ["feed","least","most","many","way","top","rows","spots","i","j","found"] vs) H:=by
 intro vs H Q E h
 obtain⟨p,l,ns,lo,d,rfl,lo1,lo8,hP0,q⟩:=h
 refine⟨_,rfl,_,rfl,_,rfl,_,rfl,_,_,rfl,rfl,p,l,ns,d+1,by show[V.ref p, .int (((lo+d:Nat):Int) - (lo:Int)+1)]=[V.ref p, .int ((d+1:Nat):Int)];rw[show((lo+d:Nat):Int) - (lo:Int)+1=((d+1:Nat):Int) by omega],hP0,by omega,cp (show d+1<=9 by omega) (by decide),λr0 H0 hr0 hP1 sx0=>?_⟩
 dsimp only[bN]
 obtain⟨n,en⟩:∃n:Nat,n=lo+r0:=⟨_,rfl⟩
 rw[show(lo:Int)+(r0:Int)=(n:Int) by omega]
 refine⟨_,rfl,p,l,ns,8,rfl,hP1,by decide,by decide,λway H1 hway hP2 sx1=>?_⟩
 refine⟨show 4<=b8 by decide,λt0 ht0=>⟨_,rfl,p,l,ns,4,rfl,hP2.x (aH ht0 _),by decide,by decide,λr2 H2 hr2 hP3 sx2=>?_⟩⟩
 have et0:H2 t0=some (.lst [.int 2, .int 5, .int 30, .int 1000001]):=sx2 _ _ (hP2.ne ht0).1 aF
 have sx02:SameX p H H2:=((sx0.trans sx1).trans (aH ht0 _).x).trans sx2
 have ctop:∃top:Nat,[V.int 2, .int 5, .int 30, .int 1000001][r2]?=some (.int (top:Int))/\2<=top/\top<=1000001:=by
  match r2,hr2 with
  |0,_=>exact⟨2,rfl,by decide,by decide⟩
  |1,_=>exact⟨5,rfl,by decide,by decide⟩
  |2,_=>exact⟨30,rfl,by decide,by decide⟩
  |3,_=>exact⟨1000001,rfl,by decide,by decide⟩
 obtain⟨top,etop,top2,topb⟩:=ctop
 refine ixL (j:=r2) (.of et0) etop ?_
 refine⟨_,rfl,(n:Int),rfl,by omega,by omega,λF hF=>?_⟩
 rw[dj]
 refine yP (vars:=[0]) (λi L H'=>∃ls:List Addr,L=ls.map V.ref/\ls.length=i/\ls.Nodup/\F∉ls/\(∀l∈ls,H' l=some (.lst (c7 n (.int 0))))/\∀l∈ls,H2 l=none) (by decide) (by show 0<2;decide) ⟨[],rfl,rfl,qd,by simp,by simp,by simp⟩ hF (λi σ1 H3 L D hi l1 ag1 s1 sm1 ha1 ⟨ls,e1,e2,e3,e4,e5,e6⟩ hD=>?_) λσ1 H3 L sm1 ha1 ⟨ls,e1,e2,e3,e4,e5,e6⟩=>?_
 ·have m1:σ1[1]?=some (some (.int (n:Int))):=(ag1 1 (by decide)).trans rfl
  refine⟨by show 1<=b8;decide,λp' hp=>⟨_,m1,p',(n:Int),_,rfl,rfl,aF,by omega,by omega,?_,λp2 hp2=>?_⟩⟩
  ·rw[dj]
   exact bq (show 1*n<=9 by omega) (by decide)
  have hpF:p'≠F:=λe=>by rw[e,ha1] at hp;cases hp
  have hF2:upd H3 p' (.lst [V.int 0]) F=some (.lst L):=by rw[aR (gh hpF)];exact ha1
  have hp2F:p2≠F:=λe=>by rw[e,hF2] at hp2;cases hp2
  rw[dj,List.flatten_replicate_singleton]
  refine⟨L,by rw[aR (gh hp2F)];exact hF2,cp (show L.length<=9 by rw[e1,ai];omega) (by decide),?_⟩
  have keep:∀b o,b≠F->H3 b=some o->upd (upd (upd H3 p' (.lst [V.int 0])) p2 (.lst (c7 n (V.int 0)))) F (.lst (L++[V.ref p2])) b=some o:=λb o hb e=>by
   have e':upd H3 p' (.lst [V.int 0]) b=some o:=by rw[aR (aN e hp)];exact e
   rw[aR hb,aR (aN e' hp2)];exact e'
  refine hD σ1 _ (L++[.ref p2]) l1 ag1 (λb o e=>keep b o (aN e hF) (sm1 _ _ e)) aF ⟨ls++[p2],by rw[e1,de];rfl,by rw[au,e2];rfl,?_,?_,?_,?_⟩
  ·refine tK e3 λhmem=>?_
   have g:=e5 p2 hmem
   have g':upd H3 p' (.lst [V.int 0]) p2=some (.lst (c7 n (.int 0))):=by rw[aR (aN g hp)];exact g
   rw[g'] at hp2;cases hp2
  ·intro hmem
   rcases bo.mp hmem with y | y
   ·exact e4 y
   ·exact hp2F (ay.mp y).symm
  ·intro x hx
   rcases bo.mp hx with y | y
   ·exact keep x _ (λe=>e4 (e ▸ y)) (e5 x y)
   ·rw[ay.mp y,aR hp2F]
    exact aF
  ·intro x hx
   rcases bo.mp hx with y | y
   ·exact e6 x y
   ·rw[ay.mp y]
    exact(sm1.trans (aH hp _)).free hp2
 have mat0:Mat H3 F ls (c7 n (c7 n 0)):=by
  refine⟨by rw[ha1,e1],by rw[e2,k9],λi x r a b=>?_,e3,e4⟩
  have:=e5 x (a8 a)
  rw[j9] at b
  split at b
  ·cases b
   rw[this,List.map_replicate]
  ·cases b
 have quad0:Quad (c7 n (c7 n (0:Int))) n:=⟨k9,λr hr=>by rw[List.eq_of_mem_replicate hr,k9]⟩
 have hP4:=hP3.x sm1
 have nFp:=(hP3.ne hF).1
 have nls:∀x∈ls,x≠p/\x≠l:=λx hx=>hP3.ne (e6 x hx)
 refine⟨_,rfl,(n:Int),rfl,by omega,by omega,λA hA=>?_⟩
 rw[dj]
 have nA:=hP4.ne hA
 have nAls:A∉ls:=λh=>by have:=e5 A h;rw[this] at hA;cases hA
 refine cI (lo:=0) (n:=n) (λi σ' H'=>(∃y0,σ'=[y0,some (.ref p),some (.int (top:Int))])/\Pen H' p l ns/\SameX p H3 H'/\∃L R,H' A=some (.lst L)/\Rows K H' L R/\R.length=i/\∀r∈R,∃a b,r=[a,b]) ⟨⟨_,rfl⟩,hP4.x (aH hA _),(aH hA _).x,[],[],aF,Rows.nil,rfl,(λ_ z=>nomatch z)⟩ (λi σ2 H5 hi ⟨⟨y0,es⟩,hP5,sx5,L5,R5,hA5,r5,z5,t5⟩=>?_) λσ2 H5 ⟨⟨y0,es⟩,hP5,sx5,L5,R5,hA5,r5,z5,t5⟩=>?_
 ·subst es
  refine⟨_,rfl,_,rfl,p,l,ns,top,rfl,hP5,by omega,cp topb (by decide),λra H6 _ hP6 sx6=>?_⟩
  refine⟨_,rfl,_,rfl,p,l,ns,top,rfl,hP6,by omega,cp topb (by decide),λrb H7 _ hP7 sx7=>⟨show 2<=b8 by decide,λu hu=>?_⟩⟩
  have mu:=aH hu (.tup [V.int (ra:Int), .int (rb:Int)])
  have sx67:=sx6.trans sx7
  obtain⟨k5,z5',hp5⟩:=hP5
  have hA7:=mu _ _ (sx67 _ _ nA.1 hA5)
  have r7:Rows K (upd H7 u (.tup [V.int (ra:Int), .int (rb:Int)])) L5 R5:=(r5.map λb rr hb=>wU hb hp5.1 sx67).same mu
  refine⟨L5,hA7,cp (show L5.length<=9 by rw[r5.1];omega) (by decide),⟨_,rfl⟩,(hP7.x mu).upd nA.1 nA.2,?_,_,R5++[[(ra:Int),(rb:Int)]],aF,?_,by rw[au,z5];rfl,λr hr=>?_⟩
  ·intro c o hc e
   rw[aR (aN e hA)]
   exact mu _ _ (sx67 _ _ hc (sx5 _ _ hc e))
  ·exact Rows.put (Rows.snoc r7 (.of aF)) hA7
  ·rcases bo.mp hr with hr | hr
   ·exact t5 r hr
   ·rw[ay.mp hr];exact⟨_,_,rfl⟩
 subst es
 have mat5:Mat H5 F ls (c7 n (c7 n 0)):=mat0.keep λc o hc e=>sx5 c o (by rcases hc with rfl | hc;exact nFp;exact(nls c hc).1) e
 refine⟨_,rfl,n,rfl,by omega,λFp ys M H6 m6 hFp0 hFp rp gM _ zM=>?_⟩
 refine⟨Fp,rfl, .inl ⟨⟨_, .of hFp⟩,?_⟩⟩
 obtain⟨k6,z6,hp6⟩:=hP5.x m6
 have fx:Fx K H6 p l F ls n A L5 R5:=⟨nFp,nls,nA.1,nAls,m6 _ _ hA5,r5.same m6,⟨z5,t5⟩,⟨_,hp6.1⟩,λx hx=>⟨_,m6 _ _ (sx5 _ _ (nls x hx).1 (e5 x hx))⟩⟩
 have nFpp:Fp≠p:=(hP5.ne hFp0).1
 have nFpl:Fp∉ls:=λh=>by
  have:=sx5 _ _ (nls Fp h).1 (e5 Fp h)
  rw[hFp0] at this
  cases this
 have ro0:Ro K H6 p l F ls ns n H6:=⟨⟨_,quad0,λi j _ _=>by rw[aAy];omega,λi j _ _=>by rw[aAy,aAy],mat5.same m6⟩,⟨k6,z6,hp6⟩,λc o _ _ e=>e⟩
 refine bW (K:=K) (a:=Fp) (xs:=ys) (λk σ' H'=>Ro K H6 p l F ls ns n H'/\∃x8 x9 x10,σ'=[some (.ref p),some (.int (lo:Int)),some (.int ((lo+d:Nat):Int)),some (.int (n:Int)),some (.int (way:Int)),some (.int (top:Int)),some (.ref F),some (.ref A),x8,x9,x10]) ⟨ro0,_,_,_,rfl⟩ (λk σ' H' _ ⟨ro,_⟩ => .of (ro.sl _ _ nFpp nFpl hFp)) (λk x σ' H' hx ⟨ro,x8,x9,x10,es⟩=>?_) λσ' H' ⟨ro,x8,x9,x10,es⟩=>?_
 ·subst es
  obtain⟨e,b,he,rfl,hb⟩:=fW rp hx
  obtain⟨g1,g2⟩:=gM e (a8 he)
  refine⟨b,_,rfl,aDL fx ro.sl hb,rfl,aX e.1,[aX e.2],rfl,aX e.2,[],rfl,rfl,?_⟩
  exact aGD (way:=way) (x:=x10) fx ro (by omega) g2 g1 top2 topb λx H7 ro7=>⟨ro7,_,_,_,rfl⟩
 ·subst es
  obtain⟨M',qM,bM,sM,mM⟩:=ro.ex
  have sxE:SameX p H H':=λc o hc e=>by
   have c3:H3 c=some o:=sm1 _ _ (sx02 _ _ hc e)
   have hn:c∉ls:=λh=>by
    have h2:=e6 c h
    rw[sx02 _ _ hc e] at h2
    cases h2
   exact ro.sl c o hc hn (m6 _ _ (sx5 _ _ hc c3))
  refine⟨_,rfl,_,_,rfl,rfl,_,rfl,aDx (λ_=>?_) λ_=>?_⟩
  ·exact⟨_,rfl,F,ls,M',n,rfl,mM,qM,bM,sM,by omega,by omega,λT v H8 s8 qT bT sT hT=>q T n v H8 (by omega) (by omega) qT bT sT hT (ro.pen.x s8) (sxE.trans s8.x)⟩
  ·exact rK (t:=6) rfl mM qM (by omega) λp9 H8 s8 hT=>q M' n _ H8 (by omega) (by omega) qM bM sM hT (ro.pen.x s8) (sxE.trans s8.x)
end
def Ev (T:List (List Int)) (n:Nat):Prop:=∀i j,i<n->j<n->at2 T i j=at2 T j i
def lO (T:List (List Int)) (n:Nat):List Bool:=(aj n).flatMap λi=>(aj i).flatMap λj=>[at2 T i j == at2 T j i]
section
variable {K:aa}
def aEW (K:aa) (f:List (List Int)->Nat->Bool):Sp:=λvs H Q _=>∃(v:V) (T:List (List Int)) (n:Nat),vs=[v]/\Sh K H (uO T) v/\Quad T n/\1<=n/\n<=8/\∀H',Same H H'->Q (.bl (f T n)) H'
theorem aDs:∀vs H Q E,aEW K (λT n=>(lO T n).all id) vs H Q E->qO K { nx:=λ_ H'=>Q .non H',rt:=Q } (bZ ["table","many"] vs) H:=by
 intro vs H Q E h
 obtain⟨v,T,n,rfl,hS,hq,h1,hn,q⟩:=h
 obtain⟨a,rs,rfl,ha,hl,hrow⟩:=id hS.tab
 have hl:rs.length=n:=hl.trans hq.len
 refine⟨_,rfl,a,rs,rfl, .inr ha,?_⟩
 rw[hl]
 refine⟨_,rfl,(n:Int),rfl,by omega,by omega,λacc hacc=>?_⟩
 rw[dj]
 refine mI [0,1] ((lO T n).map V.bl) hacc ?_ ?_ λσ' H' sm hl'=>⟨acc,lO T n,rfl, .inl (.of hl'),q H' sm⟩
 ·rw[ai]
  have:=cN (λi=>(aj i).flatMap λj=>[at2 T i j == at2 T j i]) 8 n λi hi=>by
   have:=cN (λj=>[at2 T i j == at2 T j i]) 1 i λ_ _=>az _
   omega
  unfold lO
  omega
 ·refine Emits.cast (L:=(aj n).flatMap λi=>(aj i).flatMap λj=>[V.bl (at2 T i j == at2 T j i)]) ?_ (by unfold lO;simp only[rV,bx,j7])
  refine nT (by decide) (by show 0<3;decide) λi σ1 H1 hi l1 ag1 s1 sx1 _=>?_
  rw[ql] at s1
  refine Emits.mono (vars:=[1]) (rT (by decide) (by rw[l1];show 1<3;decide) (by omega) (λQ hQ=>⟨_,s1,hQ H1 (Same.refl _)⟩) λj σ2 H2 hj l2 ag2 s2 sx2 _=>?_) (by simp)
  have t2:σ2[2]?=some (some (.ref a)):=(ag2 2 (by decide)).trans ((ag1 2 (by decide)).trans rfl)
  have u1:σ2[0]?=some (some (.int (i:Int))):=(ag2 0 (by decide)).trans s1
  have S2:=hS.same (cZ hacc (sx1.trans sx2))
  refine sU λQ hQ=>?_
  refine lW t2 u1 s2 S2 hq (by omega) (by omega) (lW t2 s2 u1 S2 hq (by omega) (by omega) ⟨.int _, .int _,bc _,rfl,rfl,?_⟩)
  unfold eqD
  exact hQ H2 (Same.refl _)
theorem aCb {T:List (List Int)}{n:Nat}(h:Ev T n):(lO T n).all id=true:=by
 unfold lO
 rw[mJ]
 refine e7.mpr λi hi=>?_
 rw[mJ]
 refine e7.mpr λj hj=>?_
 have hi:=bb.mp hi
 have hj:=bb.mp hj
 rw[h i j hi (by omega)]
 simp
end
section
variable {K:aa}
abbrev aId (K:aa):Sp:=aEW K (λT n=>(lO T n).all id)
def tH (T:List (List Int)) (L:List (Nat×Nat)):Int:=(L.map λe=>at2 T e.1 e.2).sum
def aHm (K:aa):Sp:=λvs H Q _=>∃(v:V) (a:Addr) (T:List (List Int)) (n:Nat) (ys:List V) (L:List (Nat×Nat)),vs=[v, .ref a]/\Sh K H (uO T) v/\Quad T n/\H a=some (.lst ys)/\Rows K H ys (prN L)/\(∀e∈L,e.1<n/\e.2<n)/\L.length<=64/\∀H',Same H H'->Q (.int (tH T L)) H'
theorem aGV:∀vs H Q E,aHm K vs H Q E->nY K { nx:=λ_ H'=>Q .non H',rt:=Q } (bZ ["table","ties"] vs) H:=by
 intro vs H Q E h
 obtain⟨v,a,T,n,ys,L,rfl,hS,qT,ha,hr,hL,z,q⟩:=h
 have yl:ys.length=L.length:=by rw[hr.1,bR]
 refine⟨_,rfl,a,rfl, .inl ⟨⟨_, .of ha⟩,λA hA=>?_⟩⟩
 refine bW (K:=K) (a:=a) (xs:=ys) (λi σ' H'=>i<=ys.length/\Same H H'/\(∃x0 x1,σ'=[x0,x1,some v])/\H' A=some (.lst (((L.take i).map λe=>at2 T e.1 e.2).map V.int))) ⟨bc _,aH hA _,⟨_,_,rfl⟩,aF⟩ (λi σ1 H1 _ ⟨_,s1,_⟩ => .of (s1 _ _ ha)) (λi x σ1 H1 hx ⟨_,s1,⟨x0,x1,es⟩,hA1⟩=>?_) λσ1 H1 ⟨_,s1,_,hA1⟩=>?_
 ·subst es
  have hi:i<ys.length:=(ah.mp hx).1
  obtain⟨e,b,he,rfl,hb⟩:=fW (hr.same s1) hx
  obtain⟨g1,g2⟩:=hL e (a8 he)
  refine⟨b,_,rfl,hb,rfl,aX e.1,[aX e.2],rfl,aX e.2,[],rfl,rfl,?_⟩
  refine lW (t:=2) (si:=0) (sj:=1) rfl rfl rfl (hS.same s1) qT g1 g2 ⟨_,hA1,?_,hi,gC hA s1,⟨_,_,rfl⟩,?_⟩
  ·rw[ai,ai,fg]
   exact cp (show _<=64 by omega) (by decide)
  ·rw[aF,e8,he,de,de]
   rfl
 ·rw[yl,fh] at hA1
  exact⟨A,_,rfl, .inl (.of hA1),q H1 s1⟩
theorem zO {vars:List Nat}{tb:TS}{acc a:Addr}{σ:St}{H:Hp}{xs:List V}{j:Nat}{L:Nat->List (List Int)}(hj:j∈vars)(hjl:j<σ.length)(hs:∀H',SameX acc H H'->SqL K H' a xs)
  (h:∀i x σ' H',xs[i]?=some x->σ'.length=σ.length->Agree vars σ σ'->σ'[j]?=some (some x)->SameX acc H H'->EmR K vars tb acc σ' H' (L i)) :
  EmR K vars (gB (Itl K a) (aJ j) tb) acc σ H ((aj xs.length).flatMap L):=by
 intro D pre R ha hR hz hd
 refine bW (K:=K) (a:=a) (xs:=xs) (g:=aJ j) (D:=D) (λi σ' H'=>i<=xs.length/\σ'.length=σ.length/\Agree vars σ σ'/\SameX acc H H'/\∃pre',H' acc=some (.lst pre')/\Rows K H' pre' (R++(aj i).flatMap L)) ⟨bc _,rfl,Agree.refl _ _,SameX.refl _ _,pre,ha,by simpa using hR⟩ (λi σ1 H1 _ ⟨_,_,_,sx1,_⟩=>hs H1 sx1) (λi x σ1 H1 hx ⟨_,hl1,ag1,sx1,pre1,h1,r1⟩=>?_) λσ1 H1 ⟨_,hl1,ag1,sx1,pre1,h1,r1⟩=>hd σ1 H1 pre1 hl1 ag1 sx1 h1 r1
 have hi:i<xs.length:=(ah.mp hx).1
 have hle:=cT L (show i+1<=xs.length from hi)
 rw[aV,au] at hle
 refine h i x (σ1.set j (some x)) H1 hx (by rw[fk];exact hl1) (ag1.trans (Agree.set hj _)) (oF (by omega)) sx1 _ pre1 _ h1 r1 (by rw[au];omega) λσ' H' pre' hl ag sx h2 r2=>⟨hi,hl.trans ((fk ..).trans hl1),(ag1.trans (Agree.set hj _)).trans ag,sx1.trans sx,pre',h2,by rw[aV,<- ez];exact r2⟩
theorem EmR.mono {vars vars':List Nat}{tb:TS}{acc:Addr}{σ:St}{H:Hp}{L:List (List Int)}(h:EmR K vars tb acc σ H L)(hs:∀k∈vars,k∈vars'):EmR K vars' tb acc σ H L:=
 λD pre R ha hR hz hd=>h D pre R ha hR hz λσ' H' pre' hl ag sx h1 h2=>hd σ' H' pre' hl (λk hk=>ag k λz=>hk (hs k z)) sx h1 h2
def mm (e:Nat×Nat):Nat×Nat:=(min e.1 e.2,max e.1 e.2)
theorem aIe {a b:Nat}:(if(b:Int)<(a:Int) then(b:Int) else(a:Int))=((min a b:Nat):Int):=by split <;> omega
theorem aIj {a b:Nat}:(if(b:Int) > (a:Int) then(b:Int) else(a:Int))=((max a b:Nat):Int):=by split <;> omega
theorem rG {T:List (List Int)}{m:Nat}(s:Sy T m):∀{es:List (Nat×Nat)},(∀e∈es,e.1<m/\e.2<m)->tH T (es.map mm)=(wts (at2 T) es).sum
 |[],_=>rfl
 |e :: es,h=>by
  have ih:=rG s (es:=es) λx hx=>h x (ar _ hx)
  have he:=h e (by simp)
  have e1:at2 T (mm e).1 (mm e).2=at2 T e.1 e.2:=by
   unfold mm
   rcases qk e.1 e.2 with c | c
   ·show at2 T (min e.1 e.2) (max e.1 e.2)=_
    rw[iz c,i5 c]
   ·show at2 T (min e.1 e.2) (max e.1 e.2)=_
    rw[jn c,j6 c]
    exact s _ _ he.2 he.1
  unfold tH at ih ⊢
  rw[bx,bx,i9,ih,e1]
  rfl
theorem aIt {a b:Int}{r q:List Int}(h:eY (a :: r) (b :: q)=false):b<=a:=by
 rw[eY] at h
 by_cases e:a=b
 ·omega
 ·rw[if_neg e] at h
  have:=of_decide_eq_false h
  omega
def aCK (K : aa) (C : Addr) : Sp := λvs H Q E => ∃(v : V) (T : List (List Int)) (m : Nat), vs = [v] /\ Sh K H (uO T) v /\ Quad T m /\ 1 <= m /\ m <= 8 /\
  ((Sy T m /\ ∀p tl us es ys L H', Same H H' -> H tl = none -> H' p = some (.tup [.int (wts (at2 T) es).sum, .ref tl]) -> Gr us es -> aBF (at2 T) us (wts (at2 T) es) -> us.Perm (aj m) -> H' tl = some (.lst ys) -> Rows K H' ys (prN L) -> L.Perm (es.map mm) -> (prN L).Pairwise (λa b => eY b a = false) -> Q (.ref p) H') \/
   ((lO T m).all id = false /\ ∀H', Same H H' -> E (.ref C) none H'))
theorem nW {L:List (Nat×Nat)}:∀q∈prN L,q≠[]:=λq hq=>by
 obtain⟨e,_,rfl⟩:=c8.mp hq
 simp
theorem oZ {R:List (List Int)}{M:List (Nat×Nat)}(h:R.Perm (prN M)):∃M',R=prN M'/\M'.Perm M:=by
 let un:List Int->Nat×Nat:=λr=>((r.getD 0 0).toNat,(r.getD 1 0).toNat)
 have hu:∀e:Nat×Nat,un [(e.1:Int),(e.2:Int)]=e:=λe=>by
  show(((e.1:Int)).toNat,((e.2:Int)).toNat)=e
  simp
 refine⟨R.map un,?_,?_⟩
 ·unfold prN
  rw[jc]
  symm
  have:∀r∈R,((λe:Nat×Nat=>[(e.1:Int),(e.2:Int)])∘un) r=r:=λr hr=>by
   obtain⟨e,_,rfl⟩:=c8.mp (h.mem_iff.mp hr)
   show[((un [(e.1:Int),(e.2:Int)]).1:Int),((un [(e.1:Int),(e.2:Int)]).2:Int)]=_
   rw[hu]
  rw[kd this,List.map_id']
 ·have:=h.map un
  unfold prN at this
  rw[jc] at this
  have e:M.map (un∘λe:Nat×Nat=>[(e.1:Int),(e.2:Int)])=M:=by
   have:∀e∈M,(un∘λe:Nat×Nat=>[(e.1:Int),(e.2:Int)]) e=e:=λe _=>hu e
   rw[kd this,List.map_id']
  rw[e] at this
  exact this
theorem aDN {C:Addr}:∀vs H Q E,aCK K C vs H Q E->jT K C E (aId K) (aHm K) { nx:=λ_ H'=>Q .non H',rt:=Q } (bZ ["table","ties","inside","outside","way","one","other"] vs) H:=by
 intro vs H Q E h
 obtain⟨v,T,m,rfl,hS,qT,m1,m8,⟨sy,q⟩ | ⟨nev,q⟩⟩:=h
 rotate_left
 ·refine⟨_,rfl,v,T,m,rfl,hS,qT,m1,m8,λH0 s0=>⟨_,rfl,?_⟩⟩
  exact cF (by show(!(lO T m).all id)=true;rw[nev];rfl) (q H0 s0)
 refine⟨_,rfl,v,T,m,rfl,hS,qT,m1,m8,λH0 s0=>⟨_,rfl,?_⟩⟩
 refine cA (by show(!(lO T m).all id)=false;rw[aCb sy];rfl) ?_
 obtain⟨a,rs,rfl,ha,hrl,hrow⟩:=id hS.tab
 have hrl:rs.length=m:=hrl.trans qT.len
 refine⟨show 0<=b8 by decide,λF1 hF1=>⟨show 1<=b8 by decide,λF2 hF2=>?_⟩⟩
 have v1:=aH hF1 (.lst [])
 have v2:=aH hF2 (.lst [.int 0])
 refine⟨_,rfl,a,rs,rfl, .inr (((s0.trans v1).trans v2).tup ha), .inr ⟨_,_,rfl,λpr hpr=>?_⟩⟩
 rw[hrl]
 have v3:=aH hpr (.rng 1 (m:Int))
 refine .inr ⟨pr,1,_,rfl,aF,⟨by omega,by omega,by omega,by omega,by omega⟩,λF3 hF3=>?_⟩
 have er:(yU 1 (m:Int)).map V.int=((aj (m - 1)).map (· + 1)).map aX:=by
  unfold yU
  rw[jc,jc,show((m:Int) - 1).toNat=m - 1 by omega]
  refine kd λi _=>?_
  show V.int (1+(i:Int))=V.int ((i+1:Nat):Int)
  congr 1
  omega
 rw[er]
 have v4:=aH hF3 (.lst (((aj (m - 1)).map (· + 1)).map aX))
 have hF1':=v4 _ _ (v3 _ _ (v2 _ _ (show upd H0 F1 (.lst []) F1=some (.lst []) from aF)))
 have hF2':=v4 _ _ (v3 _ _ (show upd (upd H0 F1 (.lst [])) F2 (.lst [.int 0]) F2=some (.lst [.int 0]) from aF))
 have hF3':upd (upd (upd (upd H0 F1 (.lst [])) F2 (.lst [.int 0])) pr (.rng 1 (m:Int))) F3 (.lst (((aj (m - 1)).map (· + 1)).map aX)) F3=some (.lst (((aj (m - 1)).map (· + 1)).map aX)):=aF
 have n12:F1≠F2:=aN (show upd H0 F1 (.lst []) F1=some (.lst []) from aF) hF2
 have n13:F1≠F3:=aN (v3 _ _ (v2 _ _ (show upd H0 F1 (.lst []) F1=some (.lst []) from aF))) hF3
 have n23:F2≠F3:=aN (v3 _ _ (show upd (upd H0 F1 (.lst [])) F2 (.lst [.int 0]) F2=some (.lst [.int 0]) from aF)) hF3
 have h1H:H F1=none:=s0.free hF1
 have h2H:H F2=none:=(s0.trans v1).free hF2
 have h3H:H F3=none:=(((s0.trans v1).trans v2).trans v3).free hF3
 have s4:=(((s0.trans v1).trans v2).trans v3).trans v4
 generalize upd (upd (upd (upd H0 F1 (.lst [])) F2 (.lst [.int 0])) pr (.rng 1 (m:Int))) F3 (.lst (((aj (m - 1)).map (· + 1)).map aX))=G at *
 refine⟨λk σ' H'=>∃(us os:List Nat) (es:List (Nat×Nat)) (ys:List V) (x4 x5 x6:Option V),σ'=[some (.ref a),some (.ref F1),some (.ref F2),some (.ref F3),x4,x5,x6]/\Same H H'/\H' F1=some (.lst ys)/\Rows K H' ys (prN (es.map mm))/\H' F2=some (.lst (us.map aX))/\H' F3=some (.lst (os.map aX))/\Gr us es/\(us++os).Perm (aj m)/\(∀k w,(wts (at2 T) es)[k]?=some w->∀x∈us.take (k+1),∀y,y∈us.drop (k+1)\/y∈os->w<=at2 T x y)/\os.length=k,
  ⟨m - 1,[0],(aj (m - 1)).map (· + 1),[],[],none,none,none,rfl,s4,hF1',Rows.nil,hF2',hF3', .one 0,?_,(λk w z=>by cases z),by simp⟩,?_⟩
 ·obtain⟨j,rfl⟩:∃j,m=j+1:=⟨m - 1,by omega⟩
  rw[jh]
  exact List.Perm.refl _
 rintro k σ' H1 ⟨us,os,es,ys,x4,x5,x6,rfl,s1,g1,g2,g3,g4,gr,pm,lw,rfl⟩
 have ltm:∀x,x∈us\/x∈os->x<m:=λx hx=>bb.mp (pm.mem_iff.mp (bo.mpr hx))
 have lel:=gr.len
 have ltot:us.length+os.length=m:=by rw[<- au,pm.length_eq,cq]
 have nd:=pm.nodup_iff.mpr f6
 rw[gf] at nd
 have emem:∀e∈es,e.1<m/\e.2<m:=λe he=>⟨ltm _ (.inl (gr.mem e he).1),ltm _ (.inl (gr.mem e he).2.1)⟩
 refine⟨_,rfl,!(os.map aX).isEmpty,?_,?_⟩
 ·exact .inl ⟨_, .of g4,rfl⟩
 cases os with
 |nil=>
  refine cA rfl ?_
  rw[iu] at pm
  have mmlt:∀e∈es.map mm,e.1<m/\e.2<m:=λe he=>by
   obtain⟨f,hf,rfl⟩:=c8.mp he
   have:=emem f hf
   exact⟨by show min f.1 f.2<m;omega,by show max f.1 f.2<m;omega⟩
  refine⟨_,rfl,_,rfl, .ref a,F1,T,m,ys,es.map mm,rfl,hS.same s1,qT,g1,g2,mmlt,by rw[ai];omega,λH2 s2=>?_⟩
  rw[rG sy emem]
  refine⟨_,rfl, .inr ⟨F1,ys,prN (es.map mm),rfl, .inl (.of (s2 _ _ g1)),g2.same s2,nW,by rw[bR,ai];omega,λzs R' pR srt _ hr' tl htl=>?_⟩⟩
  obtain⟨L',rfl,pL⟩:=oZ pR
  have s3:=aH htl (.lst zs)
  refine⟨show 2<=b8 by decide,λp hp=>?_⟩
  have s4:=aH hp (.tup [V.int (wts (at2 T) es).sum, .ref tl])
  refine q p tl us es zs L' _ (((s1.trans s2).trans s3).trans s4) ((s1.trans s2).free htl) aF gr (λk w hk x hx y hy=>lw k w hk x hx y (.inl hy)) pm (s4 _ _ aF) ((hr'.same s3).same s4) pL srt
 |cons o0 os'=>
  refine cF rfl ?_
  have hus:us≠[]:=λe=>by rw[e] at lel;simp at lel
  generalize hos:o0 :: os'=os at *
  have hone:os≠[]:=by rw[<- hos];simp
  refine⟨λσ2 H2=>∃k',k'<os.length/\∃(us os:List Nat) (es:List (Nat×Nat)) (ys:List V) (x4 x5 x6:Option V),σ2=[some (.ref a),some (.ref F1),some (.ref F2),some (.ref F3),x4,x5,x6]/\Same H H2/\H2 F1=some (.lst ys)/\Rows K H2 ys (prN (es.map mm))/\H2 F2=some (.lst (us.map aX))/\H2 F3=some (.lst (os.map aX))/\Gr us es/\(us++os).Perm (aj m)/\(∀k w,(wts (at2 T) es)[k]?=some w->∀x∈us.take (k+1),∀y,y∈us.drop (k+1)\/y∈os->w<=at2 T x y)/\os.length=k',λσ2 H2 h=>h,?_⟩
  refine⟨_,rfl,F2,rfl, .inl ⟨⟨_, .of g3⟩,λA hA=>?_⟩⟩
  have key:EmR K [0,1] (gB (Itl K F2) (aJ 0) (hV (gL K (aD 2)) (aJ 1) (fX [] (eJ (eK (aB (tOp (bC K) (tOp (bC K) (aD 3) (aD 0)) (aD 1)) (aB (aD 0) (aB (aD 1) aO)))) A)))) A [none,none,some (.ref F3),some (.ref a)] (upd H1 A (.lst [])) ((aj (us.map aX).length).flatMap λi=>(aj (os.map aX).length).flatMap λj=>[[at2 T (us.getD i 0) (os.getD j 0),((us.getD i 0:Nat):Int),((os.getD j 0:Nat):Int)]]):=by
   refine zO (a:=F2) (xs:=us.map aX) (by decide) (by show 0<4;decide) (λH' sx => .of (cZ hA sx _ _ g3)) λi x σ2 H2 hx l2 ag2 e0 sx2=>?_
   have hi:i<us.length:=by have:=(ah.mp hx).1;rwa[ai] at this
   have e0:σ2[0]?=some (some (aX (us.getD i 0))):=by
    rw[aHS hi] at hx
    rw[e0,bu hx]
   have t2:σ2[2]?=some (some (.ref F3)):=(ag2 2 (by decide)).trans rfl
   refine EmR.mono (vars:=[1]) (λD pre R ha' hR hz hd=>⟨_,t2,F3,rfl, .inl ⟨⟨_, .of (cZ hA sx2 _ _ g4)⟩,zO (K:=K) (vars:=[1]) (a:=F3) (xs:=os.map aX) (by decide) (by rw[l2];show 1<4;decide) (λH' sx => .of (cZ hA (sx2.trans sx) _ _ g4)) (λj y σ3 H3 hy l3 ag3 e1 sx3=>?_) D pre R ha' hR hz hd⟩⟩) (by decide)
   have hj:j<os.length:=by have:=(ah.mp hy).1;rwa[ai] at this
   have e1:σ3[1]?=some (some (aX (os.getD j 0))):=by
    rw[aHS hj] at hy
    rw[e1,bu hy]
   have t0:=(ag3 0 (by decide)).trans e0
   have t3:σ3[3]?=some (some (.ref a)):=(ag3 3 (by decide)).trans ((ag2 3 (by decide)).trans rfl)
   refine zW (by show 3<=100;decide) λR hR=>lW t3 t0 e1 (hS.same (s1.trans (cZ hA (sx2.trans sx3)))) qT (ltm _ (.inl ?_)) (ltm _ (.inr ?_)) ⟨_,t0,_,e1,hR⟩
   ·rw[ak,ae hi];exact dg hi
   ·rw[ak,ae hj];exact dg hj
  have memR:∀row,row∈((aj (us.map aX).length).flatMap λi=>(aj (os.map aX).length).flatMap λj=>[[at2 T (us.getD i 0) (os.getD j 0),((us.getD i 0:Nat):Int),((os.getD j 0:Nat):Int)]])↔∃x∈us,∃y∈os,row=[at2 T x y,(x:Int),(y:Int)]:=λrow=>by
   rw[ai,ai,vz]
   constructor
   ·rintro⟨i,hi,h⟩
    obtain⟨j,hj,h⟩:=vz.mp h
    have hi:=bb.mp hi
    have hj:=bb.mp hj
    rw[ay.mp h,ak,ae hi,ak,ae hj]
    exact⟨_,dg hi,_,dg hj,rfl⟩
   ·rintro⟨x,hx,y,hy,rfl⟩
    obtain⟨i,hi,rfl⟩:=dq hx
    obtain⟨j,hj,rfl⟩:=dq hy
    refine⟨i,bb.mpr hi,vz.mpr ⟨j,bb.mpr hj,?_⟩⟩
    rw[ak,ae hi,ak,ae hj]
    exact ay.mpr rfl
  refine vH (K:=K) [0,1] _ hA ?_ key λσ2 H2 pre s2 hA2 r2=>?_
  ·have:=cN (λi=>(aj (os.map aX).length).flatMap λj=>[[at2 T (us.getD i 0) (os.getD j 0),((us.getD i 0:Nat):Int),((os.getD j 0:Nat):Int)]]) 8 (us.map aX).length λi _=>by
    have:=cN (λj=>[[at2 T (us.getD i 0) (os.getD j 0),((us.getD i 0:Nat):Int),((os.getD j 0:Nat):Int)]]) 1 (os.map aX).length λ_ _=>az _
    rw[ai] at this
    rw[ai]
    omega
   simp only[ai] at this ⊢
   omega
  refine .inr ⟨A,pre,_,rfl, .inl (.of hA2),r2,?_,λi b row hb hrow hsq hmin=>?_⟩
  ·intro e
   obtain⟨x,ux,hx⟩:=List.exists_cons_of_ne_nil hus
   have:=(memR [at2 T x o0,(x:Int),(o0:Int)]).mpr ⟨x,by rw[hx];simp,o0,by rw[<- hos];simp,rfl⟩
   rw[e] at this
   cases this
  obtain⟨x,hx,y,hy,rfl⟩:=(memR row).mp (a8 hrow)
  have least:∀x'∈us,∀y'∈os,at2 T x y<=at2 T x' y':=λx' hx' y' hy'=>aIt (hmin _ ((memR _).mpr ⟨x',hx',y',hy',rfl⟩))
  refine⟨b,_,rfl,hsq,rfl, .int (at2 T x y),[aX x,aX y],rfl,aX x,[aX y],rfl,aX y,[],rfl,rfl,?_⟩
  have s12:=s1.trans s2
  have g1':=s2 _ _ g1
  have g3':=s2 _ _ g3
  have g4':=s2 _ _ g4
  refine⟨_,rfl, .inl ⟨rfl,_, .of g1'⟩,_,rfl,_,rfl,_,_,rfl,?_⟩
  rw[aIe]
  refine⟨_,rfl,_,rfl,_,_,rfl,?_⟩
  rw[aIj]
  refine⟨show 2<=b8 by decide,λu hu=>?_⟩
  have mu:=aH hu (.tup [V.int ((min x y:Nat):Int),V.int ((max x y:Nat):Int)])
  have yl:ys.length=es.length:=by rw[g2.1,bR,ai]
  refine⟨F1,ys,_,rfl,rfl,mu _ _ g1',cp (show ys.length<=9 by omega) (by decide),?_⟩
  have r3:Rows K (upd (upd H2 u (.tup [V.int ((min x y:Nat):Int),V.int ((max x y:Nat):Int)])) F1 (.lst (ys++[.ref u]))) (ys++[.ref u]) (prN ((es++[(x,y)]).map mm)):=by
   rw[de,pK]
   exact Rows.put (Rows.snoc ((g2.same s2).same mu) (.of aF)) (mu _ _ g1')
  have g1'':(upd (upd H2 u (.tup [V.int ((min x y:Nat):Int),V.int ((max x y:Nat):Int)])) F1 (.lst (ys++[.ref u]))) F1=some (.lst (ys++[.ref u])):=aF
  have g3'':(upd (upd H2 u (.tup [V.int ((min x y:Nat):Int),V.int ((max x y:Nat):Int)])) F1 (.lst (ys++[.ref u]))) F2=some (.lst (us.map aX)):=by rw[aR (gh n12)];exact mu _ _ g3'
  have g4'':(upd (upd H2 u (.tup [V.int ((min x y:Nat):Int),V.int ((max x y:Nat):Int)])) F1 (.lst (ys++[.ref u]))) F3=some (.lst (os.map aX)):=by rw[aR (gh n13)];exact mu _ _ g4'
  have s3:Same H (upd (upd H2 u (.tup [V.int ((min x y:Nat):Int),V.int ((max x y:Nat):Int)])) F1 (.lst (ys++[.ref u]))):=gC h1H (s12.trans mu)
  generalize upd (upd H2 u (.tup [V.int ((min x y:Nat):Int),V.int ((max x y:Nat):Int)])) F1 (.lst (ys++[.ref u]))=G3 at *
  refine⟨_,rfl, .inl ⟨rfl,_, .of g3''⟩,_,rfl,F2,_,_,rfl,rfl,g3'',cp (show(us.map aX).length<=9 by rw[ai];omega) (by decide),?_⟩
  have r4:Rows K (upd G3 F2 (.lst (us.map aX++[aX y]))) (ys++[.ref u]) (prN ((es++[(x,y)]).map mm)):=Rows.put r3 g3''
  have k1:(upd G3 F2 (.lst (us.map aX++[aX y]))) F1=some (.lst (ys++[.ref u])):=by rw[aR n12];exact g1''
  have k2:(upd G3 F2 (.lst (us.map aX++[aX y]))) F2=some (.lst ((us++[y]).map aX)):=by rw[aF,de];rfl
  have k3:(upd G3 F2 (.lst (us.map aX++[aX y]))) F3=some (.lst (os.map aX)):=by rw[aR (gh n23)];exact g4''
  have s5:Same H (upd G3 F2 (.lst (us.map aX++[aX y]))):=gC h2H s3
  generalize upd G3 F2 (.lst (us.map aX++[aX y]))=G4 at *
  obtain⟨j,hj,ej⟩:=dq hy
  have ndo:=nd.2.1
  refine⟨_,rfl, .inl ⟨rfl,_, .of k3⟩,_,rfl,F3,os.map (λp:Nat=>(p:Int)),(y:Int),j,rfl,rfl,by rw[k3,oW],by rw[bg,ae hj,ej];rfl,λr hr e=>?_,?_⟩
  ·rw[bg,ae (by omega)] at e
   have e':os[r]'(by omega)=y:=by
    have h2:((os[r]'(by omega):Nat):Int)=(y:Int):=bu e
    omega
   rw[<- ej] at e'
   exact gv.mp (il.mp ndo) r j (by omega) hj hr e'
  rw[qN,<- oW]
  have hyn:y∉us:=λh=>nd.2.2 _ h _ hy rfl
  have lwl:(wts (at2 T) es).length=es.length:=by unfold wts;rw[ai]
  have pmE:((us++[y])++os.eraseIdx j).Perm (us++os):=by
   have:=wP (fs:=us) hj
   rw[ej] at this
   exact this
  refine⟨os.length - 1,by omega,us++[y],os.eraseIdx j,es++[(x,y)],ys++[.ref u],_,_,_,rfl,gC h3H s5,by rw[aR n13];exact k1,Rows.put r4 k3,by rw[aR n23];exact k2,aF, .more gr hx hyn,pmE.trans pm,λk w hk x' hx' y' hy'=>?_,by rw[mr hj]⟩
  unfold wts at hk
  rw[de] at hk
  have ysub:∀z,z∈os.eraseIdx j->z∈os:=λz hz=>List.mem_of_mem_eraseIdx hz
  by_cases ck:k<es.length
  ·rw[bh (by rw[ai];exact ck)] at hk
   rw[f7 (by omega)] at hx'
   refine lw k w hk x' hx' y' ?_
   rw[qr (by omega)] at hy'
   rcases hy' with h | h
   ·rcases bo.mp h with h | h
    ·exact .inl h
    ·rw[ay.mp h];exact .inr hy
   ·exact .inr (ysub y' h)
  ·have ek:k=es.length:=by
    have:=(ah.mp hk).1
    rw[au,ai,ai] at this
    simp at this
    omega
   subst ek
   rw[bj (by rw[ai];exact az _),ai,j8] at hk
   obtain rfl:at2 T x y=w:=by simpa using hk
   rw[f7 (by omega),ji (by omega)] at hx'
   refine least x' hx' y' ?_
   rcases hy' with h | h
   ·rw[qr (by omega),List.drop_of_length_le (by omega),jf] at h
    rw[ay.mp h];exact hy
   ·exact ysub y' h
end
end K31
namespace K31.Q
abbrev Tie:=Nat×Nat
def adj (T:List Tie) (x y:Nat):Prop:=(min x y,max x y)∈T
inductive Cn (T:List Tie) (S:List Nat):Nat->Nat->Prop
 |refl (x:Nat):Cn T S x x
 |step {x y z:Nat}:Cn T S x y->y∈S->z∈S->adj T y z->Cn T S x z
variable {T:List Tie}{S:List Nat}
theorem adj_symm {x y:Nat}(h:adj T x y):adj T y x:=by
 unfold adj at h ⊢
 rw[Nat.min_comm,Nat.max_comm];exact h
theorem Cn.trans {x y z:Nat}(h:Cn T S x y)(g:Cn T S y z):Cn T S x z:=by
 induction g with
 |refl=>exact h
 |step _ a b c ih=>exact .step ih a b c
theorem Cn.symm {x y:Nat}(h:Cn T S x y):Cn T S y x:=by
 induction h with
 |refl=>exact .refl _
 |step _ a b c ih=>exact(Cn.step (.refl _) b a (adj_symm c)).trans ih
theorem Cn.mono {T':List Tie}{S':List Nat}(ht:∀e∈T,e∈T')(hs:∀x∈S,x∈S'){x y:Nat}(h:Cn T S x y):Cn T' S' x y:=by
 induction h with
 |refl=>exact .refl _
 |step _ a b c ih=>exact .step ih (hs _ a) (hs _ b) (ht _ c)
def ncn (T:List Tie) (S0:List Nat) (x y:Nat):Bool:=@decide (¬ Cn T S0 x y) (vm _)
theorem ncn_iff {S0:List Nat}{x y:Nat}:ncn T S0 x y=true↔¬ Cn T S0 x y:=by
 unfold ncn
 exact @decide_eq_true_iff _ (vm _)
def cls (T:List Tie) (S0:List Nat):Nat->List Nat->Nat
 |0,_=>0
 |_+1,[]=>0
 |k+1,x :: l=>1+cls T S0 k (l.filter (ncn T S0 x))
structure Pt (T:List Tie)(S0 S:List Nat)(P:List (List Nat)):Prop where
 perm:P.flatten.Perm S
 ne:∀q∈P,q≠[]
 cn:∀q∈P,∀x∈q,∀y∈S,y∈q↔Cn T S0 x y
theorem Pt.len {S0:List Nat}:∀(k:Nat) (S:List Nat) (P:List (List Nat)),S.length<=k->S.Nodup->Pt T S0 S P->P.length=cls T S0 k S
 |k,[],P,_,_,h=>by
  have:P=[]:=by
   cases P with
   |nil=>rfl
   |cons q P=>
    have e:=List.perm_nil.mp h.perm
    rw[gc] at e
    exact absurd (wc.mp e).1 (h.ne q (bp ..))
  subst this
  cases k <;> rfl
 |0,x :: l,P,hk,_,_=>by simp at hk
 |k+1,x :: l,P,hk,nd,h=>by
  have hx:x∈P.flatten:=h.perm.mem_iff.mpr (bp ..)
  obtain⟨q,hq,hxq⟩:=i6.mp hx
  obtain⟨P1,P2,rfl⟩:=List.append_of_mem hq
  have hp:(q++(P1++P2).flatten).Perm (x :: l):=by
   refine List.Perm.trans ?_ h.perm
   rw[nu,nu,gc]
   exact List.perm_append_comm_assoc _ _ _
  have nd2:(q++(P1++P2).flatten).Nodup:=hp.nodup_iff.mpr nd
  have nd3:=gf.mp nd2
  have ndf:(l.filter (ncn T S0 x)).Nodup:=nr.nodup (dk.mp nd).2
  have key:((P1++P2).flatten).Perm (l.filter (ncn T S0 x)):=by
   refine(gn nd3.2.1 ndf).mpr λy=>?_
   rw[gg,ncn_iff]
   constructor
   ·intro hy
    have hm:y∈x :: l:=hp.mem_iff.mp (cm _ hy)
    have hnq:y∉q:=λz=>nd3.2.2 y z y hy rfl
    refine⟨?_,λc=>hnq ((h.cn q hq x hxq y hm).mpr c)⟩
    rcases a9.mp hm with e | hm
    ·subst e;exact absurd hxq hnq
    ·exact hm
   ·rintro⟨hy,hc⟩
    have hm:y∈q++(P1++P2).flatten:=hp.mem_iff.mpr (ar _ hy)
    rcases bo.mp hm with z | z
    ·exact absurd ((h.cn q hq x hxq y (ar _ hy)).mp z) hc
    ·exact z
  have hl:(l.filter (ncn T S0 x)).length<=k:=by
   have:=i3 (ncn T S0 x) l
   rw[ba] at hk
   omega
  have hsub:∀r,r∈P1++P2->r∈P1++q :: P2:=λr hr=>by
   rcases bo.mp hr with z | z
   ·exact da _ z
   ·exact cm _ (ar _ z)
  have:=Pt.len k (l.filter (ncn T S0 x)) (P1++P2) hl ndf ⟨key,λr hr=>h.ne r (hsub r hr),λr hr z hz y hy=>h.cn r (hsub r hr) z hz y (ar _ (gg.mp hy).1)⟩
  rw[cls,<- this,au,au,ba]
  omega
def tiedP (P:List (List Nat)) (e:Tie):List (List Nat):=P.filter λq=>decide (e.1∈q) || decide (e.2∈q)
def stepP (P:List (List Nat)) (e:Tie):List (List Nat):=
 match tiedP P e with
 |[a,b]=>(P.filter λq=>!(decide (e.1∈q) || decide (e.2∈q)))++[a++b]
 |_=>P
theorem pF {e:Tie}(he:e.1<e.2){x y:Nat}:adj (T++[e]) x y↔adj T x y\/(x=e.1/\y=e.2)\/(x=e.2/\y=e.1):=by
 unfold adj
 rw[bo,ay]
 constructor
 ·rintro(h | h)
  ·exact .inl h
  ·have h1:min x y=e.1:=by rw[<- h]
   have h2:max x y=e.2:=by rw[<- h]
   right;omega
 ·rintro(h | ⟨h1,h2⟩ | ⟨h1,h2⟩)
  ·exact .inl h
  ·right;exact xk (by show min x y=e.1;omega) (by show max x y=e.2;omega)
  ·right;exact xk (by show min x y=e.1;omega) (by show max x y=e.2;omega)
theorem cn_snoc {e:Tie}(he:e.1<e.2)(h1:e.1∈S)(h2:e.2∈S){x y:Nat}:Cn (T++[e]) S x y↔Cn T S x y\/(Cn T S x e.1/\Cn T S e.2 y)\/(Cn T S x e.2/\Cn T S e.1 y):=by
 have up:∀{x y},Cn T S x y->Cn (T++[e]) S x y:=λh=>h.mono (λ_ h=>da _ h) λ_ h=>h
 have ed:Cn (T++[e]) S e.1 e.2 := .step (.refl _) h1 h2 ((pF he).mpr (.inr (.inl ⟨rfl,rfl⟩)))
 constructor
 ·intro h
  induction h with
  |refl=>exact .inl (.refl _)
  | @step y z _ a b c ih=>
   rcases(pF he).mp c with c | ⟨rfl,rfl⟩ | ⟨rfl,rfl⟩
   ·rcases ih with i | ⟨i,j⟩ | ⟨i,j⟩
    ·exact .inl (.step i a b c)
    ·exact .inr (.inl ⟨i, .step j a b c⟩)
    ·exact .inr (.inr ⟨i, .step j a b c⟩)
   ·rcases ih with i | ⟨i,j⟩ | ⟨i,j⟩
    ·exact .inr (.inl ⟨i, .refl _⟩)
    ·exact .inr (.inl ⟨i, .refl _⟩)
    ·exact .inl i
   ·rcases ih with i | ⟨i,j⟩ | ⟨i,j⟩
    ·exact .inr (.inr ⟨i, .refl _⟩)
    ·exact .inl i
    ·exact .inr (.inr ⟨i, .refl _⟩)
 ·rintro(h | ⟨h,g⟩ | ⟨h,g⟩)
  ·exact up h
  ·exact((up h).trans ed).trans (up g)
  ·exact((up h).trans ed.symm).trans (up g)
theorem aFb {e:Tie}(he:e.1<e.2)(h:e.1∉S\/e.2∉S){x y:Nat}:Cn (T++[e]) S x y↔Cn T S x y:=by
 constructor
 ·intro g
  induction g with
  |refl=>exact .refl _
  |step _ a b c ih=>
   rcases(pF he).mp c with c | ⟨rfl,rfl⟩ | ⟨rfl,rfl⟩
   ·exact .step ih a b c
   ·rcases h with h | h <;> contradiction
   ·rcases h with h | h <;> contradiction
 ·exact λg=>g.mono (λ_ h=>da _ h) λ_ h=>h
theorem uniq:∀{P:List (List Nat)},P.flatten.Nodup->∀{q r:List Nat}{x:Nat},q∈P->r∈P->x∈q->x∈r->q=r
 |[],_,_,_,_,h,_,_,_=>by cases h
 |s :: P,nd,q,r,x,hq,hr,xq,xr=>by
  rw[gc] at nd
  have h:=gf.mp nd
  rcases a9.mp hq with e1 | hq' <;> rcases a9.mp hr with e2 | hr'
  ·rw[e1,e2]
  ·rw[e1] at xq
   exact absurd rfl (h.2.2 x xq x (i6.mpr ⟨r,hr',xr⟩))
  ·rw[e2] at xr
   exact absurd rfl (h.2.2 x xr x (i6.mpr ⟨q,hq',xq⟩))
  ·exact uniq h.2.1 hq' hr' xq xr
theorem nodupP:∀{P:List (List Nat)},P.flatten.Nodup->(∀q∈P,q≠[])->P.Nodup
 |[],_,_=>qd
 |q :: P,nd,ne=>by
  rw[gc] at nd
  have h:=gf.mp nd
  refine dk.mpr ⟨λhq=>?_,nodupP h.2.1 λr hr=>ne r (ar _ hr)⟩
  have hne:=ne q (bp ..)
  cases q with
  |nil=>exact hne rfl
  |cons x q=>exact h.2.2 x (bp ..) x (i6.mpr ⟨_,hq,bp ..⟩) rfl
theorem vR {q:List Nat}:∀{l:List (List Nat)},l.Nodup->(∀r∈l,r=q)->l.length<=1
 |[],_,_=>bc _
 |[_],_,_=>az _
 |a :: b :: l,nd,h=>by
  have h1:=h a (by simp)
  have h2:=h b (by simp)
  exact absurd (bp ..) ((h1.trans h2.symm) ▸ (dk.mp nd).1)
theorem oI {P:List (List Nat)}{e:Tie}(h:(tiedP P e).length<=1):stepP P e=P:=by
 unfold stepP
 match hm:tiedP P e,h with
 |[],_=>rfl
 |[_],_=>rfl
theorem mem_tied {P:List (List Nat)}{e:Tie}{q:List Nat}:q∈tiedP P e↔q∈P/\(e.1∈q\/e.2∈q):=by
 unfold tiedP
 rw[gg,Bool.or_eq_true,decide_eq_true_iff,decide_eq_true_iff]
theorem Pt.step {P:List (List Nat)}{e:Tie}(nd:S.Nodup)(he:e.1<e.2)(h:Pt T S S P):Pt (T++[e]) S S (stepP P e):=by
 have ndF:P.flatten.Nodup:=h.perm.nodup_iff.mpr nd
 have ndP:=nodupP ndF h.ne
 have ndT:(tiedP P e).Nodup:=nr.nodup ndP
 have inS:∀{q x},q∈P->x∈q->x∈S:=λhq hx=>h.perm.mem_iff.mp (i6.mpr ⟨_,hq,hx⟩)
 have blk:∀{x},x∈S->∃q∈P,x∈q:=λhx=>i6.mp (h.perm.mem_iff.mpr hx)
 by_cases out:e.1∉S\/e.2∉S
 ·have small:(tiedP P e).length<=1:=by
   cases ht:tiedP P e with
   |nil=>simp
   |cons q l=>
    rw[<- ht]
    have hq:=mem_tied.mp (show q∈tiedP P e by rw[ht];exact bp ..)
    refine vR (q:=q) ndT λr hr=>?_
    have hr:=mem_tied.mp hr
    rcases out with o | o
    ·have a1:e.2∈q:=hq.2.resolve_left λz=>o (inS hq.1 z)
     have a2:e.2∈r:=hr.2.resolve_left λz=>o (inS hr.1 z)
     exact uniq ndF hr.1 hq.1 a2 a1
    ·have a1:e.1∈q:=hq.2.resolve_right λz=>o (inS hq.1 z)
     have a2:e.1∈r:=hr.2.resolve_right λz=>o (inS hr.1 z)
     exact uniq ndF hr.1 hq.1 a2 a1
  rw[oI small]
  exact⟨h.perm,h.ne,λq hq x hx y hy=>by rw[aFb he out];exact h.cn q hq x hx y hy⟩
 ·have h1:e.1∈S:=c6 λz=>out (.inl z)
  have h2:e.2∈S:=c6 λz=>out (.inr z)
  obtain⟨q1,hq1,x1⟩:=blk h1
  obtain⟨q2,hq2,x2⟩:=blk h2
  by_cases sm:q1=q2
  ·subst sm
   have c12:Cn T S e.1 e.2:=(h.cn q1 hq1 _ x1 _ h2).mp x2
   have small:(tiedP P e).length<=1:=vR (q:=q1) ndT λr hr=>by
    have hr:=mem_tied.mp hr
    rcases hr.2 with z | z
    ·exact uniq ndF hr.1 hq1 z x1
    ·exact uniq ndF hr.1 hq1 z x2
   rw[oI small]
   refine⟨h.perm,h.ne,λq hq x hx y hy=>?_⟩
   rw[cn_snoc he h1 h2,h.cn q hq x hx y hy]
   constructor
   ·exact .inl
   ·rintro(c | ⟨c,d⟩ | ⟨c,d⟩)
    ·exact c
    ·exact(c.trans c12).trans d
    ·exact(c.trans c12.symm).trans d
  ·have pm:(tiedP P e).Perm [q1,q2]:=by
    refine(gn ndT (by simp[sm])).mpr λr=>?_
    rw[mem_tied]
    constructor
    ·rintro⟨hr,z | z⟩
     ·rw[uniq ndF hr hq1 z x1];simp
     ·rw[uniq ndF hr hq2 z x2];simp
    ·intro hr
     rcases a9.mp hr with z | z
     ·subst z;exact⟨hq1, .inl x1⟩
     ·rw[ay.mp z];exact⟨hq2, .inr x2⟩
   obtain⟨a,b,hab⟩:∃a b,tiedP P e=[a,b]:=by
    have:=pm.length_eq
    match hm:tiedP P e,this with
    |[a,b],_=>exact⟨a,b,rfl⟩
   have hs:stepP P e=(P.filter λq=>!(decide (e.1∈q) || decide (e.2∈q)))++[a++b]:=by
    unfold stepP
    rw[hab]
   rw[hab] at pm
   have two:(a=q1/\b=q2)\/(a=q2/\b=q1):=by
    have ha:a∈[q1,q2]:=pm.mem_iff.mp (by simp)
    have hb:b∈[q1,q2]:=pm.mem_iff.mp (by simp)
    have hne:a≠b:=by
     have:[a,b].Nodup:=by rw[<- hab];exact ndT
     simpa using this
    simp at ha hb
    rcases ha with ha | ha <;> rcases hb with hb | hb
    ·exact absurd (ha.trans hb.symm) hne
    ·exact .inl ⟨ha,hb⟩
    ·exact .inr ⟨ha,hb⟩
    ·exact absurd (ha.trans hb.symm) hne
   have mab:∀y,y∈a++b↔y∈q1\/y∈q2:=λy=>by
    rw[bo]
    rcases two with⟨rfl,rfl⟩ | ⟨rfl,rfl⟩
    ·exact Iff.rfl
    ·exact Or.comm
   have n12:¬ Cn T S e.1 e.2:=λc=>sm (uniq ndF hq1 hq2 ((h.cn q1 hq1 _ x1 _ h2).mpr c) x2)
   rw[hs]
   refine⟨?_,λq hq=>?_,λq hq x hx y hy=>?_⟩
   ·have p1:=(List.filter_append_perm (λq=>decide (e.1∈q) || decide (e.2∈q)) P).flatten
    rw[nu] at p1
    rw[nu]
    refine List.Perm.trans ?_ (p1.trans h.perm)
    have:(P.filter λq=>decide (e.1∈q) || decide (e.2∈q))=[a,b]:=hab
    rw[this]
    simp only[gc,List.flatten_nil,iu]
    exact List.perm_append_comm
   ·rcases bo.mp hq with z | z
    ·exact h.ne q (gg.mp z).1
    ·rw[ay.mp z]
     intro w
     have:=h.ne a (mem_tied.mp (show a∈tiedP P e by rw[hab];simp)).1
     exact this (wc.mp w).1
   ·rw[cn_snoc he h1 h2]
    rcases bo.mp hq with z | z
    ·obtain⟨hqP,hf⟩:=gg.mp z
     have hf:e.1∉q/\e.2∉q:=by simpa using hf
     rw[h.cn q hqP x hx y hy]
     constructor
     ·exact .inl
     ·rintro(c | ⟨c,d⟩ | ⟨c,d⟩)
      ·exact c
      ·exact absurd ((h.cn q hqP x hx _ h1).mpr c) hf.1
      ·exact absurd ((h.cn q hqP x hx _ h2).mpr c) hf.2
    ·rw[ay.mp z] at hx ⊢
     rw[mab] at hx ⊢
     rcases hx with hx | hx
     ·have c1:Cn T S x e.1:=(h.cn q1 hq1 x hx _ h1).mp x1
      rw[h.cn q1 hq1 x hx y hy,h.cn q2 hq2 _ x2 y hy]
      constructor
      ·rintro(c | c)
       ·exact .inl c
       ·exact .inr (.inl ⟨c1,c⟩)
      ·rintro(c | ⟨c,d⟩ | ⟨c,d⟩)
       ·exact .inl c
       ·exact .inr d
       ·exact absurd (c1.symm.trans c) n12
     ·have c2:Cn T S x e.2:=(h.cn q2 hq2 x hx _ h2).mp x2
      rw[h.cn q1 hq1 _ x1 y hy,h.cn q2 hq2 x hx y hy]
      constructor
      ·rintro(c | c)
       ·exact .inr (.inr ⟨c2,c⟩)
       ·exact .inl c
      ·rintro(c | ⟨c,d⟩ | ⟨c,d⟩)
       ·exact .inr c
       ·exact absurd (c.symm.trans c2) n12
       ·exact .inl d
theorem aFG {x y:Nat}:Cn [] S x y↔x=y:=by
 constructor
 ·intro h
  cases h with
  |refl=>rfl
  |step _ _ _ c=>cases c
 ·rintro rfl
  exact .refl _
theorem kG:∀l:List Nat,(l.map λx=>[x]).flatten=l
 |[]=>rfl
 |x :: l=>by rw[bx,gc,kG l];rfl
theorem Pt.init:Pt [] S S (S.map λx=>[x]):=by
 refine⟨by rw[kG],λq hq=>?_,λq hq x hx y hy=>?_⟩
 ·obtain⟨x,_,rfl⟩:=c8.mp hq
  exact λz=>by cases z
 ·obtain⟨z,_,rfl⟩:=c8.mp hq
  rw[ay.mp hx,aFG,ay]
  exact eq_comm
def partsP (S:List Nat) (L:List Tie):List (List Nat):=L.foldl stepP (S.map λx=>[x])
theorem Pt.all (nd:S.Nodup):∀(L T:List Tie) (P:List (List Nat)),(∀e∈L,e.1<e.2)->Pt T S S P->Pt (T++L) S S (L.foldl stepP P)
 |[],T,P,_,h=>by rw[iu];exact h
 |e :: L,T,P,hL,h=>by
  have:=Pt.all nd L (T++[e]) (stepP P e) (λf hf=>hL f (ar _ hf)) (h.step nd (hL e (bp ..)))
  rw[ez] at this
  exact this
theorem parts_len {L:List Tie}(nd:S.Nodup)(hL:∀e∈L,e.1<e.2){k:Nat}(hk:S.length<=k):(partsP S L).length=cls L S k S:=by
 have:=Pt.all nd L [] _ hL Pt.init
 rw[jf] at this
 exact this.len k S _ hk nd
theorem vG {left:List Nat}:∀(k m:Nat) (R:List Nat),R.length<=k->R.length<=m->cls T left k R=cls T left m R
 |0,m,[],_,_=>by cases m <;> rfl
 |k+1,m,[],_,_=>by cases m <;> rfl
 |0,m,x :: R,h,_=>by simp at h
 |k+1,0,x :: R,_,h=>by simp at h
 |k+1,m+1,x :: R,h1,h2=>by
  have hl:=i3 (ncn T left x) R
  rw[ba] at h1 h2
  rw[cls,cls,vG k m _ (by omega) (by omega)]
theorem cls_cons {left R:List Nat}{x k:Nat}(h:(x :: R).length<=k):cls T left k (x :: R)=1+cls T left k (R.filter (ncn T left x)):=by
 cases k with
 |zero=>simp at h
 |succ k=>
  have hl:=i3 (ncn T left x) R
  rw[ba] at h
  rw[cls,vG k (k+1) _ (by omega) (by omega)]
end K31.Q
namespace K31.Q
open PySem L2
def nz (q:List Nat):List Int:=q.map λk:Nat=>(k:Int)
def lr (P:List (List Nat)):List (List Int):=P.map nz
theorem aHQ (q:List Nat):(nz q).map V.int=q.map aX:=(oW q).symm
theorem aCM:∀{a b:List Nat},nz a=nz b->a=b
 |[],[],_=>rfl
 |[],_ :: _,h=>by cases h
 |_ :: _,[],h=>by cases h
 |x :: a,y :: b,h=>by
  have h1:(x:Int)=(y:Int)/\nz a=nz b:=by
   have:=h
   unfold nz at this
   rw[bx,bx] at this
   exact List.cons.inj this
  rw[aCM h1.2,show x=y by omega]
theorem aFg {q:List Nat}{P:List (List Nat)}:decide (nz q∈lr P)=decide (q∈P):=by
 by_cases h:q∈P
 ·rw[decide_eq_true h,decide_eq_true (show nz q∈lr P from r9 h)]
 ·rw[decide_eq_false h,decide_eq_false λz=>?_]
  obtain⟨r,hr,e⟩:=c8.mp z
  exact h (aCM e ▸ hr)
theorem aEA {x:Nat}{gs:List Nat}:inV (.int (x:Int)) (gs.map aX)=decide (x∈gs):=by
 unfold inV
 rw[List.any_map]
 by_cases h:x∈gs
 ·rw[decide_eq_true h]
  exact ni.mpr ⟨x,h,by show((x:Int) == (x:Int))=true;simp⟩
 ·rw[decide_eq_false h]
  refine pg.mpr λy hy=>?_
  show ¬ ((y:Int) == (x:Int))=true
  intro e
  have:(y:Int)=(x:Int):=by simpa using e
  exact h (by rw[show x=y by omega];exact hy)
theorem yG (gs:List Nat):(gs.map aX).all pG=true:=by
 rw[zy]
 exact e7.mpr λ_ _=>rfl
section
variable {K:aa}
def RowsM (H:Hp) (xs:List V) (P:List (List Nat)):Prop:=xs.length=P.length/\∀(i:Nat) (q:List Nat),P[i]?=some q->∃b,xs[i]?=some (.ref b)/\H b=some (.lst (q.map aX))
theorem RowsM.same {H H':Hp}{xs:List V}{P:List (List Nat)}(h:RowsM H xs P)(e:Same H H'):RowsM H' xs P:=⟨h.1,λi row z=>by
 obtain⟨b,e1,e2⟩:=h.2 i row z
 exact⟨b,e1,e _ _ e2⟩⟩
theorem RowsM.at {H:Hp}{xs:List V}{P:List (List Nat)}(h:RowsM H xs P){i:Nat}{x:V}(hx:xs[i]?=some x):∃q b,P[i]?=some q/\x = .ref b/\H b=some (.lst (q.map aX)):=by
 have hi:i<xs.length:=(ah.mp hx).1
 have hl:i<P.length:=by rw[h.1] at hi;exact hi
 obtain⟨b,e1,e2⟩:=h.2 i P[i] (ae hl)
 rw[hx] at e1
 exact⟨P[i],b,ae hl,bu e1,e2⟩
theorem RowsM.snoc {H:Hp}{xs:List V}{P:List (List Nat)}(h:RowsM H xs P){b:Addr}{q:List Nat}(hb:H b=some (.lst (q.map aX))):RowsM H (xs++[.ref b]) (P++[q]):=by
 refine⟨by rw[au,au,h.1];rfl,λi row z=>?_⟩
 by_cases c:i<P.length
 ·rw[bh c] at z
  obtain⟨b',e1,e2⟩:=h.2 i row z
  exact⟨b',by rw[bh (by rw[h.1];exact c)];exact e1,e2⟩
 ·rw[bj (by omega)] at z
  have:i - P.length=0:=by
   by_cases d:i - P.length=0
   ·exact d
   ·rw[xj (by simp;omega)] at z;cases z
  rw[this] at z
  obtain rfl:q=row:=bu z
  refine⟨b,?_,hb⟩
  rw[bj (by rw[h.1];omega),h.1,this];rfl
theorem RowsM.rowsL {H:Hp}{xs:List V}{P:List (List Nat)}(h:RowsM H xs P):aDv K H xs (lr P):=by
 refine⟨by unfold lr;rw[ai];exact h.1,λi row e=>?_⟩
 unfold lr at e
 rw[bg] at e
 cases es:P[i]? with
 |none=>rw[es] at e;cases e
 |some q=>
  rw[es] at e
  obtain rfl:nz q=row:=bu e
  obtain⟨b,e1,e2⟩:=h.2 i q es
  exact⟨b,e1,by rw[aHQ];exact .of e2⟩
section
variable {H:Hp}{A t:Addr}{xs:List V}{P:List (List Nat)}{f:List Nat->Bool}{tc:TT}{σ:St}{D:jG}
def aGQ (K:aa) (H:Hp) (σ:St) (P:List (List Nat)) (f:List Nat->Bool) (tc:TT):Prop:=∀q∈P,∀b σ2 H2,σ2[0]?=some (some (.ref b))->Agree [0] σ σ2->Same H H2->H2 b=some (.lst (q.map aX))->∀R:Bool->Hp->Prop,(∀H',Same H2 H'->R (f q) H')->tc σ2 H2 R
theorem aHR (hA:H A=none)(ht:H t=some (.lst xs))(hr:RowsM H xs P)(hz:P.length<=63)(h0:0<σ.length)(hc:aGQ K H σ P f tc)(q:∀σ' H' ys,Same H H'->H' A=some (.lst ys)->RowsM H' ys (P.filter f)->D.nx σ' H'):gB (Itl K t) (aJ 0) (fX [tc] (eJ (aD 0) A)) D σ (upd H A (.lst [])):=by
 have hl:xs.length=P.length:=hr.1
 refine iH (K:=K) (a:=t) (vars:=[0]) (xs:=xs) (λi ys H'=>RowsM H ys ((P.take i).filter f)) (by decide) h0 ⟨rfl,λi row e=>by cases e⟩ hA (λi ys H' sm _ => .of (sm _ _ ht)) (λi x σ1 H1 ys D1 hx l1 ag s0 sm ha hL hD=>?_) λσ1 H1 ys sm ha hL=>q σ1 H1 ys sm ha (by rw[hl,fh] at hL;exact hL.same sm)
 obtain⟨r,b,he,rfl,hb⟩:=hr.at hx
 have tk:(P.take (i+1)).filter f=(P.take i).filter f++(if f r=true then[r] else[]):=by
  rw[e8,he,List.filter_append]
  congr 1
  show List.filter f [r]=_
  by_cases c:f r=true
  ·rw[if_pos c,List.filter_cons_of_pos c];rfl
  ·rw[if_neg c,List.filter_cons_of_neg c];rfl
 refine hc r (a8 he) b σ1 H1 s0 ag sm (sm _ _ hb) _ λH2 s2=>?_
 have ha2:=s2 _ _ ha
 by_cases c:f r=true
 ·refine cF c ⟨_,s0,ys,ha2,?_,hD σ1 _ (ys++[.ref b]) l1 ag (gC hA (sm.trans s2)) aF ?_⟩
  ·rw[hL.1]
   exact cp (show _<=63 from bq (i3 ..) (by rw[fg];omega)) (by decide)
  ·rw[tk,if_pos c]
   exact RowsM.snoc hL hb
 ·refine cA (by simpa using c) (hD σ1 H2 ys l1 ag (sm.trans s2) ha2 ?_)
  rw[tk,if_neg c,iu]
  exact hL
end
theorem in_list {K:aa}{H:Hp}{b:Addr}{x:Nat}{q:List Nat}{neg:Bool}{Q:VK}(hb:Sq K H b (q.map aX))(h:Q (.bl (if neg then !decide (x∈q) else decide (x∈q))) H):aEC K neg (.int (x:Int)) (.ref b) H Q:=
 .inl (.inl ⟨b,q.map aX,rfl,hb,rfl,yG q,by rw[aEA];exact h⟩)
structure Ts (K:aa)(H:Hp)(a:Addr)(xs:List V)(L:List Tie):Prop where
 sq:H a=some (.lst xs)
 rows:Rows K H xs (prN L)
theorem Ts.same {H H':Hp}{a:Addr}{xs:List V}{L:List Tie}(h:Ts K H a xs L)(s:Same H H'):Ts K H' a xs L:=⟨s _ _ h.sq,h.rows.same s⟩
theorem Ts.len {H:Hp}{a:Addr}{xs:List V}{L:List Tie}(h:Ts K H a xs L):xs.length=L.length:=by rw[h.rows.1,bR]
theorem aCI {T:List Tie}{S0:List Nat}:∀(k:Nat) (l:List Nat),cls T S0 k l<=k
 |0,_=>az _
 |_+1,[]=>bc _
 |k+1,x :: l=>by rw[cls];have:=aCI (T:=T) (S0:=S0) k (l.filter (ncn T S0 x));omega
theorem zY {q:List Nat}:∀{P:List (List Nat)},q∈P->q.length<=P.flatten.length
 |r :: P,h=>by
  rw[gc,au]
  rcases a9.mp h with rfl | h
  ·omega
  ·have:=zY h;omega
def RN (H:Hp) (A:Addr) (ys:List V) (l:List Nat):Prop:=ys.length=l.length/\∀(i x:Nat),l[i]?=some x->∃b,ys[i]?=some (.ref b)/\b≠A/\H b=some (.lst [aX x])
inductive rS (K : aa) (vs : List V) (H : Hp) (Q : VK) : Prop
 |mk (a t : Addr) (S : List Nat) (xs : List V) (L : List Tie) (h0 : vs = [.ref a, .ref t]) (h1 : SqL K H a (S.map aX)) (h2 : Ts K H t xs L) (h3 : S.Nodup) (h4 : S.length <= 14) (h5 : L.length <= 63) (h6 : (∀e ∈ L, e.1 < e.2)) (h7 : ∀b ys H', Same H H' -> H' b = some (.lst ys) -> ys.length = cls L S 14 S -> Q (.ref b) H') : rS K vs H Q
def spParts (K:aa):Sp:=λvs H Q _=>rS K vs H Q
theorem rd_parts:∀vs H Q E,spParts K vs H Q E->zB K { nx:=λ_ H'=>Q .non H',rt:=Q } (bZ ["places","ties","found","i","j","tied"] vs) H:=by
 intro vs H Q E h
 obtain⟨a,t,S,xs,L,rfl,ha,ht,nd,s8,l63,hL,q⟩:=h
 refine⟨_,rfl,a,rfl, .inl ⟨⟨_,ha⟩,λA hA=>?_⟩⟩
 refine iH (K:=K) (a:=a) (vars:=[0]) (xs:=S.map aX) (λi ys H'=>RN H' A ys (S.take i)) (by decide) (by show 0<1;decide) ⟨rfl,λi x e=>by cases e⟩ hA (λi ys H' sm _=>sm.seq ha) (λi x σ1 H1 ys D1 hx l1 ag s0 sm ha1 hR hD=>?_) λσ1 H1 ys sm ha1 hR=>?_
 ·have hi:i<S.length:=by have:=(ah.mp hx).1;simpa using this
  obtain rfl:aX S[i]=x:=by rw[bg,ae hi] at hx;exact bu hx
  refine⟨_,s0,show 1<=b8 by decide,λz hz=>?_⟩
  have sz:=aH hz (.lst [aX S[i]])
  have hzA:z≠A:=λe=>by rw[e,ha1] at hz;cases hz
  have lt:(S.take i).length=i:=by rw[fg];omega
  refine⟨ys,sz _ _ ha1,?_,hD σ1 _ (ys++[.ref z]) l1 ag (gC hA (sm.trans sz)) aF ⟨?_,λk x hx=>?_⟩⟩
  ·rw[hR.1,lt];exact c5 (show i<14 by omega) (by decide)
  ·rw[au,hR.1,lt,fg]
   show i+1=_
   omega
  ·rw[e8,ae hi] at hx
   by_cases c:k<i
   ·rw[bh (by omega)] at hx
    obtain⟨b,e1,e2,e3⟩:=hR.2 k x hx
    exact⟨b,by rw[bh (by rw[hR.1];omega)];exact e1,e2,by rw[aR e2];exact sz _ _ e3⟩
   ·rw[bj (by omega),lt] at hx
    have k0:k - i=0:=by
     by_cases d:k - i=0
     ·exact d
     ·rw[xj (by simp;omega)] at hx;cases hx
    rw[k0] at hx
    obtain rfl:S[i]=x:=bu hx
    refine⟨z,?_,hzA,by rw[aR hzA];exact aF⟩
    rw[bj (by rw[hR.1];omega),hR.1,lt,k0];rfl
 ·rw[ai,fh] at hR
  have hr1:RowsM H1 ys (S.map λx=>[x]):=by
   refine⟨by rw[hR.1,ai],λi row e=>?_⟩
   rw[bg] at e
   cases es:S[i]? with
   |none=>rw[es] at e;cases e
   |some x=>
    rw[es] at e
    obtain rfl:[x]=row:=bu e
    obtain⟨b,e1,_,e3⟩:=hR.2 i x es
    exact⟨b,e1,e3⟩
  have hP:∀i,Pt (L.take i) S S ((L.take i).foldl stepP (S.map λx=>[x])):=λi=>by
   have:=Pt.all nd (L.take i) [] _ (λe he=>hL e (qu he)) Pt.init
   rwa[jf] at this
  have pl:∀i,((L.take i).foldl stepP (S.map λx=>[x])).length=cls (L.take i) S 14 S:=λi=>(hP i).len 14 S _ s8 nd
  have p8:∀i,((L.take i).foldl stepP (S.map λx=>[x])).length<=14:=λi=>by rw[pl i];exact aCI 14 S
  refine⟨_,rfl,t,rfl, .inl ⟨⟨_, .of (sm _ _ ht.sq)⟩,?_⟩⟩
  refine bW (K:=K) (a:=t) (xs:=xs) (λi σ' H'=>i<=xs.length/\∃F ys x3 x4 x5,σ'=[some (.ref a),some (.ref t),some (.ref F),x3,x4,x5]/\Same H H'/\H' F=some (.lst ys)/\RowsM H' ys ((L.take i).foldl stepP (S.map λx=>[x]))) ⟨bc _,A,ys,_,_,_,rfl,sm,ha1,hr1⟩ (λi σ' H' _ ⟨_,_,_,_,_,_,_,s',_⟩ => .of (s' _ _ ht.sq)) (λi x σ2 H2 hx ⟨_,F,ys2,x3,x4,x5,es,s2,hF,hr2⟩=>?_) λσ2 H2 ⟨_,F,ys2,x3,x4,x5,es,s2,hF,hr2⟩=>?_
  ·subst es
   have hi:i<xs.length:=(ah.mp hx).1
   obtain⟨e,b,he,rfl,hb⟩:=fW (ht.same s2).rows hx
   have tkE:(L.take (i+1)).foldl stepP (S.map λx=>[x])=stepP ((L.take i).foldl stepP (S.map λx=>[x])) e:=by
    rw[e8,he,u0];rfl
   have hPi:=hP i
   have hp8:=p8 i
   have hPn:=p8 (i+1)
   rw[tkE] at hPn
   generalize hPP:(L.take i).foldl stepP (S.map λx=>[x])=PP at hr2 tkE hPi hp8 hPn
   refine⟨b,_,rfl,hb,rfl,aX e.1,[aX e.2],rfl,aX e.2,[],rfl,rfl,?_⟩
   refine⟨_,rfl,F,rfl, .inl ⟨⟨_, .of hF⟩,λA1 hA1=>aHR (f:=λq=>decide (e.1∈q) || decide (e.2∈q)) hA1 hF hr2 (by omega) (by show 0<3;decide) (λq' hq' b' σ6 H6 s0 ag sm6 hb' R hR6=>?_) λσ6 H6 ys6 s6 hA6 hr6=>?_⟩⟩
   ·have u1:σ6[1]?=some (some (aX e.1)):=(ag 1 (by decide)).trans rfl
    have u2:σ6[2]?=some (some (aX e.2)):=(ag 2 (by decide)).trans rfl
    refine⟨_,u1,_,s0,in_list (neg:=false) (.inl (.of hb')) ⟨_,rfl,?_⟩⟩
    have fin:R (decide (e.1∈q') || decide (e.2∈q')) H6:=hR6 H6 (Same.refl _)
    show if decide (e.1∈q')=true then _ else _
    by_cases c:decide (e.1∈q')=true
    ·rw[c,Bool.true_or] at fin
     exact cF c fin
    ·rw[jm _ |>.mp c,zc] at fin
     exact cA (jm _ |>.mp c) ⟨_,u2,_,s0,in_list (neg:=false) (.inl (.of hb')) ⟨_,rfl,fin⟩⟩
   ·have hr6':RowsM H6 ys6 (tiedP PP e):=hr6
    have hF6:=s6 _ _ hF
    have hrF6:=hr2.same s6
    have l6:ys6.length=(tiedP PP e).length:=hr6'.1
    refine⟨_,rfl,A1,ys6,rfl, .inl (.of hA6), .int _, .int _,bc _,rfl,rfl,_,rfl,?_⟩
    by_cases c:(tiedP PP e).length=2
    ·refine cF (by rw[l6,c];exact lB _) ?_
     obtain⟨q0,q1,hq⟩:∃q0 q1,tiedP PP e=[q0,q1]:=by
      match hm:tiedP PP e,c with
      |[a,b],_=>exact⟨a,b,rfl⟩
     have hst:stepP PP e=(PP.filter λq=>!(decide (e.1∈q) || decide (e.2∈q)))++[q0++q1]:=by unfold stepP;rw[hq]
     rw[hq] at hr6' l6
     obtain⟨b0,e01,e02⟩:=hr6'.2 0 q0 rfl
     obtain⟨b1,e11,e12⟩:=hr6'.2 1 q1 rfl
     refine⟨_,rfl,F,rfl, .inl ⟨⟨_, .of hF6⟩,λA2 hA2=>aHR (f:=λq=>!decide (q∈tiedP PP e)) hA2 hF6 hrF6 (by omega) (by show 0<2;decide) (λq' hq' b' σ7 H7 s0 ag sm7 hb' R hR7=>?_) λσ7 H7 ys7 s7 hA7 hr7=>?_⟩⟩
     ·have u1:σ7[1]?=some (some (.ref A1)):=(ag 1 (by decide)).trans rfl
      have hr67:RowsM H7 ys6 (tiedP PP e):=hr6.same sm7
      refine⟨_,s0,_,u1, .inr ⟨b',A1,nz q',ys6,lr (tiedP PP e),rfl,rfl,by rw[aHQ];exact .of hb', .inl (.of (sm7 _ _ hA6)),hr67.rowsL,_,rfl,?_⟩⟩
      show R (!decide (nz q'∈lr (tiedP PP e))) H7
      rw[aFg]
      exact hR7 H7 (Same.refl _)
     ·have fc:(PP.filter λq=>!decide (q∈tiedP PP e))=PP.filter λq=>!(decide (e.1∈q) || decide (e.2∈q)):=List.filter_congr λr hr=>by
       have:decide (r∈tiedP PP e)=(decide (e.1∈r) || decide (e.2∈r)):=by
        by_cases z:e.1∈r\/e.2∈r
        ·rw[decide_eq_true (mem_tied.mpr ⟨hr,z⟩)]
         rcases z with z | z <;> simp[z]
        ·rw[decide_eq_false λy=>z (mem_tied.mp y).2]
         have:=not_or.mp z
         simp[this.1,this.2]
       rw[this]
      rw[fc] at hr7
      have m7:=s6.trans s7
      have q0m:=(mem_tied.mp (show q0∈tiedP PP e by rw[hq];simp)).1
      have q1m:=(mem_tied.mp (show q1∈tiedP PP e by rw[hq];simp)).1
      have z0:=zY q0m
      have z1:=zY q1m
      rw[hPi.perm.length_eq] at z0 z1
      have g0:=s7 _ _ e02
      have g1:=s7 _ _ e12
      refine⟨_,rfl,ixL (j:=0) (.of (s7 _ _ hA6)) e01 ⟨_,rfl,ixL (j:=1) (.of (s7 _ _ hA6)) e11 ?_⟩⟩
      refine .inl ⟨b0,b1,q0.map aX,q1.map aX,rfl,rfl,g0,g1,by rw[ai,ai];exact bq (show q0.length+q1.length<=28 by omega) (by decide),λc hc=>⟨show 1<=b8 by decide,λd hd=>?_⟩⟩
      have mc:=aH hc (.lst (q0.map aX++q1.map aX))
      have md:=aH hd (.lst [V.ref c])
      have hc1:=md _ _ (aF (H:=H7) (a:=c) (o := .lst (q0.map aX++q1.map aX)))
      have hd1:(upd (upd H7 c (.lst (q0.map aX++q1.map aX))) d (.lst [V.ref c])) d=some (.lst [V.ref c]):=aF
      have hA8:=md _ _ (mc _ _ hA7)
      have hr8:=(hr7.same mc).same md
      have m8:=(m7.trans mc).trans md
      generalize upd (upd H7 c (.lst (q0.map aX++q1.map aX))) d (.lst [V.ref c])=H8 at hc1 hd1 hA8 hr8 m8 ⊢
      refine .inl ⟨A2,d,ys7,[V.ref c],rfl,rfl,hA8,hd1,?_,λG hG=>?_⟩
      ·have:ys7.length<=14:=by rw[hr8.1];exact bq (i3 ..) hp8
       exact bq (show ys7.length+1<=15 by omega) (by decide)
      have mG:=aH hG (.lst (ys7++[V.ref c]))
      refine⟨hi,G,ys7++[V.ref c],_,_,_,rfl,(s2.trans m8).trans mG,aF,?_⟩
      rw[tkE,hst]
      exact RowsM.snoc (hr8.same mG) (by rw[de];exact mG _ _ hc1)
    ·refine cA ?_ ?_
     ·rw[eqD,l6];exact beq_false_of_ne (by omega)
     ·have hst:stepP PP e=PP:=by
       unfold stepP
       match hm:tiedP PP e,c with
       |[],_=>rfl
       |[_],_=>rfl
       |[_,_],c=>exact absurd rfl c
       |_ :: _ :: _ :: _,_=>rfl
      exact⟨hi,F,ys2,_,_,_,rfl,s2.trans s6,hF6,by rw[tkE,hst];exact hrF6⟩
  ·subst es
   have:=pl L.length
   rw[fh] at this
   rw[ht.len,fh] at hr2
   exact⟨_,rfl,q F ys2 H2 s2 hF (by rw[hr2.1,this])⟩
end
end K31.Q
namespace K31
open PySem L2
def aEE (L:List (Nat×Nat)) (n:Nat):Prop:=∀x,x<n->Q.Cn L (aj n) 0 x
theorem aAg {L:List (Nat×Nat)}{n k:Nat}(n1:1<=n)(hk:n<=k):Q.cls L (aj n) k (aj n)=1↔aEE L n:=by
 obtain⟨m,rfl⟩:∃m,n=m+1:=⟨n - 1,by omega⟩
 obtain⟨R,hR⟩:∃R,aj (m+1)=0 :: R:=⟨_,jh⟩
 have hl:(0 :: R).length<=k:=by rw[<- hR,cq];exact hk
 have e0:Q.cls L (aj (m+1)) k (aj (m+1))=1+Q.cls L (aj (m+1)) k (R.filter (Q.ncn L (aj (m+1)) 0)):=by
  conv=>lhs;arg 4;rw[hR]
  exact Q.cls_cons hl
 rw[e0]
 have hfl:=i3 (Q.ncn L (aj (m+1)) 0) R
 rw[ba] at hl
 constructor
 ·intro h x hx
  cases ef:R.filter (Q.ncn L (aj (m+1)) 0) with
  |cons y l=>
   rw[ef,Q.cls_cons (by rw[<- ef];omega)] at h
   omega
  |nil=>
   have hm:x∈0 :: R:=by rw[<- hR];exact bb.mpr hx
   rcases a9.mp hm with rfl | hm
   ·exact .refl _
   ·apply c6
    intro hc
    have:x∈R.filter (Q.ncn L (aj (m+1)) 0):=gg.mpr ⟨hm,Q.ncn_iff.mpr hc⟩
    rw[ef] at this
    cases this
 ·intro h
  have ef:R.filter (Q.ncn L (aj (m+1)) 0)=[]:=by
   rw[List.filter_eq_nil_iff]
   intro x hx hc
   exact Q.ncn_iff.mp hc (h x (bb.mp (by rw[hR];exact ar _ hx)))
  rw[ef]
  cases k with
  |zero=>omega
  |succ k=>rfl
end K31
namespace K31
def nx (es:List (Nat×Nat)) (a b:Nat):Prop:=(a,b)∈es\/(b,a)∈es
inductive Way (es:List (Nat×Nat)):List Nat->Prop
 |one (a:Nat):Way es [a]
 |more {a b:Nat}{r:List Nat} (h:nx es a b) (w:Way es (b :: r)):Way es (a :: b :: r)
theorem uG {S:Nat->Prop}:∀(l:List Nat) (a z:Nat),l.head?=some a->l.getLast?=some z->S a->¬ S z->∃A x y B,l=A++x :: y :: B/\S x/\¬ S y
 |[],_,_,h,_,_,_=>by cases h
 |[c],a,z,h,k,p,q=>by
  cases h;cases k;exact absurd p q
 |c :: d :: r,a,z,h,k,p,q=>by
  cases h
  by_cases hd:S d
  ·obtain⟨A,x,y,B,e,hx,hy⟩:=uG (d :: r) d z rfl (by rw[<- k];simp[kg]) hd q
   exact⟨c :: A,x,y,B,by rw[e];rfl,hx,hy⟩
  ·exact⟨[],c,d,r,rfl,p,hd⟩
theorem Way.at {es:List (Nat×Nat)}:∀{A:List Nat}{x y:Nat}{B:List Nat},Way es (A++x :: y :: B)->nx es x y
 |[],_,_,_, .more h _=>h
 |[_],_,_,_, .more _ w=>Way.at (A:=[]) w
 |_ :: c :: A,_,_,_, .more _ w=>Way.at (A:=c :: A) w
theorem Gr.at {us:List Nat}{es:List (Nat×Nat)}(g:Gr us es):∀k e,es[k]?=some e->e.1∈us.take (k+1)/\us[k+1]?=some e.2:=by
 induction g with
 |one a=>intro k e h;cases h
 | @more vs es x c g hx hc ih=>
  intro k e h
  have hl:=g.len
  by_cases hk:k<es.length
  ·rw[bh hk] at h
   obtain⟨a,b⟩:=ih k e h
   have:k+1<vs.length:=by omega
   rw[f7 (by omega),bh this]
   exact⟨a,b⟩
  ·have hk':k=es.length:=by
    have:=(ah.mp h).1
    rw[au,fm] at this
    omega
   subst hk'
   rw[bj (az _),j8] at h
   cases h
   rw[f7 (by omega),ji (by omega),bj (by omega),hl,j8]
   exact⟨hx,rfl⟩
theorem Gr.all {us:List Nat}{es:List (Nat×Nat)}(g:Gr us es){P:Nat->Prop}(h:∀e∈es,P e.1↔P e.2):∀x∈us,∀y∈us,P x->P y:=by
 have key:∃a∈us,∀x∈us,P x↔P a:=by
  induction g with
  |one a=>exact⟨a,by simp,λx hx=>by rw[ay.mp hx]⟩
  | @more vs es x c g hx hc ih=>
   obtain⟨a,ha,q⟩:=ih λe he=>h e (da _ he)
   refine⟨a,da _ ha,λy hy=>?_⟩
   rcases bo.mp hy with hy | hy
   ·exact q y hy
   ·rw[ay.mp hy,<- q x hx]
    exact(h (x,c) (by simp)).symm
 obtain⟨a,ha,q⟩:=key
 exact λx hx y hy p=>(q y hy).mpr ((q x hx).mp p)
end K31
namespace K31
open PySem L2
theorem lS:∀(n:Nat) (l:List Nat),l.Nodup->(∀x∈l,x<n)->l.length<=n
 |0,l,_,h=>by
  cases l with
  |nil=>exact az _
  |cons a l=>exact absurd (h a (by simp)) (lx _)
 |n+1,l,nd,h=>by
  have a:=lS n (l.erase n) (nd.erase n) λx hx=>by
   obtain⟨a,b⟩:=(nd.mem_erase_iff).mp hx
   have:=h x b
   omega
  have b:=List.length_erase (a:=n) (l:=l)
  split at b <;> omega
abbrev Fd:=List (Nat×Option Nat)
def ks (f:Fd):List Nat:=f.map xo
def half (f:Fd) (a b:Nat):Fd:=if a∈ks f/\b∉ks f then f++[(b,some a)] else f
def gO (f:Fd) (e:Nat×Nat):Fd:=half (half f e.1 e.2) e.2 e.1
def fL (L:List (Nat×Nat)) (f:Fd):Fd:=L.foldl gO f
def eG (L:List (Nat×Nat)) (s:Nat):Nat->Fd
 |0=>[(s,none)]
 |t+1=>fL L (eG L s t)
structure AH (es:List (Nat×Nat))(n s:Nat)(f:Fd):Prop where
 head:f[0]?=some (s,none)
 nd:(ks f).Nodup
 par:∀(k x p:Nat),f[k]?=some (x,some p)->(∃(k':Nat) (o:Option Nat),k'<k/\f[k']?=some (p,o))/\nx es x p
 root:∀(k x:Nat),f[k]?=some (x,none)->k=0
 lt:∀x∈ks f,x<n
section
variable {es L:List (Nat×Nat)}{n s:Nat}{f:Fd}
theorem nQ {x:Nat}:x∈ks f↔∃(k:Nat) (o:Option Nat),f[k]?=some (x,o):=by
 unfold ks
 rw[c8]
 constructor
 ·rintro⟨⟨a,o⟩,h,rfl⟩
  obtain⟨k,hk⟩:=fq.mp h
  exact⟨k,o,hk⟩
 ·rintro⟨k,o,h⟩
  exact⟨_,a8 h,rfl⟩
theorem AH.snoc (h:AH es n s f){a b:Nat}(ha:a∈ks f)(hb:b∉ks f)(he:nx es b a)(hn:b<n):AH es n s (f++[(b,some a)]):=by
 have f0:0<f.length:=(ah.mp h.head).1
 have new:∀{k:Nat}{q:Nat×Option Nat},(f++[(b,some a)])[k]?=some q->f[k]?=some q\/(k=f.length/\q=(b,some a)):=λ{k q} e=>by
  by_cases hk:k<f.length
  ·rw[bh hk] at e;exact .inl e
  ·have:=(ah.mp e).1
   rw[au,fm] at this
   have hk':k=f.length:=by omega
   subst hk'
   rw[bj (az _),j8] at e
   exact .inr ⟨rfl,(bu e).symm⟩
 have old:∀{k:Nat}{q:Nat×Option Nat},f[k]?=some q->(f++[(b,some a)])[k]?=some q:=λ{k q} e=>by
  rw[bh (ah.mp e).1];exact e
 refine⟨old h.head,?_,λk x p e=>?_,λk x e=>?_,λx hx=>?_⟩
 ·unfold ks
  rw[de]
  exact gf.mpr ⟨h.nd,by simp,λx hx y hy=>by
   rw[show y=b by simpa using hy]
   intro e
   exact hb (e ▸ hx)⟩
 ·rcases new e with e | ⟨ek,e5⟩
  ·obtain⟨⟨k',o,hk',e'⟩,q⟩:=h.par k x p e
   exact⟨⟨k',o,hk',old e'⟩,q⟩
  ·cases e5
   subst ek
   obtain⟨k',o,e'⟩:=nQ.mp ha
   exact⟨⟨k',o,(ah.mp e').1,old e'⟩,he⟩
 ·rcases new e with e | ⟨_,e5⟩
  ·exact h.root k x e
  ·cases e5
 ·unfold ks at hx
  rw[de] at hx
  rcases bo.mp hx with hx | hx
  ·exact h.lt x hx
  ·rw[show x=b by simpa using hx];exact hn
theorem AH.half (h:AH es n s f){a b:Nat}(he:nx es b a)(hb:b<n):AH es n s (half f a b):=by
 unfold K31.half
 split
 ·rename_i c;exact h.snoc c.1 c.2 he hb
 ·exact h
theorem AH.step (h:AH es n s f){e:Nat×Nat}(he:nx es e.1 e.2)(h1:e.1<n)(h2:e.2<n):AH es n s (gO f e):=(h.half he.symm h2).half he h1
theorem AH.pass (h:AH es n s f):∀{M:List (Nat×Nat)},(∀e∈M,nx es e.1 e.2/\e.1<n/\e.2<n)->AH es n s (fL M f):=by
 intro M
 induction M generalizing f with
 |nil=>intro _;exact h
 |cons e M ih=>
  intro hM
  obtain⟨a,b,c⟩:=hM e (by simp)
  exact ih (h.step a b c) λx hx=>hM x (ar _ hx)
theorem AH.init (hs:s<n):AH es n s [(s,none)]:=by
 refine⟨rfl,by simp[ks],λk x p e=>?_,λk x e=>?_,λx hx=>?_⟩
 ·cases k with
  |zero=>cases e
  |succ k=>cases e
 ·cases k with
  |zero=>rfl
  |succ k=>cases e
 ·rw[show x=s by simpa[ks] using hx];exact hs
theorem AH.run (hs:s<n)(hL:∀e∈L,nx es e.1 e.2/\e.1<n/\e.2<n):∀t,AH es n s (eG L s t)
 |0=>AH.init hs
 |t+1=>(AH.run hs hL t).pass hL
theorem kW (f:Fd)(a b:Nat):f.length<=(half f a b).length/\((half f a b).length=f.length->half f a b=f):=by
 unfold half
 split
 ·rw[au,fm];exact⟨by omega,λh=>by omega⟩
 ·exact⟨az _,λ_=>rfl⟩
theorem aBv (f:Fd)(e:Nat×Nat):f.length<=(gO f e).length/\((gO f e).length=f.length->gO f e=f):=by
 unfold gO
 have a:=kW f e.1 e.2
 have b:=kW (half f e.1 e.2) e.2 e.1
 refine⟨by omega,λh=>?_⟩
 rw[b.2 (by omega),a.2 (by omega)]
theorem wD:∀(M:List (Nat×Nat)) (f:Fd),f.length<=(fL M f).length/\((fL M f).length=f.length->∀e∈M,gO f e=f)
 |[],f=>⟨az _,λ_ e he=>by cases he⟩
 |e :: M,f=>by
  have a:=aBv f e
  have b:=wD M (gO f e)
  have ee:fL (e :: M) f=fL M (gO f e):=rfl
  rw[ee]
  refine⟨by omega,λh=>?_⟩
  have e1:=a.2 (by omega)
  have b':=b.2 (by omega)
  rw[e1] at b'
  intro x hx
  rcases a9.mp hx with rfl | hx
  ·exact e1
  ·exact b' x hx
theorem aBU {e:Nat×Nat}(h:gO f e=f):e.1∈ks f↔e.2∈ks f:=by
 have a:=kW f e.1 e.2
 have b:=kW (half f e.1 e.2) e.2 e.1
 have hl:(half (half f e.1 e.2) e.2 e.1).length=f.length:=by rw[show half (half f e.1 e.2) e.2 e.1=f from h]
 have e1:=a.2 (by omega)
 have e2:=b.2 (by omega)
 rw[e1] at e2
 unfold half at e1 e2
 constructor
 ·intro h1
  apply c6
  intro h2
  rw[if_pos ⟨h1,h2⟩] at e1
  have:=congrArg u6 e1
  simp at this
 ·intro h1
  apply c6
  intro h2
  rw[if_pos ⟨h1,h2⟩] at e2
  have:=congrArg u6 e2
  simp at this
theorem AH.len_le (h:AH es n s f):f.length<=n:=by
 have:=lS n (ks f) h.nd h.lt
 unfold ks at this
 rwa[ai] at this
theorem AH.all (h:AH es n s f)(hl:f.length=n):∀x,x<n->x∈ks f:=by
 intro x hx
 apply c6
 intro hn
 have:=lS n (x :: ks f) (dk.mpr ⟨hn,h.nd⟩) λy hy=>by
  rcases a9.mp hy with rfl | hy
  ·exact hx
  ·exact h.lt y hy
 rw[ba] at this
 unfold ks at this
 rw[ai] at this
 omega
inductive wH (f:Fd) (s:Nat):List Nat->Prop
 |root:wH f s [s]
 |more {x p:Nat}{r:List Nat} (h:(x,some p)∈f) (c:wH f s (p :: r)):wH f s (x :: p :: r)
theorem AH.chain (h:AH es n s f):∀(m k x:Nat) (o:Option Nat),k<=m->f[k]?=some (x,o)->∃r,wH f s (x :: r)/\Way es (x :: r)/\(x :: r).Nodup/\(x :: r).getLast?=some s/\∀y∈x :: r,∃(k':Nat) (o':Option Nat),k'<=k/\f[k']?=some (y,o')
 |m,k,x,none,hm,e=>by
  obtain rfl:=h.root k x e
  rw[h.head] at e
  cases e
  exact⟨[], .root, .one _,by simp,rfl,λy hy=>⟨0,none,az _,by rw[ay.mp hy];exact h.head⟩⟩
 |0,k,x,some p,hm,e=>by
  obtain⟨⟨k',o,hk',_⟩,_⟩:=h.par k x p e
  omega
 |m+1,k,x,some p,hm,e=>by
  obtain⟨⟨k',o,hk',e'⟩,hx⟩:=h.par k x p e
  obtain⟨r,c,w,nd,la,mem⟩:=h.chain m k' p o (by omega) e'
  refine⟨p :: r, .more (a8 e) c, .more hx w,dk.mpr ⟨λhm=>?_,nd⟩,?_,λy hy=>?_⟩
  ·obtain⟨k2,o2,h2,e2⟩:=mem x hm
   have e3:(ks f)[k]?=some x:=by unfold ks;rw[bg,e];rfl
   have e4:(ks f)[k2]?=some x:=by unfold ks;rw[bg,e2];rfl
   have hk:=(ah.mp e3).1
   have hk2:=(ah.mp e4).1
   have:=gv.mp (il.mp h.nd) k2 k hk2 hk (by omega)
   apply this
   rw[ae hk] at e3
   rw[ae hk2] at e4
   rw[bu e3,bu e4]
  ·rw[kg];exact la
  ·rcases a9.mp hy with rfl | hy
   ·exact⟨k,_,az _,e⟩
   ·obtain⟨k2,o2,h2,e2⟩:=mem y hy
    exact⟨k2,o2,by omega,e2⟩
end
structure Tr (n:Nat)(us:List Nat)(es L:List (Nat×Nat)):Prop where
 gr:Gr us es
 pu:us.Perm (aj n)
 pL:L.Perm (es.map mm)
 srt:(prN L).Pairwise (λa b=>eY b a=false)
section
variable {K:aa}{n:Nat}{us:List Nat}{es L:List (Nat×Nat)}
theorem Tr.es_lt (t:Tr n us es L):∀e∈es,e.1<n/\e.2<n/\e.1≠e.2:=λe he=>by
 obtain⟨a,b,c⟩:=t.gr.mem e he
 exact⟨bb.mp (t.pu.mem_iff.mp a),bb.mp (t.pu.mem_iff.mp b),c⟩
theorem Tr.L_lt (t:Tr n us es L):∀e∈L,e.1<e.2/\e.2<n:=λe he=>by
 obtain⟨f,hf,rfl⟩:=c8.mp (t.pL.mem_iff.mp he)
 obtain⟨a,b,c⟩:=t.es_lt f hf
 show min f.1 f.2<max f.1 f.2/\max f.1 f.2<n
 omega
theorem Tr.len (t:Tr n us es L):L.length+1=n:=by
 have:=t.gr.len
 rw[t.pu.length_eq,cq] at this
 rw[t.pL.length_eq,ai]
 omega
end
def oV:Option Nat->V
 |none => .non
 |some p=>aX p
def kvF (f:Fd):List (Key×V):=f.map λe=>(.inl (e.1:Int),oV e.2)
theorem aAT {f:Fd}:(kvF f).length=f.length:=ai ..
theorem kX {x:Nat}:∀{f:Fd},(wB (kvF f) (.inl (x:Int))).isSome=decide (x∈ks f)
 |[]=>rfl
 | (y,o) :: f=>by
  by_cases e:y=x
  ·subst e
   rw[show kvF ((y,o) :: f)=(.inl (y:Int),oV o) :: kvF f from rfl,iU rfl]
   simp[ks]
  ·rw[show kvF ((y,o) :: f)=(.inl (y:Int),oV o) :: kvF f from rfl,iM (λh=>e (by have:=yk h;omega)),kX (f:=f)]
   have:(x∈ks ((y,o) :: f))↔x∈ks f:=by
    unfold ks
    rw[bx,a9]
    exact⟨λh=>h.resolve_left (λz=>e z.symm), .inr⟩
   exact decide_eq_decide.mpr this.symm
theorem aCV {x:Nat}{o:Option Nat}:∀{f:Fd},(ks f).Nodup->(x,o)∈f->wB (kvF f) (.inl (x:Int))=some (oV o)
 |[],_,h=>by cases h
 | (y,o') :: f,nd,h=>by
  rw[show kvF ((y,o') :: f)=(.inl (y:Int),oV o') :: kvF f from rfl]
  have nd':y∉ks f/\(ks f).Nodup:=dk.mp nd
  rcases a9.mp h with h | h
  ·cases h
   rw[iU rfl]
  ·have:y≠x:=λe=>nd'.1 (by rw[e];exact c8.mpr ⟨_,h,rfl⟩)
   rw[iM (λh=>this (by have:=yk h;omega)),aCV nd'.2 h]
theorem aDF {x p:Nat}{f:Fd}(h:x∉ks f):qI (kvF f) (.inl (x:Int)) (aX p)=kvF (f++[(x,some p)]):=by
 have:¬ ((kvF f).any λkv=>decide (kv.1=(.inl (x:Int):Key)))=true:=by
  intro c
  obtain⟨kv,hk,e⟩:=ni.mp c
  obtain⟨⟨y,o⟩,hy,rfl⟩:=c8.mp hk
  have e:(Sum.inl (y:Int):Key) = .inl (x:Int):=of_decide_eq_true e
  have:=yk e
  exact h (c8.mpr ⟨_,hy,by show y=x;omega⟩)
 unfold qI
 rw[if_neg this]
 unfold kvF
 rw[de]
 rfl
section
variable {K:aa}
theorem aAF {ia ib a b:Nat}{σ:St}{H:Hp}{d:Addr}{f:Fd}{D:jG}(h2:σ[2]?=some (some (.ref d)))(ha:σ[ia]?=some (some (aX a)))(hb:σ[ib]?=some (some (aX b)))(hd:H d=some (.dK (kvF f)))(hz:f.length<=20)
  (q:∀H',H' d=some (.dK (kvF (half f a b)))->SameX d H H'->D.nx σ H'):fA (aEF (tB (aGp (aD ia) (aD 2))) (tB (lP (aD ib) (aD 2)))) (aQ (aBM (aD 2) (aD ib) (aD ia)) aL) aL D σ H:=by
 refine⟨_,ha,_,h2,d,_,rfl,DGet.k (k := .inl (a:Int)) hd,_,rfl,?_⟩
 rw[kX]
 by_cases c1:a∈ks f
 ·rw[decide_eq_true c1]
  refine cF rfl ⟨_,hb,_,h2,d,_,rfl,DGet.k (k := .inl (b:Int)) hd,_,rfl,?_⟩
  rw[kX]
  by_cases c2:b∈ks f
  ·rw[decide_eq_true c2]
   refine cA rfl (q H ?_ λ_ _ _ e=>e)
   unfold half
   rw[if_neg (λh=>h.2 c2)]
   exact hd
  ·rw[decide_eq_false c2]
   refine cF rfl ?_
   refine⟨_,ha,_,h2,_,hb,d,_,rfl,DPut.k (k := .inl (b:Int)) hd (cp (show(kvF f).length<=20 by rw[aAT];exact hz) (by decide)),?_⟩
   refine q _ ?_ λc o hc e=>by rw[aR hc];exact e
   rw[aF,aDF c2]
   unfold half
   rw[if_pos ⟨c1,c2⟩]
 ·rw[decide_eq_false c1]
  refine cA rfl (cA rfl (q H ?_ λ_ _ _ e=>e))
  unfold half
  rw[if_neg (λh=>c1 h.1)]
  exact hd
def aGq (K:aa):Sp:=λvs H Q _=>∃(a:Addr) (s n:Nat) (L:List (Nat×Nat)) (ys:List V),vs=[.ref a, .int (s:Int)]/\H a=some (.lst ys)/\Rows K H ys (prN L)/\(∀e∈L,e.1<e.2/\e.2<n)/\L.length<=64/\n<=8/\s<n /\
 ∀d H',Same H H'->H' d=some (.dK (kvF (eG L s L.length)))->Q (.ref d) H'
theorem zL {L:List (Nat×Nat)}{f:Fd}{i:Nat}{e:Nat×Nat}(h:L[i]?=some e):fL (L.take (i+1)) f=gO (fL (L.take i) f) e:=by
 unfold fL
 rw[e8,h,u0]
 rfl
theorem aBy:∀vs H Q E,aGq K vs H Q E->iR K { nx:=λ_ H'=>Q .non H',rt:=Q } (bZ ["ties","start","found","turn","i","j"] vs) H:=by
 intro vs H Q E h
 obtain⟨a,s,n,L,ys,rfl,ha,hr,hL,l64,n8,hs,q⟩:=h
 have tnx:∀e∈L,nx L e.1 e.2/\e.1<n/\e.2<n:=λe he=>⟨.inl he,qf (hL e he).1 (hL e he).2,(hL e he).2⟩
 have yl:ys.length=L.length:=by rw[hr.1,bR]
 intro d hd0
 refine⟨_,rfl,aF,[(.inl (s:Int), .non)],rfl,show 1<=15 by decide,?_⟩
 show aQ _ _ _ ([some (.ref a),some (.int (s:Int)),some (.ref d),none,none,none]:St) (upd (upd H d (.dK [])) d (.dK (kvF (eG L s 0))))
 have s0:Same H (upd (upd H d (.dK [])) d (.dK (kvF (eG L s 0)))):=λb o e=>by rw[aR (aN e hd0),aR (aN e hd0)];exact e
 have g0:(upd (upd H d (.dK [])) d (.dK (kvF (eG L s 0)))) d=some (.dK (kvF (eG L s 0))):=aF
 generalize upd (upd H d (.dK [])) d (.dK (kvF (eG L s 0)))=G at *
 have na:a≠d:=aN ha hd0
 have nxt:∀{H1 H2:Hp},Same H H1->SameX d H1 H2->Same H H2:=λs1 sx b o e=>sx b o (aN e hd0) (s1 b o e)
 refine⟨_,rfl,a,ys,rfl, .inl (.of (s0 _ _ ha)),(ys.length:Int),rfl,by omega,by omega,?_⟩
 rw[dj,yl]
 refine cI (lo:=0) (n:=L.length) (λt σ' H'=>(∃x3 x4 x5,σ'=[some (.ref a),some (.int (s:Int)),some (.ref d),x3,x4,x5])/\Same H H'/\H' d=some (.dK (kvF (eG L s t)))) ⟨⟨_,_,_,rfl⟩,s0,g0⟩ (λt σ1 H1 ht ⟨⟨x3,x4,x5,e1⟩,s1,g1⟩=>?_) λσ1 H1 ⟨⟨x3,x4,x5,e1⟩,s1,g1⟩=>?_
 ·subst e1
  refine⟨_,rfl,a,rfl, .inl ⟨⟨_, .of (s1 _ _ ha)⟩,?_⟩⟩
  refine bW (K:=K) (a:=a) (xs:=ys) (λi σ' H'=>i<=ys.length/\(∃x3 x4 x5,σ'=[some (.ref a),some (.int (s:Int)),some (.ref d),x3,x4,x5])/\Same H H'/\H' d=some (.dK (kvF (fL (L.take i) (eG L s t))))) ⟨bc _,⟨_,_,_,rfl⟩,s1,g1⟩ (λi σ2 H2 _ ⟨_,_,s2,_⟩ => .of (s2 _ _ ha)) (λi x σ2 H2 hx ⟨_,⟨y3,y4,y5,e2⟩,s2,g2⟩=>?_) λσ2 H2 ⟨_,⟨y3,y4,y5,e2⟩,s2,g2⟩=>?_
  ·subst e2
   have hi:i<ys.length:=(ah.mp hx).1
   obtain⟨e,b,he,rfl,hb⟩:=fW (hr.same s2) hx
   have AHi:AH L n s (fL (L.take i) (eG L s t)):=(AH.run hs tnx t).pass λx hx=>tnx x (qu hx)
   have z1:=AHi.len_le
   have he':=tnx e (a8 he)
   have z2:=(AHi.half (a:=e.1) (b:=e.2) he'.1.symm he'.2.2).len_le
   refine⟨b,_,rfl,hb,rfl,aX e.1,[aX e.2],rfl,aX e.2,[],rfl,rfl,?_⟩
   refine aAF (ia:=4) (ib:=5) (a:=e.1) (b:=e.2) rfl rfl rfl g2 (by omega) λH3 g3 x3=>?_
   refine aAF (ia:=5) (ib:=4) (a:=e.2) (b:=e.1) rfl rfl rfl g3 (by omega) λH4 g4 x4=>?_
   exact⟨hi,⟨_,_,_,rfl⟩,nxt (nxt s2 x3) x4,by rw[zL he];exact g4⟩
  ·subst e2
   rw[yl,fh] at g2
   exact⟨⟨_,_,_,rfl⟩,s2,g2⟩
 ·subst e1
  exact⟨_,rfl,q d H1 s1 g1⟩
end
theorem aGN (n:Nat):(yU 0 (n:Int)).map V.int=(aj n).map aX:=by
 unfold yU
 rw[jc,show((n:Int) - 0).toNat=n by omega]
 refine kd λi _=>?_
 show V.int (0+(i:Int))=V.int (i:Int)
 rw[ql]
theorem vZ {α β:Type}{f:α->β}{R' R:List β}(h:R'.Perm R):∀qs:List α,R=qs.map f->∃qs':List α,qs'.Perm qs/\R'=qs'.map f:=by
 induction h with
 |nil=>exact λqs e=>⟨[],by cases qs with | nil=>exact .nil | cons _ _=>simp at e,rfl⟩
 |cons x _ ih=>
  intro qs e
  cases qs with
  |nil=>simp at e
  |cons q qs=>
   rw[bx,ig] at e
   obtain⟨qs',p,e'⟩:=ih qs e.2
   exact⟨q :: qs',p.cons q,by rw[bx,e.1,e']⟩
 |swap x y _=>
  intro qs e
  cases qs with
  |nil=>simp at e
  |cons q qs=>
   cases qs with
   |nil=>simp at e
   |cons r qs=>
    simp only[bx,ig] at e
    exact⟨r :: q :: qs, .swap q r qs,by simp only[bx];rw[e.1,e.2.1,e.2.2]⟩
 |trans _ _ ih1 ih2=>
  intro qs e
  obtain⟨q2,p2,e2⟩:=ih2 qs e
  obtain⟨q1,p1,e1⟩:=ih1 q2 e2
  exact⟨q1,p1.trans p2,e1⟩
section
variable {K:aa}
def Fl (K:aa) (H:Hp) (x:V):Prop:=(∃i:Int,x = .int i)\/∃(b:Addr) (i j:Int),x = .ref b/\SqT K H b [.int i, .int j]
theorem Fl.same {H H':Hp}{x:V}(h:Fl K H x)(s:Same H H'):Fl K H' x:=h.imp (λh=>h) λ⟨b,i,j,e,h⟩=>⟨b,i,j,e,s.tup h⟩
theorem Fl.x {H H':Hp}{x:V}{p:Addr}{ys:List V}(h:Fl K H x)(hp:H p=some (.lst ys))(s:SameX p H H'):Fl K H' x:=h.imp (λh=>h) λ⟨b,i,j,e,h⟩=>⟨b,i,j,e,wU h hp s⟩
theorem Fl.put {H:Hp}{x:V}{p:Addr}{ys:List V}{o:HO}(h:Fl K H x)(hp:H p=some (.lst ys)):Fl K (upd H p o) x:=h.imp (λh=>h) λ⟨b,i,j,e,h⟩=>⟨b,i,j,e,uF h hp⟩
theorem aDd {H:Hp}:∀{xs:List V},(∀x∈xs,Fl K H x)->∃ds,ShL K H ds xs/\kS ds<=1
 |[],_=>⟨[],rfl,bc _⟩
 |x :: xs,h=>by
  obtain⟨ds,h1,h2⟩:=aDd λy hy=>h y (ar _ hy)
  rcases h x (by simp) with⟨i,rfl⟩ | ⟨b,i,j,rfl,hb⟩
  ·exact⟨.int i :: ds,⟨_,_,rfl,rfl,h1⟩,by
    have:dep (.int i)=0:=by simp[dep]
    rw[kS,this];omega⟩
  ·refine⟨.tup [.int i, .int j] :: ds,⟨_,_,rfl,⟨b,_,rfl,hb, .int i,_,rfl,rfl, .int j,_,rfl,rfl,rfl⟩,h1⟩,?_⟩
   have:dep (.tup [.int i, .int j])=1:=by simp[dep,kS]
   rw[kS,this];omega
theorem uK {fs ls:List V}{k:Nat}(hk:k<ls.length):((fs++[ls[k]])++ls.eraseIdx k).Perm (fs++ls):=by
 rw[ez]
 refine qg _ ?_
 have e:ls=ls.take k++ls[k] :: ls.drop (k+1):=by simp
 have e2:ls.eraseIdx k=ls.take k++ls.drop (k+1):=pb _ _
 rw[e2]
 refine List.Perm.trans ?_ (List.Perm.of_eq e.symm)
 show(ls[k] :: (ls.take k++ls.drop (k+1))).Perm _
 exact vw.symm
def aFy (K:aa):Sp:=λvs H Q _=>∃(p l:Addr) (ns:List Int) (b:Addr) (os:List Nat),vs=[.ref p, .ref b]/\Pen H p l ns/\H b=some (.lst (os.map aX))/\os.length<=8/\∀(F:Addr) (ms:List Nat) H',Pen H' p l ns->SameX p H H'->H F=none->H' F=some (.lst (ms.map aX))->ms.Perm os->Q (.ref F) H'
def aAe (K:aa):Sp:=λvs H Q _=>∃(p l:Addr) (ns:List Int) (b:Addr) (os:List V),vs=[.ref p, .ref b]/\Pen H p l ns/\H b=some (.lst os)/\os.length<=60/\(∀x∈os,Fl K H x)/\∀(F:Addr) (ms:List V) H',Pen H' p l ns->SameX p H H'->H F=none->H' F=some (.lst ms)->ms.Perm os->Q (.ref F) H'
theorem aEQ:∀vs H Q E,aAe K vs H Q E->iC K fQ { nx:=λ_ H'=>Q .non H',rt:=Q } (bZ ["feed","some","left","found"] vs) H:=by
 intro vs H Q E h
 obtain⟨p,lp,ns,b,os,rfl,hP,hb,o8,hf,q⟩:=h
 refine⟨_,rfl, .inl ⟨b,_,rfl, .inl (.of hb),λl hl=>⟨show 0<=b8 by decide,λF hF=>?_⟩⟩⟩
 have s1:=aH hl (.lst (os))
 have s2:=aH hF (.lst [])
 have nl:=hP.ne hl
 have nF:=(hP.x s1).ne hF
 have hFH:=s1.free hF
 have lF:l≠F:=aN (show upd H l (.lst (os)) l=some (.lst (os)) from aF) hF
 refine⟨λm σ' H'=>∃(ls fs:List V),σ'=[some (.ref p),some (.ref b),some (.ref l),some (.ref F)]/\Pen H' p lp ns/\H' l=some (.lst (ls))/\H' F=some (.lst (fs))/\SameX p H H'/\ls.length=m/\(fs++ls).Perm os,
  ⟨os.length,os,[],rfl,hP.x (s1.trans s2),s2 _ _ aF,aF,(s1.trans s2).x,rfl,List.Perm.refl _⟩,?_⟩
 rintro m σ' H' ⟨ls,fs,rfl,hP',el,eF,sx,rfl,pm⟩
 obtain⟨kN,zN,hN,_⟩:=hP
 have eN:=hN
 have le:fs.length+ls.length=os.length:=by rw[<- pm.length_eq,au]
 refine⟨_,rfl,show 0<=b8 by decide,λpe hpe=>?_⟩
 have se:=aH hpe (.lst [])
 have hfl:∀x∈ls,Fl K (upd H' pe (.lst [])) x:=λx hx=>(hf x (pm.mem_iff.mp (cm _ hx))).x eN (sx.trans se.x)
 obtain⟨ds,hsh,hdp⟩:=aDd hfl
 refine⟨.lst ds, .lst [],by rw[dep];omega,⟨l,_,rfl, .of (se _ _ el),hsh⟩,⟨pe,[],rfl, .of aF,rfl⟩,_,rfl,?_⟩
 cases ls with
 |nil=>
  obtain rfl:ds=[]:=kl hsh.length
  refine cA (by simp[eqD,eqL]) ?_
  exact⟨_,rfl,q F fs _ (hP'.x se) (sx.trans se.x) hFH (se _ _ eF) (by rw[iu] at pm;exact pm)⟩
 |cons a ls=>
  obtain⟨d0,ds,rfl⟩:∃d0 ds',ds=d0 :: ds':=by
   cases ds with
   |nil=>cases hsh.length
   |cons d0 ds'=>exact⟨d0,ds',rfl⟩
  refine cF (by simp[eqD,eqL]) ?_
  clear hfl hsh
  have hPe:=hP'.x se
  have ele:=se _ _ el
  have eFe:=se _ _ eF
  have sxe:=sx.trans se.x
  generalize upd H' pe (.lst [])=G1 at *
  rw[ba] at le
  refine⟨λσ2 H2=>∃m',m'<(a :: ls).length/\∃(ls fs:List V),σ2=[some (.ref p),some (.ref b),some (.ref l),some (.ref F)]/\Pen H2 p lp ns/\H2 l=some (.lst (ls))/\H2 F=some (.lst (fs))/\SameX p H H2/\ls.length=m'/\(fs++ls).Perm os,λ_ _ h=>h,?_⟩
  refine⟨_,rfl, .inl ⟨rfl,_, .of eFe⟩,_,rfl, .inl ⟨rfl,_, .of ele⟩,_,rfl,_,rfl,l,_,rfl, .inl (.of ele),p,lp,ns,ls.length+1,by rw[ba];rfl,hPe,by omega,cp (show ls.length+1<=60 by omega) (by decide),λr H2 hr hP2 sx2=>?_⟩
  have el2:H2 l=some (.lst (a :: ls)):=sx2 _ _ nl.1 ele
  have eF2:H2 F=some (.lst (fs)):=sx2 _ _ nF.1 eFe
  have hr':r<(a :: ls).length:=by rw[ba];exact hr
  refine⟨l,_,_,r,(a :: ls)[r],rfl,rfl,el2,by omega,by omega,aHc hr',by rw[ae hr'],?_⟩
  refine⟨F,fs,_,rfl,rfl,by rw[aR (gh lF)];exact eF2,cp (show fs.length<=60 by omega) (by decide),?_⟩
  refine⟨ls.length,by rw[ba];omega,(a :: ls).eraseIdx r,fs++[(a :: ls)[r]],rfl,(hP2.upd nl.1 nl.2).upd nF.1 nF.2,by rw[aR lF];exact aF,by rw[aF],λc o hc e=>?_,by rw[mr hr'];rfl,(uK hr').trans pm⟩
  rw[aR (aN e hFH),aR (aN e hl)]
  exact sx2 _ _ hc (sxe _ _ hc e)
theorem aEm {vs:List V}{H:Hp}{Q:VK}{E:XK}(h:aFy K vs H Q E):aAe K vs H Q E:=by
 obtain⟨p,l,ns,b,os,e,hP,hb,h8,q⟩:=h
 refine⟨p,l,ns,b,_,e,hP,hb,by rw[ai];omega,λx hx=>?_,λF ms H' h1 h2 h3 h4 pm=>?_⟩
 ·obtain⟨i,_,rfl⟩:=c8.mp hx
  exact .inl ⟨_,rfl⟩
 ·obtain⟨ms',pm',rfl⟩:=vZ pm os rfl
  exact q F ms' H' h1 h2 h3 h4 pm'
end
section
variable {K:aa}
def aGR (K:aa):Sp:=λvs H Q _=>∃(p l:Addr) (ns:List Int) (n:Nat),vs=[.ref p, .int (n:Int)]/\Pen H p l ns/\1<=n/\n<=8/\∀tl ys us es L H',Pen H' p l ns->SameX p H H'->H tl=none->H' tl=some (.lst ys)->Rows K H' ys (prN L)->Tr n us es L->Q (.ref tl) H'
theorem aEn {a b m:Int}(h:m∈[a,b])(h2:∀k∈[a,b],m<=k):m=min a b:=by
 have h3:=h2 a (by simp)
 have h4:=h2 b (by simp)
 rcases a9.mp h with rfl | h
 ·omega
 ·have e:m=b:=ay.mp h
  omega
theorem aDZ {a b m:Int}(h:m∈[a,b])(h2:∀k∈[a,b],k<=m):m=max a b:=by
 have h3:=h2 a (by simp)
 have h4:=h2 b (by simp)
 rcases a9.mp h with rfl | h
 ·omega
 ·have e:m=b:=ay.mp h
  omega
theorem aHd:∀vs H Q E,aGR K vs H Q E->eC K fQ (aAe K) { nx:=λ_ H'=>Q .non H',rt:=Q } (bZ ["feed","many","order","found","k","pair"] vs) H:=by
 intro vs H Q E h
 obtain⟨p,l,ns,n,rfl,hP,n1,n8,q⟩:=h
 refine⟨_,rfl,_,rfl, .inl ⟨_,rfl,λpr hpr => .inr ⟨pr,0,_,rfl,aF,⟨by omega,by omega,by omega,by omega,by omega⟩,λb hb=>?_⟩⟩⟩
 rw[aGN]
 have s1:=aH hpr (.rng 0 (n:Int))
 have s2:=aH hb (.lst ((aj n).map aX))
 have s12:=s1.trans s2
 dsimp only[aO,List.cons_append,jf]
 refine aEm ⟨p,l,ns,b,aj n,rfl,hP.x s12,aF,by rw[cq];exact n8,λO ms H1 hP1 sx1 hO0 hO pm=>?_⟩
 have hm:ms.length=n:=by rw[pm.length_eq,cq]
 have ndm:ms.Nodup:=pm.nodup_iff.mpr f6
 have nO:=(hP.x s12).ne hO0
 refine⟨show 0<=b8 by decide,λF hF=>?_⟩
 have s3:=aH hF (.lst [])
 have nF:=hP1.ne hF
 have OF:O≠F:=aN hO hF
 have sxF:SameX p H (upd H1 F (.lst [])):=(s12.x.trans sx1).trans s3.x
 have hFH:∀c o,c≠p->H c=some o->c≠F:=λc o hc e=>aN ((s12.x.trans sx1) c o hc e) hF
 have m0:∃a,ms.take 1=[a]:=by
  cases ms with
  |nil=>simp at hm;omega
  |cons a ms=>exact⟨a,rfl⟩
 obtain⟨a0,ea0⟩:=m0
 refine⟨_,rfl,_,_,rfl,⟨by omega,by omega,by omega,by omega⟩,?_⟩
 rw[show((n:Int) - 1).toNat=n - 1 by omega]
 refine cI (lo:=1) (n:=n - 1) (λi σ' H'=>i<=n - 1/\(∃x4 x5,σ'=[some (.ref p),some (.int (n:Int)),some (.ref O),some (.ref F),x4,x5])/\Pen H' p l ns/\SameX p H H'/\H' O=some (.lst (ms.map aX))/\∃ys es,H' F=some (.lst ys)/\Rows K H' ys (prN (es.map mm))/\Gr (ms.take (i+1)) es) ⟨bc _,⟨_,_,rfl⟩,hP1.x s3,sxF,s3 _ _ hO,[],[],aF,Rows.nil,by rw[ea0];exact .one a0⟩ (λi σ1 H2 hi ⟨_,⟨x4,x5,e1⟩,hP2,sx2,hO2,ys,es,hF2,hR2,g2⟩=>?_) λσ1 H2 ⟨_,⟨x4,x5,e1⟩,hP2,sx2,hO2,ys,es,hF2,hR2,g2⟩=>?_
 ·subst e1
  have hi1:i+1<ms.length:=by omega
  have lel:=g2.len
  rw[fg] at lel
  have ek:(1:Int)+(i:Int)=((i+1:Nat):Int):=by omega
  show aQ _ _ _ ([some (.ref p),some (.int (n:Int)),some (.ref O),some (.ref F),some (.int ((1:Int)+(i:Int))),x5]:St) H2
  rw[ek]
  refine⟨_,rfl,_,rfl,ixL (j:=i+1) (v:=aX ms[i+1]) (.of hO2) (by rw[bg,ae hi1];rfl) ?_⟩
  refine⟨_,rfl,_,rfl,_,rfl,p,l,ns,i+1,rfl,hP2,by omega,cp (show i+1<=8 by omega) (by decide),λr H3 hr hP3 sx3=>?_⟩
  have hO3:=sx3 _ _ nO.1 hO2
  have hF3:=sx3 _ _ nF.1 hF2
  have hrl:r<ms.length:=by omega
  refine ixL (j:=r) (v:=aX ms[r]) (.of hO3) (by rw[bg,ae hrl];rfl) ⟨show 2<=b8 by decide,λpa hpa=>?_⟩
  have s4:=aH hpa (.lst [aX ms[i+1],aX ms[r]])
  have hR3:Rows K H3 ys (prN (es.map mm)):=by
   obtain⟨k,z,e,_⟩:=hP2
   exact hR2.map λb row hb=>wU hb e sx3
  refine⟨_,rfl, .inl ⟨rfl,_, .of (s4 _ _ hF3)⟩,_,rfl, .inl ⟨pa,[((ms[i+1]:Nat):Int),((ms[r]:Nat):Int)],rfl, .inl (.of aF),by simp,λm1 m1a m1b=>⟨_,rfl,pa,[((ms[i+1]:Nat):Int),((ms[r]:Nat):Int)],rfl, .inl (.of aF),by simp,λm2 m2a m2b=>⟨show 2<=b8 by decide,λu hu=>?_⟩⟩⟩⟩
  have s5:=aH hu (.tup [V.int m1, .int m2])
  have s45:=s4.trans s5
  have e12:[m1,m2]=[((mm (ms[r],ms[i+1])).1:Int),((mm (ms[r],ms[i+1])).2:Int)]:=by
   rw[aEn m1a m1b,aDZ m2a m2b]
   show _=[((min ms[r] ms[i+1]:Nat):Int),((max ms[r] ms[i+1]:Nat):Int)]
   congr 1
   ·omega
   ·congr 1
    omega
  have yl:ys.length=es.length:=by rw[hR2.1,bR,ai]
  refine⟨F,ys,_,rfl,rfl,s45 _ _ hF3,cp (show ys.length<=8 by omega) (by decide),?_⟩
  refine⟨hi,⟨_,_,rfl⟩,(hP3.x s45).upd nF.1 nF.2,λc o hc e=>?_,by rw[aR OF];exact s45 _ _ hO3,_,es++[(ms[r],ms[i+1])],aF,?_,?_⟩
  ·rw[aR (hFH c o hc e)]
   exact s45 _ _ (sx3 _ _ hc (sx2 _ _ hc e))
  ·rw[de,pK,show prN (List.map mm [(ms[r],ms[i+1])])=[[m1,m2]] by rw[e12];rfl]
   exact Rows.put (Rows.snoc (hR3.same s45) (.of aF)) (s45 _ _ hF3)
  ·rw[e8 (i:=i+1),ae hi1]
   refine .more g2 ?_ λhc=>?_
   ·exact a8 (i:=r) (by rw[ue,if_pos hr,ae hrl])
   ·rw[<- l9 (i+1) ms] at ndm
    have h2:ms[i+1]∈ms.drop (i+1):=a8 (i:=0) (by rw[ub];exact ae hi1)
    exact(gf.mp ndm).2.2 _ hc _ h2 rfl
 ·subst e1
  rw[show n - 1+1=n by omega,ji (by omega)] at g2
  have lel:=g2.len
  refine⟨_,rfl, .inr ⟨F,ys,prN (es.map mm),rfl, .inl (.of hF2),hR2,nW,by rw[bR,ai];omega,λzs R' pR srt _ hr' tl htl=>?_⟩⟩
  obtain⟨L',rfl,pL⟩:=oZ pR
  have s6:=aH htl (.lst zs)
  refine q tl zs ms es L' _ (hP2.x s6) (sx2.trans s6.x) ?_ aF (hr'.same s6) ⟨g2,pm,pL,srt⟩
  cases hq:H tl with
  |none=>rfl
  |some o=>
   by_cases c:tl=p
   ·obtain⟨k,z,e,_⟩:=hP2
    rw[c,e] at htl;cases htl
   ·have:=sx2 _ _ c hq
    rw[this] at htl;cases htl
end
end K31
namespace K31
section
variable {es L:List (Nat×Nat)}{n s:Nat}{f:Fd}
abbrev Vd (L:List (Nat×Nat)) (n:Nat):Prop:=∀e∈L,e.1<e.2/\e.2<n
theorem rH (hL:Vd L n){a b:Nat}(h:nx L a b):Q.adj L a b:=by
 rcases h with h | h
 ·have:=(hL _ h).1
  show(min a b,max a b)∈L
  rw[iz (gw this),i5 (gw this)];exact h
 ·have:=(hL _ h).1
  show(min a b,max a b)∈L
  rw[jn (gw this),j6 (gw this)];exact h
theorem aCG {a b:Nat}(h:Q.adj L a b):nx L a b:=by
 rcases qk a b with c | c
 ·unfold Q.adj at h;rw[iz c,i5 c] at h;exact .inl h
 ·unfold Q.adj at h;rw[jn c,j6 c] at h;exact .inr h
theorem yC (hL:Vd L n):∀e∈L,nx L e.1 e.2/\e.1<n/\e.2<n:=λe he=>⟨.inl he,qf (hL e he).1 (hL e he).2,(hL e he).2⟩
def ut (f:Fd):List (Nat×Nat):=f.filterMap λe=>e.2.map λp=>(p,e.1)
theorem aHa {α:Type}{l:List α}(nd:l.Nodup){i j:Nat}{x:α}(hi:l[i]?=some x)(hj:l[j]?=some x):i=j:=by
 obtain⟨h1,e1⟩:=ah.mp hi
 obtain⟨h2,e2⟩:=ah.mp hj
 rcases j5 i j with c | c | c
 ·exact absurd (e1.trans e2.symm) (gv.mp (il.mp nd) i j h1 h2 c)
 ·exact c
 ·exact absurd (e2.trans e1.symm) (gv.mp (il.mp nd) j i h2 h1 c)
theorem aDq {k x:Nat}{o:Option Nat}(h:f[k]?=some (x,o)):(ks f)[k]?=some x:=by unfold ks;rw[bg,h];rfl
theorem AH.grown (A:AH es n s f):∀k,k<f.length->Gr ((ks f).take (k+1)) (ut (f.take (k+1)))/\(ut (f.take (k+1))).length=k
 |0,h=>by
  obtain⟨f0,e0⟩:=ah.mp A.head
  match f,f0,e0 with
  |a :: g,_,e0=>
   have e0:a=(s,none):=e0
   subst e0
   exact⟨.one s,rfl⟩
 |k+1,h=>by
  obtain⟨g,gl⟩:=A.grown k (by omega)
  have ek:=ae h
  generalize hq:f[k+1]=q at ek
  obtain⟨x,o⟩:=q
  cases o with
  |none=>exact absurd (A.root (k+1) x ek) (by omega)
  |some p=>
   obtain⟨⟨k',o',hk',e'⟩,_⟩:=A.par (k+1) x p ek
   have e1:(ks f).take (k+1+1)=(ks f).take (k+1)++[x]:=by rw[e8,aDq ek];rfl
   have e2:ut (f.take (k+1+1))=ut (f.take (k+1))++[(p,x)]:=by
    rw[e8,ek]
    unfold ut
    rw[List.filterMap_append]
    rfl
   rw[e1,e2]
   refine⟨.more g ?_ ?_,by rw[au,gl];rfl⟩
   ·refine a8 (i:=k') ?_
    rw[ue,if_pos hk']
    exact aDq e'
   ·intro hm
    obtain⟨i,hi⟩:=fq.mp hm
    rw[ue] at hi
    split at hi
    ·rename_i c
     have:=aHa A.nd hi (aDq ek)
     omega
    ·cases hi
theorem AH.gr (A:AH es n s f):Gr (ks f) (ut f)/\(ut f).length+1=f.length:=by
 have f0:=(ah.mp A.head).1
 obtain⟨a,b⟩:=A.grown (f.length - 1) (by omega)
 rw[show f.length - 1+1=f.length by omega,fh] at a b
 have:(ks f).take f.length=ks f:=by rw[ji];unfold ks;rw[ai];exact az _
 rw[this] at a
 exact⟨a,by omega⟩
theorem AH.used (A:AH L n s f)(hL:Vd L n):∀e∈ut f,mm e∈L:=λe he=>by
 unfold ut at he
 obtain⟨⟨x,o⟩,hx,eo⟩:=ky.mp he
 cases o with
 |none=>cases eo
 |some p=>
  cases eo
  obtain⟨k,hk⟩:=fq.mp hx
  exact rH hL (A.par k x p hk).2.symm
theorem aDr {us:List Nat}{es:List (Nat×Nat)}(g:Gr us es):(es.map mm).Nodup:=by
 induction g with
 |one=>exact qd
 | @more vs es p c g hp hc ih=>
  rw[de]
  refine gf.mpr ⟨ih,by simp,λx hx y hy e=>?_⟩
  rw[ay.mp hy] at e
  obtain⟨d,hd,rfl⟩:=c8.mp hx
  obtain⟨h1,h2,_⟩:=g.mem d hd
  unfold mm at e
  have ea:=congrArg xo e
  have eb:=congrArg zh e
  dsimp only at ea eb
  have:c=d.1\/c=d.2:=by omega
  rcases this with e | e
  ·exact hc (e ▸ h1)
  ·exact hc (e ▸ h2)
theorem nX {α:Type}[DecidableEq α]:∀(M L:List α),M.Nodup->(∀x∈M,x∈L)->M.length<=L.length/\(M.length=L.length->L.Perm M)
 |[],L,_,_=>⟨bc _,λh=>by rw[n9.mp h.symm]⟩
 |a :: M,L,nd,h=>by
  have nd':=dk.mp nd
  have ha:=h a (by simp)
  obtain⟨i1,i2⟩:=nX M (L.erase a) nd'.2 λx hx=>(qv (λe=>nd'.1 (by rw[<- e];exact hx))).mpr (h x (ar _ hx))
  have hl:=i4 ha
  have hp:0<L.length:=ou ha
  rw[ba]
  exact⟨by omega,λe=>(mw ha).trans ((i2 (by omega)).cons a)⟩
def Stb (L:List (Nat×Nat)) (f:Fd):Prop:=∀e∈L,e.1∈ks f↔e.2∈ks f
theorem zI (hL:Vd L n)(hs:s<n):∀t,Stb L (eG L s t)\/t+1<=(eG L s t).length
 |0 => .inr (az _)
 |t+1=>by
  have p:=wD L (eG L s t)
  by_cases c:(fL L (eG L s t)).length=(eG L s t).length
  ·have st:Stb L (eG L s t):=λe he=>aBU (p.2 c e he)
   refine .inl λe he=>?_
   have eq:∀M,(∀e∈M,gO (eG L s t) e=eG L s t)->fL M (eG L s t)=eG L s t:=λM=>by
    induction M with
    |nil=>intro _;rfl
    |cons a M ih=>
     intro h
     show fL M (gO (eG L s t) a)=_
     rw[h a (by simp)]
     exact ih λx hx=>h x (ar _ hx)
   show e.1∈ks (fL L (eG L s t))↔e.2∈ks (fL L (eG L s t))
   rw[eq L (p.2 c)]
   exact st e he
  ·rcases zI hL hs t with h | h
   ·have eq:∀M,(∀e∈M,e∈L)->fL M (eG L s t)=eG L s t:=λM=>by
     induction M with
     |nil=>intro _;rfl
     |cons a M ih=>
      intro hM
      have hst:=h a (hM a (by simp))
      have e1:gO (eG L s t) a=eG L s t:=by
       have h1:half (eG L s t) a.1 a.2=eG L s t:=by
        unfold half
        rw[if_neg λz=>z.2 (hst.mp z.1)]
       have h2:half (eG L s t) a.2 a.1=eG L s t:=by
        unfold half
        rw[if_neg λz=>z.2 (hst.mpr z.1)]
       unfold gO
       rw[h1,h2]
      show fL M (gO (eG L s t) a)=_
      rw[e1]
      exact ih λx hx=>hM x (ar _ hx)
    exact absurd (by rw[eq L λ_ h=>h]) c
   ·refine .inr ?_
    show t+1+1<=(fL L (eG L s t)).length
    omega
theorem aEi (hL:Vd L n)(hs:s<n):Stb L (eG L s L.length):=by
 rcases zI hL hs L.length with h | h
 ·exact h
 have A:=AH.run hs (yC hL) L.length
 generalize eG L s L.length=f at *
 obtain⟨g,gl⟩:=A.gr
 have us:=A.used hL
 obtain⟨q1,q2⟩:=nX ((ut f).map mm) L (aDr g) λx hx=>by
  obtain⟨e,he,rfl⟩:=c8.mp hx
  exact us e he
 rw[ai] at q1 q2
 have pm:=q2 (by omega)
 intro e he
 obtain⟨d,hd,rfl⟩:=c8.mp (pm.mem_iff.mp he)
 obtain⟨h1,h2,_⟩:=g.mem d hd
 have:∀x,(x=d.1\/x=d.2)->x∈ks f:=λx h=>by rcases h with rfl | rfl <;> assumption
 exact⟨λ_=>this _ (by show max d.1 d.2=d.1\/max d.1 d.2=d.2;omega),λ_=>this _ (by show min d.1 d.2=d.1\/min d.1 d.2=d.2;omega)⟩
theorem yZ (hL:Vd L n){p:List Nat}(w:Way L p)(lt:∀x∈p,x<n):∀a z,p.head?=some a->p.getLast?=some z->Q.Cn L (aj n) a z:=by
 induction w with
 |one a=>intro x z h k;cases h;cases k;exact .refl _
 | @more a b r h w ih=>
  intro x z hx hz
  cases hx
  rw[kg] at hz
  have:=ih (λy hy=>lt y (ar _ hy)) b z rfl hz
  exact Q.Cn.trans (.step (.refl _) (bb.mpr (lt a (by simp))) (bb.mpr (lt b (by simp))) (rH hL h)) this
theorem aDn (hL:Vd L n)(hs:s<n){x:Nat}:x∈ks (eG L s L.length)↔Q.Cn L (aj n) s x:=by
 have A:=AH.run hs (yC hL) L.length
 have st:=aEi hL hs
 generalize eG L s L.length=f at *
 constructor
 ·intro h
  obtain⟨k,o,e⟩:=nQ.mp h
  obtain⟨r,_,w,_,la,mem⟩:=A.chain k k x o (az _) e
  exact(yZ hL w (λy hy=>by obtain⟨k',o',_,e'⟩:=mem y hy;exact A.lt y (nQ.mpr ⟨k',o',e'⟩)) x s rfl la).symm
 ·intro h
  induction h with
  |refl=>exact nQ.mpr ⟨0,none,A.head⟩
  | @step y z _ hy hz a ih=>
   rcases aCG a with h | h
   ·exact(st _ h).mp ih
   ·exact(st _ h).mpr ih
theorem vW (hL:Vd L n)(n1:1<=n):(eG L 0 L.length).length=n↔aEE L n:=by
 have A:=AH.run (show 0<n from n1) (yC hL) L.length
 have R:=λ{x}=>aDn (x:=x) hL (show 0<n from n1)
 generalize eG L 0 L.length=f at *
 constructor
 ·intro h x hx
  exact R.mp (A.all h x hx)
 ·intro h
  have pm:(aj n).Perm (ks f):=(gn f6 A.nd).mpr λx=>⟨λhx=>R.mpr (h x (bb.mp hx)),λhx=>bb.mpr (A.lt x hx)⟩
  have:=pm.length_eq
  unfold ks at this
  rw[cq,ai] at this
  exact this.symm
theorem aAE (hL:Vd L n)(hl:L.length+1=n)(c:aEE L n):∃us es,Gr us es/\us.Perm (aj n)/\L.Perm (es.map mm):=by
 have n1:1<=n:=by omega
 have A:=AH.run (show 0<n from n1) (yC hL) L.length
 have fl:=(vW hL n1).mpr c
 generalize eG L 0 L.length=f at *
 obtain⟨g,gl⟩:=A.gr
 have us:=A.used hL
 refine⟨ks f,ut f,g,(gn A.nd f6).mpr λx=>⟨λh=>bb.mpr (A.lt x h),λh=>A.all fl x (bb.mp h)⟩,?_⟩
 refine(nX ((ut f).map mm) L (aDr g) λx hx=>?_).2 (by rw[ai];omega)
 obtain⟨e,he,rfl⟩:=c8.mp hx
 exact us e he
structure IsT (L:List (Nat×Nat))(n:Nat):Prop where
 vd:Vd L n
 len:L.length+1=n
 cn:aEE L n
theorem aDI {us:List Nat}{es:List (Nat×Nat)}(g:Gr us es)(pu:us.Perm (aj n))(pL:L.Perm (es.map mm))(n1:1<=n):aEE L n:=λy hy=>by
 have hin:∀x,x<n->x∈us:=λx hx=>pu.mem_iff.mpr (bb.mpr hx)
 refine g.all (P:=λz=>Q.Cn L (aj n) 0 z) (λe he=>?_) 0 (hin 0 (by omega)) y (hin y hy) (.refl 0)
 obtain⟨a,b,_⟩:=g.mem e he
 have a:=pu.mem_iff.mp a
 have b:=pu.mem_iff.mp b
 have ad:Q.adj L e.1 e.2:=pL.mem_iff.mpr (r9 he)
 exact⟨λh => .step h a b ad,λh => .step h b a (Q.adj_symm ad)⟩
theorem Tr.isT {us:List Nat}{es:List (Nat×Nat)}(t:Tr n us es L)(n1:1<=n):IsT L n:=⟨t.L_lt,t.len,aDI t.gr t.pu t.pL n1⟩
theorem IsT.tr (t:IsT L n)(srt:(prN L).Pairwise (λa b=>L2.eY b a=false)):∃us es,Tr n us es L:=by
 obtain⟨us,es,g,pu,pL⟩:=aAE t.vd t.len t.cn
 exact⟨us,es,g,pu,pL,srt⟩
end
end K31
namespace K31
open L2 PySem
section
variable {T:List (List Int)}{L:List (Nat×Nat)}{n i j:Nat}
structure Pt (L:List (Nat×Nat))(n i j:Nat)(p:List Nat):Prop where
 w:Way L p
 nd:p.Nodup
 hd:p.head?=some j
 la:p.getLast?=some i
 lt:∀x∈p,x<n
def aGr (T:List (List Int)) (L:List (Nat×Nat)) (n i j:Nat):Prop:=∃p,Pt L n i j p/\∀A a b B,p=A++a :: b :: B->at2 T a b<=at2 T i j
def Bad (T:List (List Int)) (L:List (Nat×Nat)) (n i j:Nat):Prop:=∃p,Pt L n i j p/\∃A a b B,p=A++a :: b :: B/\at2 T i j<at2 T a b
theorem aCJ {C:Nat×Nat->Int}:∀{X:List (Nat×Nat)},X≠[]->∃e∈X,∀d∈X,C e<=C d
 |[],h=>absurd rfl h
 |[e],_=>⟨e,by simp,λd hd=>by rw[ay.mp hd];exact lq _⟩
 |e :: d :: X,_=>by
  obtain⟨f,hf,q⟩:=aCJ (C:=C) (X:=d :: X) (by simp)
  by_cases c:C e<=C f
  ·refine⟨e,by simp,λz hz=>?_⟩
   rcases a9.mp hz with rfl | hz
   ·exact lq _
   ·exact Int.le_trans c (q z hz)
  ·refine⟨f,ar _ hf,λz hz=>?_⟩
   rcases a9.mp hz with rfl | hz
   ·omega
   ·exact q z hz
theorem aCw {S:List Nat}{us:List Nat}{a b:Nat}(h:Q.Cn L S a b)(ha:a∈us)(hb:b∉us):∃x y,Q.adj L x y/\x∈us/\y∉us:=by
 induction h with
 |refl=>exact absurd ha hb
 | @step y z _ _ _ ad ih=>
  by_cases hy:y∈us
  ·exact⟨y,z,ad,hy,hb⟩
  ·exact ih hy
theorem aEy (sy:Sy T n){a b:Nat}(ha:a<n)(hb:b<n):at2 T (mm (a,b)).1 (mm (a,b)).2=at2 T a b:=by
 unfold mm
 rcases qk a b with c | c
 ·dsimp only;rw[iz c,i5 c]
 ·dsimp only;rw[jn c,j6 c];exact sy b a hb ha
theorem grow (sy:Sy T n)(t:IsT L n)(G:∀i j,i<j->j<n->aGr T L n i j):∀k,k<n->∃us es,Gr us es/\us.length=k+1/\(∀x∈us,x<n)/\(∀e∈es,mm e∈L) /\
  ∀m w,(wts (at2 T) es)[m]?=some w->∀x∈us.take (m+1),∀y,y<n->y∉us.take (m+1)->w<=at2 T x y
 |0,h=>⟨[0],[], .one 0,rfl,λx hx=>by rw[ay.mp hx];exact h,(λe he=>by cases he),λm w hm=>by cases hm⟩
 |k+1,h=>by
  obtain⟨us,es,g,ul,ult,uL,lw⟩:=grow sy t G k (by omega)
  have hu0:∃a,a∈us:=by
   cases us with
   |nil=>simp at ul
   |cons a us=>exact⟨a,by simp⟩
  obtain⟨a,ha⟩:=hu0
  obtain⟨y,hy,hyn⟩:∃y,y<n/\y∉us:=by
   refine c6 λc=>?_
   have:=(nX (aj n) us f6 λx hx=>c6 λz=>c ⟨x,bb.mp hx,z⟩).1
   rw[cq] at this
   omega
  obtain⟨x0,y0,ad,hx0,hy0⟩:=aCw ((t.cn a (ult a ha)).symm.trans (t.cn y hy)) ha hyn
  let cr:Nat×Nat->Bool:=λe=>decide (e.1∈us) != decide (e.2∈us)
  have hX:L.filter cr≠[]:=λz=>by
   have:(min x0 y0,max x0 y0)∈L.filter cr:=by
    refine gg.mpr ⟨ad,?_⟩
    show(decide (min x0 y0∈us) != decide (max x0 y0∈us))=true
    rcases qk x0 y0 with c | c
    ·rw[iz c,i5 c,decide_eq_true hx0,decide_eq_false hy0];rfl
    ·rw[jn c,j6 c,decide_eq_true hx0,decide_eq_false hy0];rfl
   rw[z] at this
   cases this
  obtain⟨e,he,emin⟩:=aCJ (C:=λe=>at2 T e.1 e.2) hX
  obtain⟨heL,hec⟩:=gg.mp he
  have vd:=t.vd e heL
  obtain⟨x,c,hx,hc,hmm,hcn,hxn⟩:∃x c,x∈us/\c∉us/\mm (x,c)=e/\c<n/\x<n:=by
   have hec:(decide (e.1∈us) != decide (e.2∈us))=true:=hec
   by_cases h1:e.1∈us
   ·by_cases h2:e.2∈us
    ·rw[decide_eq_true h1,decide_eq_true h2] at hec;cases hec
    ·exact⟨e.1,e.2,h1,h2,by unfold mm;dsimp only;rw[iz (by omega),i5 (by omega)],by omega,by omega⟩
   ·by_cases h2:e.2∈us
    ·exact⟨e.2,e.1,h2,h1,by unfold mm;dsimp only;rw[jn (by omega),j6 (by omega)],by omega,by omega⟩
    ·rw[decide_eq_false h1,decide_eq_false h2] at hec;cases hec
  have ecost:at2 T e.1 e.2=at2 T x c:=by rw[<- hmm];exact aEy sy hxn hcn
  have gl:=g.len
  refine⟨us++[c],es++[(x,c)], .more g hx hc,by rw[au,ul];rfl,λz hz=>?_,λd hd=>?_,λm w hm x' hx' y' hy' hn'=>?_⟩
  ·rcases bo.mp hz with hz | hz
   ·exact ult z hz
   ·rw[ay.mp hz];exact hcn
  ·rcases bo.mp hd with hd | hd
   ·exact uL d hd
   ·rw[ay.mp hd,hmm];exact heL
  ·have wl:(wts (at2 T) es).length=es.length:=by unfold wts;rw[ai]
   have we:wts (at2 T) (es++[(x,c)])=wts (at2 T) es++[at2 T x c]:=by unfold wts;rw[de];rfl
   rw[we] at hm
   by_cases hm':m<es.length
   ·rw[bh (by omega)] at hm
    rw[f7 (by omega)] at hx' hn'
    exact lw m w hm x' hx' y' hy' hn'
   ·have:m=es.length:=by
     have:=(ah.mp hm).1
     rw[au,wl] at this
     simp at this
     omega
    subst this
    rw[bj (by omega),wl,j8] at hm
    have hw:at2 T x c=w:=bu hm
    rw[f7 (by omega),ji (by omega)] at hx' hn'
    have xlt:=ult x' hx'
    have hne:x'≠y':=λe=>hn' (e ▸ hx')
    have key:∀i j,i<j->j<n->(i=x'/\j=y'\/i=y'/\j=x')->w<=at2 T i j:=λi j hij hjn hc'=>by
     obtain⟨p,P,good⟩:=G i j hij hjn
     obtain⟨A,u,v,B,hp,hcr⟩:∃A u v B,p=A++u :: v :: B/\((u∈us/\v∉us)\/(u∉us/\v∈us)):=by
      rcases hc' with⟨rfl,rfl⟩ | ⟨rfl,rfl⟩
      ·obtain⟨A,u,v,B,e1,e2,e3⟩:=uG (S:=λz=>z∉us) p j i P.hd P.la hn' (λz=>z hx')
       exact⟨A,u,v,B,e1, .inr ⟨e2,Classical.not_not.mp e3⟩⟩
      ·obtain⟨A,u,v,B,e1,e2,e3⟩:=uG (S:=λz=>z∈us) p j i P.hd P.la hx' hn'
       exact⟨A,u,v,B,e1, .inl ⟨e2,e3⟩⟩
     have hu:u<n:=P.lt u (by rw[hp];simp)
     have hv:v<n:=P.lt v (by rw[hp];simp)
     have ad:Q.adj L u v:=rH t.vd (by have:=P.w;rw[hp] at this;exact this.at)
     have inX:mm (u,v)∈L.filter cr:=by
      refine gg.mpr ⟨ad,?_⟩
      show(decide (min u v∈us) != decide (max u v∈us))=true
      rcases qk u v with c | c
      ·rw[iz c,i5 c]
       rcases hcr with⟨h1,h2⟩ | ⟨h1,h2⟩
       ·rw[decide_eq_true h1,decide_eq_false h2];rfl
       ·rw[decide_eq_false h1,decide_eq_true h2];rfl
      ·rw[jn c,j6 c]
       rcases hcr with⟨h1,h2⟩ | ⟨h1,h2⟩
       ·rw[decide_eq_true h1,decide_eq_false h2];rfl
       ·rw[decide_eq_false h1,decide_eq_true h2];rfl
     have m1:=emin _ inX
     have m2:=aEy sy hu hv
     have m3:=good A u v B hp
     omega
    rcases j5 x' y' with c1 | c1 | c1
    ·exact key x' y' c1 hy' (.inl ⟨rfl,rfl⟩)
    ·exact absurd c1 hne
    ·rw[sy x' y' xlt hy']
     exact key y' x' c1 xlt (.inr ⟨rfl,rfl⟩)
theorem xI (sy:Sy T n)(t:IsT L n)(G:∀i j,i<j->j<n->aGr T L n i j):∃us es,Gr us es/\us.Perm (aj n)/\L.Perm (es.map mm)/\aBF (at2 T) us (wts (at2 T) es):=by
 have tl:=t.len
 obtain⟨us,es,g,ul,ult,uL,lw⟩:=grow sy t G (n - 1) (by omega)
 have gl:=g.len
 have pu:(aj n).Perm us:=(nX us (aj n) g.nd λx hx=>bb.mpr (ult x hx)).2 (by rw[cq];omega)
 refine⟨us,es,g,pu.symm,(nX (es.map mm) L (aDr g) λx hx=>?_).2 (by rw[ai];omega),λk w hk x hx y hy=>lw k w hk x hx y ?_ ?_⟩
 ·obtain⟨e,he,rfl⟩:=c8.mp hx
  exact uL e he
 ·exact ult y (xw hy)
 ·intro hm
  have nd:=g.nd
  rw[<- l9 (k+1) us] at nd
  exact(gf.mp nd).2.2 y hm y hy rfl
theorem vY:∀{A:List Nat}{a:Nat}{R:List Nat},Way L (A++a :: R)->Way L (A++[a])
 |[],_,_,_ => .one _
 |[_],_,_, .more h _ => .more h (.one _)
 |_ :: b :: A,_,_, .more h w => .more h (vY (A:=b :: A) w)
theorem sN:∀{A:List Nat}{b:Nat}{B:List Nat},Way L (A++b :: B)->Way L (b :: B)
 |[],_,_,w=>w
 |[_],_,_, .more _ w=>w
 |_ :: c :: A,_,_, .more _ w=>sN (A:=c :: A) w
theorem aAK {L':List (Nat×Nat)}{m:Nat×Nat}(hL:Vd L n)(hs:∀e∈L,e≠m->e∈L'){p:List Nat}(w:Way L p):(∀A x y B,p=A++x :: y :: B->mm (x,y)≠m)->Way L' p:=by
 induction w with
 |one a=>intro _;exact .one a
 | @more a b r h w ih=>
  intro av
  refine .more ?_ (ih λA x y B e=>av (a :: A) x y B (by rw[e];rfl))
  have ad:mm (a,b)∈L:=rH hL h
  exact aCG (hs _ ad (av [] a b r rfl))
theorem xN {m:Nat×Nat}(h:m∈L):tH T L=at2 T m.1 m.2+tH T (L.erase m):=by
 have:=lA ((mw h).map λe:Nat×Nat=>at2 T e.1 e.2)
 unfold tH
 rw[this,bx,i9]
theorem aCk (sy:Sy T n)(t:IsT L n)(hij:i<j)(hjn:j<n)(b:Bad T L n i j):∃us es,Gr us es/\us.Perm (aj n)/\(wts (at2 T) es).sum<tH T L:=by
 obtain⟨p,P,A,a,b,B,hp,hlt⟩:=b
 have ha:a<n:=P.lt a (by rw[hp];simp)
 have hb:b<n:=P.lt b (by rw[hp];simp)
 have nd:=P.nd
 rw[hp,show A++a :: b :: B=(A++[a])++(b :: B) by simp] at nd
 obtain⟨_,_,dis⟩:=gf.mp nd
 have w:=P.w
 rw[hp] at w
 have adm:mm (a,b)∈L:=rH t.vd w.at
 have hm:∀e∈L,e≠mm (a,b)->e∈(i,j) :: L.erase (mm (a,b)):=λe he hne=>ar _ ((qv hne).mpr he)
 have vd':Vd ((i,j) :: L.erase (mm (a,b))) n:=λe he=>by
  rcases a9.mp he with rfl | he
  ·exact⟨hij,hjn⟩
  ·exact t.vd e (xi he)
 have tl:=t.len
 have hpos:0<L.length:=ou adm
 have len':((i,j) :: L.erase (mm (a,b))).length+1=n:=by rw[ba,i4 adm];omega
 have mmne:∀x y,(x≠b/\y≠b)\/(x≠a/\y≠a)->mm (x,y)≠mm (a,b):=λx y h e=>by
  unfold mm at e
  have e1:=congrArg xo e
  have e2:=congrArg zh e
  dsimp only at e1 e2
  omega
 have hL:Way ((i,j) :: L.erase (mm (a,b))) (A++[a]):=aAK t.vd hm (vY w) λA' x y B' e=>mmne x y (.inl ⟨λz=>dis x (by rw[e];simp) b (by simp) z,λz=>dis y (by rw[e];simp) b (by simp) z⟩)
 have hR:Way ((i,j) :: L.erase (mm (a,b))) (b :: B):=aAK t.vd hm (sN (A:=A++[a]) (by rw[ez];exact w)) λA' x y B' e=>mmne x y (.inr ⟨λz=>dis a (by simp) x (by rw[e];simp) z.symm,λz=>dis a (by simp) y (by rw[e];simp) z.symm⟩)
 have hd:(A++[a]).head?=some j:=by
  have:=P.hd
  rw[hp] at this
  cases A with
  |nil=>exact this
  |cons c A=>exact this
 have la:(b :: B).getLast?=some i:=by
  have:=P.la
  rw[hp,show A++a :: b :: B=(A++[a])++(b :: B) by simp,yb] at this
  cases hq:(b :: B).getLast? with
  |none=>simp at hq
  |some z=>rw[hq] at this;exact this
 have c1:=yZ vd' hL (λx hx=>P.lt x (by rw[hp];rcases bo.mp hx with h | h;simp[h];rw[ay.mp h];simp)) j a hd (by simp)
 have c2:=yZ vd' hR (λx hx=>P.lt x (by rw[hp];rcases a9.mp hx with rfl | h;simp;simp[h])) b i rfl la
 have c3:Q.Cn ((i,j) :: L.erase (mm (a,b))) (aj n) i j := .step (.refl _) (bb.mpr (by omega)) (bb.mpr hjn) (by show(min i j,max i j)∈_;rw[iz (by omega),i5 (by omega)];simp)
 have cab:Q.Cn ((i,j) :: L.erase (mm (a,b))) (aj n) a b:=(c1.symm.trans c3.symm).trans c2.symm
 have up:∀{x y},Q.Cn L (aj n) x y->Q.Cn ((i,j) :: L.erase (mm (a,b))) (aj n) x y:=λ{x y} h=>by
  induction h with
  |refl=>exact .refl _
  | @step y z _ hy hz ad ih=>
   refine ih.trans ?_
   by_cases e:mm (y,z)=mm (a,b)
   ·have e1:=congrArg xo e
    have e2:=congrArg zh e
    unfold mm at e1 e2
    dsimp only at e1 e2
    rcases(show(y=a/\z=b)\/(y=b/\z=a) by omega) with⟨rfl,rfl⟩ | ⟨rfl,rfl⟩
    ·exact cab
    ·exact cab.symm
   ·exact .step (.refl _) hy hz (hm _ ad e)
 obtain⟨us,es,g,pu,pL⟩:=aAE vd' len' λx hx=>up (t.cn x hx)
 refine⟨us,es,g,pu,?_⟩
 have e1:=rG sy (es:=es) λe he=>⟨bb.mp (pu.mem_iff.mp (g.mem e he).1),bb.mp (pu.mem_iff.mp (g.mem e he).2.1)⟩
 have e2:tH T ((i,j) :: L.erase (mm (a,b)))=tH T (es.map mm):=lA (pL.map _)
 have e3:tH T ((i,j) :: L.erase (mm (a,b)))=at2 T i j+tH T (L.erase (mm (a,b))):=by unfold tH;rw[bx,i9]
 have e4:=xN (T:=T) adm
 have e5:=aEy sy ha hb
 omega
end
end K31
namespace K31
open PySem L2
abbrev Srt (R:List (List Int)):Prop:=R.Pairwise (λa b=>eY b a=false)
def vP (e:Nat×Nat):Dt := .tup [.int (e.1:Int), .int (e.2:Int)]
theorem pB (L:List (Nat×Nat)):L.map vP=(prN L).map λr=>Dt.tup (r.map Dt.int):=by unfold prN;rw[jc];rfl
theorem lG:∀R S:List (List Int),eqL (R.map λr=>Dt.tup (r.map Dt.int)) (S.map λr=>Dt.tup (r.map Dt.int))=decide (R=S)
 |[],[]=>by unfold eqL;rfl
 |[],s :: S=>by simp[eqL]
 |r :: R,[]=>by simp[eqL]
 |r :: R,s :: S=>by
  rw[bx,bx,eqL,eqD,gJ,lG R S]
  by_cases h1:r=s <;> by_cases h2:R=S <;> simp[h1,h2]
theorem yX:∀{L M:List (Nat×Nat)},prN L=prN M->L=M
 |[],[],_=>rfl
 |[],_ :: _,h=>by simp[prN] at h
 |_ :: _,[],h=>by simp[prN] at h
 |a :: L,b :: M,h=>by
  unfold prN at h
  simp only[bx,ig,and_true] at h
  obtain⟨⟨h1,h2⟩,h3⟩:=h
  rw[yX (L:=L) (M:=M) h3,show a=b from xk (by omega) (by omega)]
theorem vV {L M:List (Nat×Nat)}(h:L.map vP=M.map vP):L=M:=by
 refine yX ?_
 have:=congrArg (λx=>eqL x (M.map vP)) h
 simp only[pB,lG,decide_true,decide_eq_true_iff] at this
 exact this
theorem sD {m:Nat}{d:Dt}:lQ m d↔∃e:Nat×Nat,d=vP e/\e.1<e.2/\e.2<m:=⟨λ⟨i,j,h⟩=>⟨(i,j),h⟩,λ⟨e,h⟩=>⟨e.1,e.2,h⟩⟩
theorem uB {m:Nat}:∀{ds:List Dt},(∀d∈ds,lQ m d)->∃L:List (Nat×Nat),ds=L.map vP/\Vd L m
 |[],_=>⟨[],rfl,λe he=>by cases he⟩
 |d :: ds,h=>by
  obtain⟨q,rfl,hq⟩:=sD.mp (h d (by simp))
  obtain⟨qs,rfl,hqs⟩:=uB λe he=>h e (ar _ he)
  refine⟨q :: qs,rfl,λp hp=>?_⟩
  rcases a9.mp hp with rfl | hp
  ·exact hq
  ·exact hqs p hp
def TrD (n:Nat) (ds:List Dt):Prop:=∃L:List (Nat×Nat),ds=L.map vP/\IsT L n/\Srt (prN L)
theorem mB {n:Nat}{L:List (Nat×Nat)}:TrD n (L.map vP)↔IsT L n/\Srt (prN L):=by
 constructor
 ·rintro⟨M,e,h⟩
  rw[vV e];exact h
 ·exact λh=>⟨L,rfl,h⟩
theorem TrD.ties {n:Nat}{ds:List Dt}(h:TrD n ds):∀d∈ds,lQ n d:=by
 obtain⟨L,rfl,t,_⟩:=h
 intro d hd
 obtain⟨e,he,rfl⟩:=c8.mp hd
 exact sD.mpr ⟨e,rfl,t.vd e he⟩
theorem TrD.len {n:Nat}{ds:List Dt}(h:TrD n ds):ds.length+1=n:=by
 obtain⟨L,rfl,t,_⟩:=h
 rw[ai];exact t.len
theorem mO {R R':List (List Int)}(h:R'.Perm R)(a:Srt R)(b:Srt R'):R'=R:=h.eq_of_pairwise (λx y _ _ p q=>qD q p) b a
section
variable {K:aa}
structure Thg (K:aa)(H:Hp)(t:Addr)(ds:List Dt)(xs:List V):Prop where
 at_:H t=some (.lst xs)
 sh:ShL K H ds xs
 thin:∀d∈ds,thin d=true
 le:ds.length<=60
theorem Thg.same {H H':Hp}{t:Addr}{ds:List Dt}{xs:List V}(h:Thg K H t ds xs)(s:Same H H'):Thg K H' t ds xs:=⟨s _ _ h.at_,h.sh.same s,h.thin,h.le⟩
theorem Thg.len {H:Hp}{t:Addr}{ds:List Dt}{xs:List V}(h:Thg K H t ds xs):ds.length=xs.length:=h.sh.length
theorem Thg.rows {H:Hp}{t:Addr}{L:List (Nat×Nat)}{xs:List V}(h:Thg K H t (L.map vP) xs):Rows K H xs (prN L):=by
 have:=h.sh
 rw[pB] at this
 exact ShL.rows this
theorem uU {H:Hp}{t:Addr}{L:List (Nat×Nat)}{xs:List V}(h:H t=some (.lst xs))(r:Rows K H xs (prN L))(z:L.length<=60):Thg K H t (L.map vP) xs:=by
 refine⟨h,by rw[pB];exact ShL.of_rows r.1 r.2,λd hd=>?_,by rw[ai];exact z⟩
 obtain⟨e,_,rfl⟩:=c8.mp hd
 rfl
theorem aBd:∀vs H Q E,spW K vs H Q E->iT K { nx:=λ_ H'=>Q .non H',rt:=Q } (bZ ["thing"] vs) H:=vK
theorem aDz:∀vs H Q E,aBL K vs H Q E->gP K (spW K) { nx:=λ_ H'=>Q .non H',rt:=Q } (bZ ["many","thing"] vs) H:=by
 intro vs H Q E h
 obtain⟨m,x,d,rfl,hx,th,q⟩:=h
 have no:∀H',Same H H'->¬ lQ m d->Q (.bl false) H':=λH' s' g=>q false ⟨(λz=>by cases z),λz=>absurd z g⟩ H' s'
 refine⟨_,rfl,x,d,"tuple",rfl, .inr (.inr (.inl rfl)),hx,_,rfl,?_⟩
 cases d with
 |tup ds=>
  refine cA rfl ?_
  obtain⟨b,xs,rfl,hb,hL⟩:=id hx
  refine⟨_,rfl,b,xs,rfl, .inr hb, .int _, .int _,bc _,rfl,rfl,_,rfl,?_⟩
  have hl:ds.length=xs.length:=hL.length
  rw[jL]
  by_cases c2:xs.length=2
  ·refine cA (by rw[decide_eq_true (by omega)];rfl) ?_
   obtain⟨d0,d1,rfl⟩:∃d0 d1,ds=[d0,d1]:=by
    have c:ds.length=2:=by omega
    clear hx hL th q no hl c2
    match ds,c with
    |[a,b],_=>exact⟨a,b,rfl⟩
   ·
    obtain⟨x0,t0,rfl,h0,x1,t1,rfl,h1,rfl⟩:=hL
    refine⟨_,rfl,ixT (j:=0) hb rfl ⟨x0,d0,rfl,h0,λH1 s1=>⟨_,rfl,?_⟩⟩⟩
    cases hw0:whD d0 with
    |false=>
     refine cF rfl (no H1 s1 ?_)
     rintro⟨i,j,e,_⟩
     simp only[Dt.tup.injEq,ig,and_true] at e
     rw[e.1] at hw0
     cases hw0
    |true=>
    obtain⟨i,rfl⟩:∃l,d0 = .int l:=by cases d0 <;> first | exact⟨_,rfl⟩ | cases hw0
    obtain rfl:x0 = .int i:=h0
    refine cA rfl ⟨_,rfl,ixT (j:=1) (s1.tup hb) rfl ⟨x1,d1,rfl,h1.same s1,λH2 s2=>⟨_,rfl,?_⟩⟩⟩
    have m2:=s1.trans s2
    cases hw1:whD d1 with
    |false=>
     refine cF rfl (no H2 m2 ?_)
     rintro⟨i,j,e,_⟩
     simp only[Dt.tup.injEq,ig,and_true] at e
     rw[e.2] at hw1
     cases hw1
    |true=>
    obtain⟨j,rfl⟩:∃l,d1 = .int l:=by cases d1 <;> first | exact⟨_,rfl⟩ | cases hw1
    obtain rfl:x1 = .int j:=h1
    have nt:¬ (0<=i/\i<j/\j<(m:Int))->¬ lQ m (.tup [.int i, .int j]):=λg=>by
     rintro⟨i',j',e,h1,h2⟩
     simp only[Dt.tup.injEq,ig,Dt.int.injEq,and_true] at e
     omega
    have hb2:=m2.tup hb
    refine cA rfl ⟨_,rfl,ixT (j:=0) hb2 rfl ⟨_,_,rfl,rfl,_,rfl,?_⟩⟩
    by_cases ci:0<=i
    ·refine cF (decide_eq_true ci) ⟨_,rfl,ixT (j:=1) hb2 rfl ⟨_,_,rfl,rfl,_,rfl,?_⟩⟩
     by_cases cj:i<j
     ·refine cF (decide_eq_true cj) ⟨_,rfl,_,_,rfl,rfl,q _ ?_ H2 m2⟩
      rw[decide_eq_true_iff]
      constructor
      ·intro h
       exact⟨i.toNat,j.toNat,by rw[nq ci,nq (by omega)],by omega,by omega⟩
      ·rintro⟨i',j',e,h1,h2⟩
       simp only[Dt.tup.injEq,ig,Dt.int.injEq,and_true] at e
       omega
     ·exact cA (decide_eq_false cj) (no H2 m2 (nt (by omega)))
    ·exact cA (decide_eq_false ci) (no H2 m2 (nt (by omega)))
  ·refine cF (by rw[decide_eq_false (by omega)];rfl) (no H (Same.refl _) ?_)
   rintro⟨i,j,e,_⟩
   simp only[Dt.tup.injEq] at e
   rw[e] at hl
   exact c2 hl.symm
 |_=>exact cF rfl (no H (Same.refl _) λ⟨i,j,e,_⟩=>by cases e)
end
section
variable {K:aa}
def aFN (K:aa):Sp:=λvs H Q _=>∃(n:Nat) (t:Addr) (ds:List Dt) (xs:List V),vs=[.int (n:Int), .ref t]/\Thg K H t ds xs/\1<=n/\n<=8/\∀b,(b=true↔TrD n ds)->∀H',Same H H'->Q (.bl b) H'
theorem aCi:∀vs H Q E,aFN K vs H Q E->qP K (aBL K) (K31.Q.spParts K) { nx:=λ_ H'=>Q .non H',rt:=Q } (bZ ["many","ties"] vs) H:=by
 intro vs H Q E h
 obtain⟨n,t,ds,xs,rfl,ht,n1,n8,q⟩:=h
 have no:∀H',Same H H'->¬ TrD n ds->Q (.bl false) H':=λH' s' g=>q false ⟨(λz=>by cases z),λz=>absurd z g⟩ H' s'
 have hl:=ht.len
 have h60:=ht.le
 refine⟨_,rfl,t,rfl, .inl ⟨⟨_, .of ht.at_⟩,λA hA=>?_⟩⟩
 refine iH (K:=K) (a:=t) (vars:=[0]) (xs:=xs) (λi ys H'=>∃bs:List Bool,ys=bs.map V.bl/\bs.length=i/\∀(j:Nat) (e:Dt) (b:Bool),ds[j]?=some e->bs[j]?=some b->(b=true↔lQ n e)) (by decide) (by show 0<2;decide) ⟨[],rfl,rfl,λj d b _ hb=>by simp at hb⟩ hA (λi ys H' sm _=>sm.seq (.of ht.at_)) (λi y σ1 H1 ys D1 hy l1 ag s0 sm ha1 ⟨bs,hb1,bl,hb⟩ hD=>?_) λσ1 H1 ys sm ha1 ⟨bs,hb1,bl,hb⟩=>?_
 ·have hi:i<ds.length:=by rw[hl];exact(ah.mp hy).1
  have t1:σ1[1]?=some (some (.int (n:Int))):=(ag 1 (by decide)).trans rfl
  obtain⟨y',hy',sy⟩:=ht.sh.get (j:=i) (d:=ds[i]) (ae hi)
  rw[hy] at hy'
  cases hy'
  refine⟨_,t1,_,s0,n,y,ds[i],rfl,sy.same sm,ht.thin _ (dg hi),λb hbg H2 s2=>⟨ys,s2 _ _ ha1,?_,hD σ1 _ _ l1 ag (gC hA (sm.trans s2)) aF ⟨bs++[b],by rw[hb1,de];rfl,by rw[au,bl];rfl,λj e b' he hb'=>?_⟩⟩⟩
  ·rw[hb1,ai,bl];exact cp (show i<=60 by omega) (by decide)
  ·by_cases c:j<i
   ·rw[bh (by omega)] at hb'
    exact hb j e b' he hb'
   ·have hj:j<(bs++[b]).length:=(ah.mp hb').1
    obtain rfl:j=i:=by rw[au,bl] at hj;simp at hj;omega
    rw[bj (by omega),bl,j8] at hb'
    cases hb'
    rw[ae hi] at he
    cases he
    exact hbg
 ·rw[<- hl] at bl
  refine⟨A,bs,rfl, .inl (.of (by rw[ha1,hb1])),_,rfl,?_⟩
  by_cases cg:∀e∈ds,lQ n e
  ·have call:bs.all id=true:=e7.mpr λb hbm=>by
    obtain⟨j,hj,e⟩:=dq hbm
    have hj':j<ds.length:=by omega
    exact(hb j ds[j] b (ae hj') (by rw[ae hj,e])).mpr (cg _ (dg hj'))
   refine cA (by rw[call];rfl) ?_
   obtain⟨L,rfl,hok⟩:=uB cg
   have ht1:=ht.same sm
   have hr1:=ht1.rows
   rw[ai] at hl h60
   refine⟨_,rfl,t,xs,rfl, .inl (.of ht1.at_),_,rfl,_,_,rfl,rfl, .int (xs.length:Int), .int ((n:Int) - 1),bc _,rfl,rfl,_,rfl,?_⟩
   rw[jL]
   by_cases cl:L.length+1=n
   ·refine cA (by rw[decide_eq_true (by omega)];rfl) ?_
    refine⟨_,rfl, .inr ⟨t,xs,prN L,rfl, .inl (.of ht1.at_),hr1,nW,by rw[bR];omega,λzs R' pR srt _ hr' tl htl=>?_⟩⟩
    have s2:=aH htl (.lst zs)
    refine⟨_,rfl,_,_,qW _,(hr'.same s2).sh (.of aF),(hr1.same s2).sh (.of (s2 _ _ ht1.at_)),_,rfl,?_⟩
    rw[eqD,lG]
    by_cases cs:Srt (prN L)
    ·refine cA (by rw[decide_eq_true (mO pR cs srt)];rfl) ?_
     refine⟨_,rfl, .inl ⟨_,rfl,λpr hpr => .inr ⟨pr,0,_,rfl,aF,⟨by omega,by omega,by omega,by omega,by omega⟩,λF hF=>?_⟩⟩⟩
     rw[aGN]
     have s3:=aH hpr (.rng 0 (n:Int))
     have s4:=aH hF (.lst ((aj n).map aX))
     have s14:=(s2.trans s3).trans s4
     refine⟨_,rfl,F,t,aj n,xs,L,rfl, .of aF,⟨s14 _ _ ht1.at_,hr1.same s14⟩,f6,by rw[cq];omega,by omega,λe he=>(hok e he).1,λb zs H5 s5 hb hz=>?_⟩
     refine⟨b,zs,rfl, .inl (.of hb), .int (zs.length:Int), .int 1,bc _,rfl,rfl,q _ ?_ H5 ((sm.trans s14).trans s5)⟩
     rw[mD,decide_eq_true_iff,mB,hz]
     have hc:=aAg (L:=L) (n:=n) (k:=14) n1 (by omega)
     constructor
     ·intro h
      exact⟨⟨hok,cl,hc.mp (by omega)⟩,cs⟩
     ·rintro⟨z,_⟩
      rw[hc.mpr z.cn];rfl
    ·refine cF (by rw[decide_eq_false λe=>cs (by rw[<- e];exact srt)];rfl) (no _ (sm.trans s2) λg=>cs (mB.mp g).2)
   ·refine cF (by rw[decide_eq_false (by omega)];rfl) (no _ sm λg=>cl (mB.mp g).1.len)
  ·have call:bs.all id=false:=Bool.eq_false_iff.mpr λh=>cg λe he=>by
    obtain⟨j,hj,e'⟩:=dq he
    have hj':j<bs.length:=by omega
    exact(hb j e bs[j] (by rw[ae hj,e']) (ae hj')).mp (e7.mp h _ (dg hj'))
   exact cF (by rw[call];rfl) (no H1 sm λg=>cg g.ties)
theorem aCe:∀vs H Q E,aFN K vs H Q E->gA K (aGq K) (aBL K) { nx:=λ_ H'=>Q .non H',rt:=Q } (bZ ["many","ties","tie"] vs) H:=by
 intro vs H Q E h
 obtain⟨n,t,ds,xs,rfl,ht,n1,n8,q⟩:=h
 have no:∀H',Same H H'->¬ TrD n ds->Q (.bl false) H':=λH' s' g=>q false ⟨(λz=>by cases z),λz=>absurd z g⟩ H' s'
 have hl:=ht.len
 have h60:=ht.le
 refine⟨_,rfl, .ref t, .lst ds,"list",rfl,by decide,⟨t,xs,rfl, .of ht.at_,ht.sh⟩,_,rfl,cA rfl ?_⟩
 refine⟨_,rfl,t,xs,rfl, .inl (.of ht.at_),_,rfl,_,_,rfl,rfl, .int (xs.length:Int), .int ((n:Int) - 1),bc _,rfl,rfl,_,rfl,?_⟩
 rw[jL]
 by_cases cl:ds.length+1=n
 ·refine cA (by rw[decide_eq_true (by omega)];rfl) ?_
  refine⟨_,rfl,t,rfl, .inl ⟨⟨_, .of ht.at_⟩,?_⟩⟩
  refine bW (K:=K) (a:=t) (xs:=xs) (λi σ' H'=>i<=xs.length/\(∃x2,σ'=[some (.int (n:Int)),some (.ref t),x2])/\Same H H'/\∀(j:Nat) (e:Dt),j<i->ds[j]?=some e->lQ n e) ⟨bc _,⟨_,rfl⟩,Same.refl _,λj e hj=>by omega⟩ (λi σ2 H2 _ ⟨_,_,s2,_⟩ => .of (s2 _ _ ht.at_)) (λi y σ2 H2 hy ⟨_,⟨x2,e2⟩,s2,hd⟩=>?_) λσ2 H2 ⟨_,⟨x2,e2⟩,s2,hd⟩=>?_
  ·subst e2
   have hi:i<ds.length:=by rw[hl];exact(ah.mp hy).1
   obtain⟨y',hy',sy⟩:=ht.sh.get (j:=i) (d:=ds[i]) (ae hi)
   rw[hy] at hy'
   cases hy'
   refine⟨_,rfl,_,rfl,n,y,ds[i],rfl,sy.same s2,ht.thin _ (dg hi),λb hb H3 s3=>⟨_,rfl,?_⟩⟩
   cases b with
   |false=>exact cF rfl (no H3 (s2.trans s3) λz=>by cases hb.mpr (z.ties _ (dg hi)))
   |true=>exact cA rfl ⟨by omega,⟨_,rfl⟩,s2.trans s3,λj e hj he=>by
     by_cases c:j<i
     ·exact hd j e c he
     ·obtain rfl:j=i:=by omega
      rw[ae hi] at he
      cases he
      exact hb.mp rfl⟩
  ·subst e2
   have cg:∀e∈ds,lQ n e:=λe he=>by
    obtain⟨j,hj,rfl⟩:=dq he
    exact hd j _ (by omega) (ae hj)
   obtain⟨L,rfl,hok⟩:=uB cg
   have ht1:=ht.same s2
   have hr1:=ht1.rows
   rw[ai] at hl h60 cl
   refine⟨_,rfl,_,rfl, .inr ⟨t,xs,prN L,rfl, .inl (.of ht1.at_),hr1,nW,by rw[bR];omega,λzs R' pR srt _ hr' tl htl=>?_⟩⟩
   have s3:=aH htl (.lst zs)
   refine⟨_,_,qW (prN L),(hr1.same s3).sh (.of (s3 _ _ ht1.at_)),(hr'.same s3).sh (.of aF),_,rfl,?_⟩
   rw[eqD,lG]
   by_cases cs:Srt (prN L)
   ·refine cF (decide_eq_true (mO pR cs srt).symm) ?_
    have ht3:=ht1.same s3
    refine⟨_,rfl,t,0,n,L,xs,rfl,ht3.at_,ht3.rows,hok,by omega,n8,by omega,λd H4 s4 hd=>?_⟩
    refine⟨d,_,rfl,hd,_,rfl, .int _, .int _,bc _,rfl,rfl,q _ ?_ H4 ((s2.trans s3).trans s4)⟩
    rw[aAT,mD,decide_eq_true_iff,mB]
    have hc:=vW (L:=L) (n:=n) hok n1
    constructor
    ·intro h
     exact⟨⟨hok,cl,hc.mp (by omega)⟩,cs⟩
    ·rintro⟨z,_⟩
     rw[hc.mpr z.cn]
   ·exact cA (decide_eq_false λe=>cs (by rw[e];exact srt)) (no _ (s2.trans s3) λg=>cs (mB.mp g).2)
 ·exact cF (by rw[decide_eq_false (by omega)];rfl) (no _ (Same.refl _) λg=>cl g.len)
end
section
variable {T:List (List Int)}{L:List (Nat×Nat)}{n:Nat}
def Lt (T:List (List Int)) (L:List (Nat×Nat)) (n:Nat):Prop:=∀us es,Gr us es->us.Perm (aj n)->tH T L<=(wts (at2 T) es).sum
theorem qV {A B:List (Nat×Nat)}(h:A.Perm B):tH T A=tH T B:=lA (h.map _)
theorem aFf {us:List Nat}{es:List (Nat×Nat)}(g:Gr us es)(pu:us.Perm (aj n)):∀e∈es,e.1<n/\e.2<n:=λe he=>by
 obtain⟨a,b,_⟩:=g.mem e he
 exact⟨bb.mp (pu.mem_iff.mp a),bb.mp (pu.mem_iff.mp b)⟩
theorem wK (sy:Sy T n)(t:IsT L n)(G:∀i j,i<j->j<n->aGr T L n i j):Lt T L n:=λus' es' g' p'=>by
 obtain⟨us,es,g,p,pL,le⟩:=xI sy t G
 rw[qV pL,rG sy (aFf g p)]
 exact tU sy g le p g' p'
theorem pS (sy:Sy T n)(t:IsT L n){i j:Nat}(hij:i<j)(hjn:j<n)(b:Bad T L n i j):¬ Lt T L n:=λh=>by
 obtain⟨us,es,g,p,lt⟩:=aCk sy t hij hjn b
 have:=h us es g p
 omega
theorem xA (sy:Sy T n)(t:IsT L n)(srt:Srt (prN L)){us:List Nat}{es:List (Nat×Nat)}(g:Gr us es)(l:aBF (at2 T) us (wts (at2 T) es))(p:us.Perm (aj n)):tH T L=(wts (at2 T) es).sum↔Lt T L n:=by
 constructor
 ·intro h us' es' g' p'
  rw[h]
  exact tU sy g l p g' p'
 ·intro h
  obtain⟨us1,es1,t1⟩:=t.tr srt
  have a:=h us es g p
  have b:=tU sy g l p t1.gr t1.pu
  rw[<- rG sy (aFf t1.gr t1.pu),<- qV t1.pL] at b
  omega
def LtD (T:List (List Int)) (n:Nat) (ds:List Dt):Prop:=∃L:List (Nat×Nat),ds=L.map vP/\IsT L n/\Srt (prN L)/\Lt T L n
theorem mH:LtD T n (L.map vP)↔(IsT L n/\Srt (prN L))/\Lt T L n:=by
 constructor
 ·rintro⟨M,e,h⟩
  rw[vV e];exact⟨⟨h.1,h.2.1⟩,h.2.2⟩
 ·exact λh=>⟨L,rfl,h.1.1,h.1.2,h.2⟩
theorem LtD.trd {ds:List Dt}(h:LtD T n ds):TrD n ds:=by
 obtain⟨L,e,a,b,_⟩:=h
 exact⟨L,e,a,b⟩
theorem aFA {i j:Nat}(qT:Quad T n)(hi:i<n)(hj:j<n):((T.getD i []).map V.int)[j]?=some (.int (at2 T i j)):=by
 obtain⟨row,e1,e2,e3⟩:=qT.get hi
 unfold at2
 rw[e3,bg,ae (by omega),ak,ae (by omega)]
 rfl
end
section
variable {K:aa}
def aCo (K:aa):Sp:=λvs H Q _=>∃(v:V) (T:List (List Int)) (n:Nat) (t:Addr) (ds:List Dt) (xs:List V),vs=[v, .ref t]/\Sh K H (uO T) v/\Quad T n/\Sy T n/\Thg K H t ds xs/\1<=n/\n<=8/\∀b,(b=true↔LtD T n ds)->∀H',Same H H'->Q (.bl b) H'
theorem aFU {C:Addr}:∀vs H Q E,aCo K vs H Q E->fU K E (aFN K) (aHm K) (aCK K C) { nx:=λ_ H'=>Q .non H',rt:=Q } (bZ ["table","ties","least"] vs) H:=by
 intro vs H Q E h
 obtain⟨v,T,n,t,ds,xs,rfl,hS,qT,sy,ht,n1,n8,q⟩:=h
 refine⟨_,rfl,v,T,n,rfl,hS,qT,n1,n8,?_⟩
 refine .inl ⟨sy,λp tl us' es' ys' L' H1 s1 htl hp g' l' p' _ _ _ _=>?_⟩
 refine ixT (j:=0) (.of hp) rfl ?_
 obtain⟨a,rs,rfl,ha,hrl,_⟩:=id (hS.same s1).tab
 have hrl:rs.length=n:=hrl.trans qT.len
 refine⟨_,rfl,a,rs,rfl, .inr ha,_,rfl,?_⟩
 refine⟨n,t,ds,xs,by rw[hrl];rfl,ht.same s1,n1,n8,λb hb H2 s2=>⟨_,rfl,?_⟩⟩
 have s12:=s1.trans s2
 cases b with
 |false=>exact cA rfl (q false (Iff.intro (λz=>by cases z) (λz=>by cases hb.mpr (LtD.trd z))) H2 s12)
 |true=>
  refine cF rfl ?_
  obtain⟨L,rfl,tr,srt⟩:=hb.mp rfl
  have ht2:=ht.same s12
  refine⟨_,rfl,_,rfl,_,t,T,n,xs,L,rfl,hS.same s12,qT,ht2.at_,ht2.rows,λe he=>⟨by have:=tr.vd e he;omega,(tr.vd e he).2⟩,by have:=tr.len;omega,λH3 s3=>?_⟩
  refine⟨_,rfl, .int _, .int _,bc _,rfl,rfl,q _ ?_ H3 (s12.trans s3)⟩
  rw[mD,decide_eq_true_iff,mH,xA sy tr srt g' l' p']
  exact⟨λh=>⟨⟨tr,srt⟩,h⟩,λh=>h.2⟩
def aGw (K:aa):Sp:=λvs H Q _=>∃(v:V) (T:List (List Int)) (n:Nat) (t:Addr) (L:List (Nat×Nat)) (ys:List V),vs=[v, .ref t]/\Sh K H (uO T) v/\Quad T n/\Sy T n/\Thg K H t (L.map vP) ys/\IsT L n/\1<=n/\n<=8/\∀b,(b=true↔Lt T L n)->∀H',Same H H'->Q (.bl b) H'
theorem yE:∀vs H Q E,aGw K vs H Q E->fO K (aGq K) (dC K) { nx:=λ_ H'=>Q .non H',rt:=Q } (bZ ["table","ties","i","j","ahead","here"] vs) H:=by
 intro vs H Q E h
 obtain⟨v,T,n,t,L,ys,rfl,hS,qT,sy,ht,tr,n1,n8,q⟩:=h
 obtain⟨a,rs,rfl,ha,hrl,_⟩:=id hS.tab
 have hrl:rs.length=n:=hrl.trans qT.len
 have tl:=tr.len
 refine⟨_,rfl,a,rs,rfl, .inr ha,n,by rw[hrl];rfl,n8,λF zs M H1 s1 _ hF hM gM aM _=>?_⟩
 have zl:zs.length=M.length:=by rw[hM.1,bR]
 refine⟨F,rfl, .inl ⟨⟨_, .of hF⟩,?_⟩⟩
 refine bW (K:=K) (a:=F) (xs:=zs) (λi σ' H'=>i<=zs.length/\(∃x2 x3 x4 x5,σ'=[some (.ref a),some (.ref t),x2,x3,x4,x5])/\Same H1 H'/\∀(k:Nat) (e:Nat×Nat),k<i->M[k]?=some e->aGr T L n e.1 e.2) ⟨bc _,⟨_,_,_,_,rfl⟩,Same.refl _,λk e hk=>by omega⟩ (λi σ2 H2 _ ⟨_,_,s2,_⟩ => .of (s2 _ _ hF)) (λk x σ2 H2 hx ⟨_,⟨x2,x3,x4,x5,e2⟩,s2,hG⟩=>?_) λσ2 H2 ⟨_,_,s2,hG⟩=>q true ⟨λ_=>wK sy tr λi j hij hj=>?_,λ_=>rfl⟩ H2 (s1.trans s2)
 rotate_left
 ·obtain⟨k,hk,e⟩:=dq (aM i j hij hj)
  exact hG k (i,j) (by omega) (by rw[ae hk,e])
 subst e2
 have hk:k<zs.length:=(ah.mp hx).1
 obtain⟨⟨i,j⟩,b,he,rfl,hb⟩:=fW (hM.same s2) hx
 obtain⟨hij,hjn⟩:i<j/\j<n:=gM _ (a8 he)
 have s12:=s1.trans s2
 refine⟨b,_,rfl,hb,rfl,aX i,[aX j],rfl,aX j,[],rfl,rfl,?_⟩
 have ht2:=ht.same s12
 refine⟨_,rfl,_,rfl,t,i,n,L,ys,rfl,ht2.at_,ht2.rows,tr.vd,by omega,n8,by omega,λd H3 s3 hd=>?_⟩
 have s13:=s12.trans s3
 have hin:i<n:=by omega
 have A:=AH.run (s:=i) (es:=L) (L:=L) (n:=n) hin (yC tr.vd) L.length
 have hjk:j∈ks (eG L i L.length):=(aDn tr.vd hin).mpr ((tr.cn i hin).symm.trans (tr.cn j hjn))
 generalize eG L i L.length=f at hd A hjk
 obtain⟨kj,oj,ej⟩:=nQ.mp hjk
 obtain⟨r0,ch0,wy,nd,la,mem⟩:=A.chain kj kj j oj (az _) ej
 have plt:∀y∈j :: r0,y<n:=λy hy=>by
  obtain⟨k',o',_,e'⟩:=mem y hy
  exact A.lt y (nQ.mpr ⟨k',o',e'⟩)
 have hP:Pt L n i j (j :: r0):=⟨wy,nd,rfl,la,plt⟩
 refine⟨_,rfl,?_⟩
 have hS3:=hS.same s13
 refine⟨λm σ' H'=>H'=H3/\∃(B:List Nat) (y:Nat) (r:List Nat),σ'=[some (.ref a),some (.ref t),some (aX i),some (aX j),some (.ref d),some (aX y)]/\j :: r0=B++y :: r/\wH f i (y :: r)/\r.length=m/\∀A' x z B',B++[y]=A'++x :: z :: B'->at2 T x z<=at2 T i j,⟨r0.length,rfl,[],j,r0,rfl,rfl,ch0,rfl,λA' x z B' h=>by
  have:=congrArg u6 h
  simp only[au,ba,j3] at this
  omega⟩,?_⟩
 rintro m σ' H' ⟨rfl,B,y,r,rfl,hp,ch,rfl,hB⟩
 refine⟨_,rfl,_,rfl, .int (y:Int), .int (i:Int),bc _,rfl,rfl,_,rfl,?_⟩
 rw[aGz]
 by_cases c:y=i
 ·rw[decide_eq_true c]
  refine cA rfl ⟨by omega,⟨_,_,_,_,rfl⟩,s2.trans s3,λk' e hk' he'=>?_⟩
  by_cases c2:k'<k
  ·exact hG k' e c2 he'
  ·obtain rfl:k'=k:=by omega
   rw[he] at he'
   cases he'
   refine⟨_,hP,λA' x z B' h=>?_⟩
   have hr:r=[]:=by
    cases r with
    |nil=>rfl
    |cons p r'=>
     exfalso
     have hl:(y :: p :: r').getLast?=some i:=by
      rw[hp,yb] at la
      simpa using la
     rw[kg] at hl
     have hm:=List.mem_of_getLast? hl
     rw[hp] at nd
     exact(dk.mp (gf.mp nd).2.1).1 (c ▸ hm)
   subst hr
   exact hB A' x z B' (by rw[<- hp];exact h)
 rw[decide_eq_false c]
 refine cF rfl ⟨λσ' H2'=>∃m',m'<r.length/\H2'=H'/\∃(B:List Nat) (y:Nat) (r:List Nat),σ'=[some (.ref a),some (.ref t),some (aX i),some (aX j),some (.ref d),some (aX y)]/\j :: r0=B++y :: r/\wH f i (y :: r)/\r.length=m'/\∀A' x z B',B++[y]=A'++x :: z :: B'->at2 T x z<=at2 T i j,λ_ _ h=>h,?_⟩
 cases ch with
 |root=>exact absurd rfl c
 | @more _ p r' hyp ch'=>
  have gd:DGet H' d (aX y) (some (aX p)):=by
   have:=DGet.k (k := .inl (y:Int)) hd
   rw[aCV A.nd hyp] at this
   exact this
  have hy:y<n:=plt y (by rw[hp];simp)
  have hpn:p<n:=plt p (by rw[hp];simp)
  have e2:=sy p y hpn hy
  refine⟨_,rfl,_,rfl,_,rfl,d,_,rfl,gd,?_⟩
  refine aAb hS3 qT hpn λb1 hb1=>⟨_,rfl,ixT (j:=y) hb1 (aFA qT hpn hy) ?_⟩
  refine lW (t:=0) (si:=2) (sj:=3) rfl rfl rfl hS3 qT hin hjn ⟨_,_,rfl,rfl,_,rfl,?_⟩
  by_cases cw:at2 T p y > at2 T i j
  ·exact cF (decide_eq_true cw) (q false ⟨(λz=>by cases z),λz=>absurd z (pS sy tr hij hjn ⟨_,hP,B,y,p,r',hp,by omega⟩)⟩ H' s13)
  ·refine cA (decide_eq_false cw) ⟨_,rfl,_,rfl,d,_,rfl,gd,r'.length,jk _,rfl,B++[y],p,r',rfl,by rw[hp];simp,ch',rfl,λA' x z B' h=>?_⟩
   rcases xa B' with rfl | ⟨B2,u,rfl⟩
   ·rw[show A'++x :: z :: []=(A'++[x])++[z] by simp] at h
    have h1:=v7 h rfl
    have h2:=v7 h1.1 rfl
    have e3:y=x:=by simpa using h2.2
    have e4:p=z:=by simpa using h1.2
    rw[<- e3,<- e4];omega
   ·rw[show A'++x :: z :: (B2.concat u)=(A'++x :: z :: B2)++[u] by simp] at h
    have h1:=v7 h rfl
    exact hB A' x z B2 h1.1
end
section
variable {M:List (Nat×Nat)}{n:Nat}
theorem yY {α:Type}(f:α->Bool):∀l:List α,(l.filter f).length+(l.filter λx=>!f x).length=l.length
 |[]=>rfl
 |a :: l=>by
  have:=yY f l
  cases h:f a
  ·simp only[km,h,yh,if_true,ba,dn,if_false];omega
  ·simp only[km,h,js,if_true,ba,dn,if_false];omega
theorem aDW {k:Nat}(hk:n<=k):Q.cls [] (aj n) k (aj n)=n:=by
 have:=Q.parts_len (S:=aj n) (L:=[]) f6 (λe he=>by cases he) (k:=k) (by rw[cq];exact hk)
 rw[<- this]
 show((aj n).map λx=>[x]).length=n
 rw[ai,cq]
theorem aBR {e:Nat×Nat}{k:Nat}(hk:n<=k)(hM:Vd M n)(he:e.1<e.2)(hn:e.2<n)(nc:¬ Q.Cn M (aj n) e.1 e.2):Q.cls (M++[e]) (aj n) k (aj n)+1=Q.cls M (aj n) k (aj n):=by
 have nd:(aj n).Nodup:=f6
 have hk':(aj n).length<=k:=by rw[cq];exact hk
 have hP:=Q.Pt.all nd M [] _ (λf hf=>(hM f hf).1) Q.Pt.init
 rw[jf] at hP
 rw[<- Q.parts_len (L:=M++[e]) nd (λf hf=>by
  rcases bo.mp hf with hf | hf
  ·exact(hM f hf).1
  ·rw[ay.mp hf];exact he) hk',<- Q.parts_len (L:=M) nd (λf hf=>(hM f hf).1) hk']
 have e0:Q.partsP (aj n) (M++[e])=Q.stepP (Q.partsP (aj n) M) e:=by unfold Q.partsP;rw[u0];rfl
 rw[e0]
 have hP:Q.Pt M (aj n) (aj n) (Q.partsP (aj n) M):=hP
 generalize Q.partsP (aj n) M=P at hP
 have ndF:P.flatten.Nodup:=hP.perm.nodup_iff.mpr nd
 have ndP:=Q.nodupP ndF hP.ne
 have h1:e.1∈aj n:=bb.mpr (by omega)
 have h2:e.2∈aj n:=bb.mpr hn
 obtain⟨q1,g1,k1⟩:=i6.mp (hP.perm.mem_iff.mpr h1)
 obtain⟨q2,g2,k2⟩:=i6.mp (hP.perm.mem_iff.mpr h2)
 have ne:q1≠q2:=λz=>nc ((hP.cn q1 g1 e.1 k1 e.2 h2).mp (z ▸ k2))
 have pm:(Q.tiedP P e).Perm [q1,q2]:=by
  refine(gn (nr.nodup ndP) (by simp[ne])).mpr λq=>?_
  show q∈Q.tiedP P e↔_
  rw[Q.mem_tied]
  constructor
  ·rintro⟨a,b | b⟩
   ·rw[Q.uniq ndF a g1 b k1];simp
   ·rw[Q.uniq ndF a g2 b k2];simp
  ·intro h
   rcases a9.mp h with rfl | h
   ·exact⟨g1, .inl k1⟩
   ·rw[ay.mp h];exact⟨g2, .inr k2⟩
 have tl:=pm.length_eq
 have fl:=yY (λq=>decide (e.1∈q) || decide (e.2∈q)) P
 have tl':(P.filter λq=>decide (e.1∈q) || decide (e.2∈q)).length=2:=tl
 unfold Q.stepP
 match hm:Q.tiedP P e,tl with
 |[a,b],_=>
  show((P.filter λq=>!(decide (e.1∈q) || decide (e.2∈q)))++[a++b]).length+1=P.length
  rw[au,fm]
  omega
end
section
variable {K:aa}
theorem aDt {H H':Hp}{T:List (List Int)}{v:V}(h:Sh K H (uO T) v)(f:∀b ys,SqT K H b ys->SqT K H' b ys):Sh K H' (uO T) v:=by
 obtain⟨a,xs,e,ha,hl⟩:=h
 have r:Rows K H xs T:=ShL.rows hl
 exact⟨a,xs,e,f _ _ ha,ShL.of_rows (r.map f).1 (r.map f).2⟩
theorem sE {α β:Type}{f:α->β}{R:List β}{qs:List α}(h:R.Perm (qs.map f)):∃qs':List α,qs'.Perm qs/\R=qs'.map f:=vZ h qs rfl
theorem aAI {H:Hp}{ms zs:List V}{M:List (Nat×Nat)}(h:Rows K H zs (prN M))(pm:ms.Perm zs):∃M',M'.Perm M/\Rows K H ms (prN M'):=by
 have hl:zs.length=M.length:=by rw[h.1,bR]
 have e1:(zs.zip M).map xo=zs:=List.map_fst_zip (by omega)
 have e2:(zs.zip M).map zh=M:=List.map_snd_zip (by omega)
 obtain⟨Q,pQ,eQ⟩:=sE (R:=ms) (f:=xo) (qs:=zs.zip M) (by rw[e1];exact pm)
 refine⟨Q.map zh,by rw[<- e2];exact pQ.map _,by rw[eQ,bR,ai,ai],λi row hr=>?_⟩
 unfold prN at hr
 rw[bg,bg] at hr
 cases hq:Q[i]? with
 |none=>rw[hq] at hr;cases hr
 |some w=>
  rw[hq] at hr
  obtain rfl:[(w.2.1:Int),(w.2.2:Int)]=row:=bu hr
  obtain⟨j,hj⟩:=jw (pQ.mem_iff.mp (a8 hq))
  rw[uh] at hj
  obtain⟨b,hb,hs⟩:=h.2 j [(w.2.1:Int),(w.2.2:Int)] (by unfold prN;rw[bg,hj.2];rfl)
  rw[hj.1] at hb
  exact⟨b,by rw[eQ,bg,hq];exact hb,hs⟩
def aGM (K:aa):Sp:=λvs H Q _=>∃(p l:Addr) (ns:List Int) (v:V) (T:List (List Int)) (n:Nat),vs=[.ref p,v]/\Pen H p l ns/\Sh K H (uO T) v/\Quad T n/\1<=n/\n<=8/\∀tl ys L H',Pen H' p l ns->SameX p H H'->H tl=none->H' tl=some (.lst ys)->Rows K H' ys (prN L)->IsT L n->Srt (prN L)->Q (.ref tl) H'
structure Kr (T:List (List Int))(n:Nat)(M:List (Nat×Nat)):Prop where
 vd:Vd M n
 cl:M.length+Q.cls M (aj n) 8 (aj n)=n
theorem aHi:∀vs H Q E,aGM K vs H Q E->eE K (aGq K) (aAe K) (dC K) { nx:=λ_ H'=>Q .non H',rt:=Q } (bZ ["feed","table","pairs","found","length_here","i","j"] vs) H:=by
 intro vs H Q E h
 obtain⟨p,l,ns,v,T,n,rfl,hP,hS,qT,n1,n8,q⟩:=h
 obtain⟨a,rs,rfl,ha,hrl,_⟩:=id hS.tab
 have hrl:rs.length=n:=hrl.trans qT.len
 refine⟨_,rfl,_,rfl,a,rs,rfl, .inr ha,n,by rw[hrl];rfl,n8,λB zs M0 H1 s1 _ hB hM gM aM mle=>?_⟩
 have zl:zs.length=M0.length:=by rw[hM.1,bR]
 dsimp only[aO,List.cons_append,jf]
 have hP1:=hP.x s1
 refine⟨p,l,ns,B,zs,rfl,hP1,hB,by omega,λx hx=>?_,λO ms H2 hP2 sx2 hO0 hO pm=>?_⟩
 ·obtain⟨i,hi⟩:=jw hx
  obtain⟨e,b,_,rfl,hb⟩:=fW hM hi
  exact .inr ⟨b,_,_,rfl,hb⟩
 obtain⟨kP,zP,eP,_⟩:=id hP1
 have f2:∀b ys,SqT K H1 b ys->SqT K H2 b ys:=λb ys hb=>wU hb eP sx2
 obtain⟨M,pM,hR2⟩:=aAI (hM.map f2) pm
 have hS2:=aDt (hS.same s1) f2
 have gM':Vd M n:=λe he=>gM e (pM.mem_iff.mp he)
 have aM':∀a b,a<b->b<n->(a,b)∈M:=λa b h1 h2=>pM.mem_iff.mpr (aM a b h1 h2)
 have ml:M.length<=56:=by rw[pM.length_eq];exact mle
 have msl:ms.length=M.length:=by rw[hR2.1,bR]
 refine⟨show 0<=b8 by decide,λF hF=>?_⟩
 have s3:=aH hF (.lst [])
 have nO:=hP1.ne hO0
 have nF:=hP2.ne hF
 have OF:O≠F:=aN hO hF
 have sx13:SameX p H (upd H2 F (.lst [])):=(s1.x.trans sx2).trans s3.x
 have hFH:∀c o,c≠p->H c=some o->c≠F:=λc o hc e=>aN ((s1.x.trans sx2) c o hc e) hF
 have hS3:=hS2.same s3
 have hR3:=hR2.same s3
 have hO3:=s3 _ _ hO
 have hP3:=hP2.x s3
 have hF3:(upd H2 F (.lst [])) F=some (.lst []):=aF
 have hFp:=nF.1
 generalize upd H2 F (.lst [])=G at *
 refine⟨_,rfl,O,rfl, .inl ⟨⟨_, .of hO3⟩,λA hA=>?_⟩⟩
 refine bW (K:=K) (a:=O) (xs:=ms) (λi σ' H'=>i<=ms.length/\Same G H'/\(∃x0 x1,σ'=[x0,x1,some (.ref a)])/\H' A=some (.lst (((M.take i).map λe=>at2 T e.1 e.2).map V.int))) ⟨bc _,aH hA _,⟨_,_,rfl⟩,aF⟩ (λi σ1 H1 _ ⟨_,s1,_⟩ => .of (s1 _ _ hO3)) (λi x σ1 H1 hx ⟨_,s1,⟨x0,x1,es⟩,hA1⟩=>?_) λσ1 H4 ⟨_,s4,_,hA4⟩=>?_
 ·subst es
  have hi:i<ms.length:=(ah.mp hx).1
  obtain⟨e,b,he,rfl,hb⟩:=fW (hR3.same s1) hx
  obtain⟨g1,g2⟩:=gM' e (a8 he)
  refine⟨b,_,rfl,hb,rfl,aX e.1,[aX e.2],rfl,aX e.2,[],rfl,rfl,?_⟩
  refine lW (t:=2) (si:=0) (sj:=1) rfl rfl rfl (hS3.same s1) qT (by omega) g2 ⟨_,hA1,?_,hi,gC hA s1,⟨_,_,rfl⟩,?_⟩
  ·rw[ai,ai,fg]
   exact cp (show _<=64 by omega) (by decide)
  ·rw[aF,e8,he,de,de]
   rfl
 rw[msl,fh] at hA4
 refine⟨A,M.map λe=>at2 T e.1 e.2,rfl, .of hA4,by rw[ai];omega,λkz srt hks H5 s5 lk hlk=>?_⟩
 have s6:=aH hlk (.lst (kz.map V.int))
 have s46:=(s4.trans s5).trans s6
 have hP6:=hP3.x s46
 have hS6:=hS3.same s46
 have hR6:=hR3.same s46
 have hO6:=s46 _ _ hO3
 have hF6:=s46 _ _ hF3
 have sx6:=sx13.trans s46.x
 have hk6:(upd H5 lk (.lst (kz.map V.int))) lk=some (.lst (kz.map V.int)):=aF
 have kF:lk≠F:=λz=>by rw[z] at hlk;rw[(s4.trans s5) _ _ hF3] at hlk;cases hlk
 generalize upd H5 lk (.lst (kz.map V.int))=G6 at *
 clear hR2 hS2 hM hS3 hR3 hO3 hF3 s4 s5 s6 s46 hA4 s3 hP3 sx13 hP2 hP1 hA hlk
 refine⟨lk,rfl, .inl ⟨⟨_, .of hk6⟩,?_⟩⟩
 have kil:kz.length=(kz.map V.int).length:=(ai ..).symm
 let I:Nat->Nat->Hp->Prop:=λi k H'=>SameX F G6 H'/\∃ys L,H' F=some (.lst ys)/\Rows K H' ys (prN L)/\Kr T n L/\(∀e∈M,at2 T e.1 e.2∈kz.take i->K31.Q.Cn L (aj n) e.1 e.2)/\∀e∈M.take k,some (at2 T e.1 e.2)=kz[i]?->K31.Q.Cn L (aj n) e.1 e.2
 have kr_len:∀{L},Kr T n L->L.length<=8:=λ{L} k=>by have:=k.cl;omega
 refine bW (K:=K) (a:=lk) (xs:=kz.map V.int) (λi σ' H'=>i<=kz.length/\(∃x4 x5 x6,σ'=[some (.ref p),some (.ref a),some (.ref O),some (.ref F),x4,x5,x6])/\I i 0 H') ⟨bc _,⟨_,_,_,rfl⟩,SameX.refl _ _,[],[],hF6,Rows.nil,⟨λe he=>(by cases he),(by rw[aDW n8];simp)⟩,(λe _ h=>by simp at h),(λe h=>by simp at h)⟩ (λi σ2 H2 _ ⟨_,_,sx,_⟩ => .of (sx _ _ kF hk6)) (λi x σ2 H2 hx ⟨_,⟨x4,x5,x6,e2⟩,hI⟩=>?_) λσ2 H2 ⟨_,⟨x4,x5,x6,e2⟩,hI⟩=>?_
 ·subst e2
  have hi:i<kz.length:=by rw[kil];exact(ah.mp hx).1
  obtain rfl:V.int kz[i]=x:=by rw[bg,ae hi] at hx;exact bu hx
  refine⟨_,rfl,O,rfl, .inl ⟨⟨_, .of (hI.1 _ _ OF hO6)⟩,?_⟩⟩
  refine bW (K:=K) (a:=O) (xs:=ms) (λk σ' H'=>k<=ms.length/\(∃x5 x6,σ'=[some (.ref p),some (.ref a),some (.ref O),some (.ref F),some (.int kz[i]),x5,x6])/\I i k H') ⟨bc _,⟨_,_,rfl⟩,hI⟩ (λk σ3 H3 _ ⟨_,_,sx,_⟩ => .of (sx _ _ OF hO6)) (λk x σ3 H3 hx ⟨_,⟨x5,x6,e3⟩,hI⟩=>?_) λσ3 H3 ⟨_,⟨x5,x6,e3⟩,sx,ys,L,hys,hrL,kr,c1,c2⟩=>?_
  ·subst e3
   obtain⟨sx,ys,L,hys,hrL,kr,c1,c2⟩:=hI
   have l8:=kr_len kr
   have hk:k<ms.length:=(ah.mp hx).1
   have f3:∀b zs,SqT K G6 b zs->SqT K H3 b zs:=λb zs hb=>wU hb hF6 sx
   obtain⟨e,b,he,rfl,hb⟩:=fW (hR6.map f3) hx
   obtain⟨g1,g2⟩:=gM' e (a8 he)
   have hS3:=aDt hS6 f3
   have tk:∀{L'},(∀e∈M,at2 T e.1 e.2∈kz.take i->K31.Q.Cn L' (aj n) e.1 e.2)->(∀x∈L,x∈L')->(at2 T e.1 e.2=kz[i]->K31.Q.Cn L' (aj n) e.1 e.2)->∀f∈M.take (k+1),some (at2 T f.1 f.2)=kz[i]?->K31.Q.Cn L' (aj n) f.1 f.2:=λ{L'} _ hs hd f hf e4=>by
    rw[e8,he] at hf
    rcases bo.mp hf with hf | hf
    ·exact(c2 f hf e4).mono hs λ_ z=>z
    ·obtain rfl:f=e:=by simpa using hf
     rw[ae hi] at e4
     exact hd (bu e4)
   refine⟨b,_,rfl,hb,rfl,aX e.1,[aX e.2],rfl,aX e.2,[],rfl,rfl,?_⟩
   refine lW (t:=1) (si:=5) (sj:=6) rfl rfl rfl hS3 qT (by omega) g2 ⟨_,rfl, .int _, .int _,bc _,rfl,rfl,_,rfl,?_⟩
   rw[mD]
   by_cases ce:at2 T e.1 e.2=kz[i]
   ·rw[decide_eq_true ce]
    refine cF rfl ?_
    refine⟨_,rfl,_,rfl,_,rfl,F,e.1,n,L,ys,rfl,hys,hrL,kr.vd,by omega,n8,by omega,λd H4 s4 hd=>⟨d,_,rfl,DGet.k (k := .inl (e.2:Int)) hd,?_⟩⟩
    have rc:=aDn (x:=e.2) kr.vd (show e.1<n by omega)
    rw[kX]
    by_cases cr:e.2∈ks (eG L e.1 L.length)
    ·rw[decide_eq_true cr]
     exact⟨_,rfl,cA rfl ⟨by omega,⟨_,_,rfl⟩,sx.trans s4.x,ys,L,s4 _ _ hys,hrL.same s4,kr,c1,tk c1 (λ_ z=>z) λ_=>rc.mp cr⟩⟩
    ·rw[decide_eq_false cr]
     have nc:¬ K31.Q.Cn L (aj n) e.1 e.2:=λz=>cr (rc.mpr z)
     have yl:ys.length=L.length:=by rw[hrL.1,bR]
     refine⟨_,rfl,cF rfl ⟨_,rfl, .inl ⟨rfl,_, .of (s4 _ _ hys)⟩,_,rfl,_,rfl,show 2<=b8 by decide,λu hu=>?_⟩⟩
     have s5:=aH hu (.tup [aX e.1,aX e.2])
     have s45:=s4.trans s5
     refine⟨F,ys,_,rfl,rfl,s45 _ _ hys,cp (show ys.length<=8 by omega) (by decide),?_⟩
     have mo:∀x∈L,x∈L++[e]:=λx hx=>da _ hx
     have r0:e.1∈aj n:=bb.mpr (by omega)
     have r1:e.2∈aj n:=bb.mpr g2
     have cne:K31.Q.Cn (L++[e]) (aj n) e.1 e.2:=(K31.Q.cn_snoc g1 r0 r1).mpr (.inr (.inl ⟨.refl _, .refl _⟩))
     have c1':∀f∈M,at2 T f.1 f.2∈kz.take i->K31.Q.Cn (L++[e]) (aj n) f.1 f.2:=λf hf e4=>(c1 f hf e4).mono mo λ_ z=>z
     refine⟨by omega,⟨_,_,rfl⟩,(sx.trans s45.x).trans (SameX.put _),_,L++[e],aF,?_,⟨λf hf=>?_,?_⟩,c1',tk c1' mo λ_=>cne⟩
     ·rw[pK]
      exact Rows.put (Rows.snoc (hrL.same s45) (.of aF)) (s45 _ _ hys)
     ·rcases bo.mp hf with hf | hf
      ·exact kr.vd f hf
      ·rw[ay.mp hf];exact⟨g1,g2⟩
     ·have:=aBR (k:=8) n8 kr.vd g1 g2 nc
      have:=kr.cl
      rw[au,fm]
      omega
   ·rw[decide_eq_false ce]
    exact cA rfl (cA rfl ⟨by omega,⟨_,_,rfl⟩,sx,ys,L,hys,hrL,kr,c1,tk c1 (λ_ z=>z) λz=>absurd z ce⟩)
  ·subst e3
   refine⟨by omega,⟨_,_,_,rfl⟩,sx,ys,L,hys,hrL,kr,λe he e4=>?_,λe h=>by simp at h⟩
   rw[e8,ae hi] at e4
   rcases bo.mp e4 with e4 | e4
   ·exact c1 e he e4
   ·refine c2 e (by rw[msl,fh];exact he) ?_
    rw[ae hi]
    have:at2 T e.1 e.2=kz[i]:=by simpa using e4
    rw[this]
 ·subst e2
  obtain⟨sx,ys,L,hys,hrL,kr,c1,_⟩:=hI
  have l8:=kr_len kr
  rw[<- kil,fh] at c1
  have all:∀a b,a<b->b<n->K31.Q.Cn L (aj n) a b:=λx y h1 h2=>c1 (x,y) (aM' x y h1 h2) ((hks _).mpr (c8.mpr ⟨(x,y),aM' x y h1 h2,rfl⟩))
  have cn:aEE L n:=λx hx=>by
   by_cases c:x=0
   ·rw[c];exact .refl _
   ·exact all 0 x (by omega) hx
  have len:L.length+1=n:=by
   have:=(aAg (L:=L) (n:=n) (k:=8) n1 n8).mpr cn
   have:=kr.cl
   omega
  refine⟨_,rfl, .inr ⟨F,ys,prN L,rfl, .inl (.of hys),hrL,nW,by rw[bR];omega,λzs R' pR srt' _ hr' tl htl=>?_⟩⟩
  obtain⟨L',rfl,pL⟩:=oZ pR
  have s7:=aH htl (.lst zs)
  have hnp:tl≠p:=λz=>by
   obtain⟨k,z',e,_⟩:=hP6
   rw[z,sx _ _ (gh hFp) e] at htl;cases htl
  refine q tl zs L' _ ?_ ?_ ?_ aF (hr'.same s7) ⟨λe he=>kr.vd e (pL.mem_iff.mp he),by rw[pL.length_eq];exact len,λx hx=>(cn x hx).mono (λe he=>pL.mem_iff.mpr he) λ_ z=>z⟩ srt'
  ·exact Pen.x (by
    obtain⟨k,z,e1,e2,e3⟩:=hP6
    exact⟨k,z,sx _ _ (gh hFp) e1,sx _ _ (gh nF.2) e2,e3⟩) s7
  ·exact λc o hc e=>s7 _ _ (sx _ _ (hFH c o hc e) (sx6 _ _ hc e))
  ·cases hq:H tl with
   |none=>rfl
   |some o=>
    have:=sx _ _ (hFH tl o hnp hq) (sx6 _ _ hnp hq)
    rw[this] at htl;cases htl
end
def hd (S:List Addr) (H:Hp):Hp:=λb=>if b∈S then none else H b
def BLs (S:List Addr) (H:Hp):Prop:=∀b∈S,∃L,H b=some (.lst L)
section
variable {K:aa}{S:List Addr}{H H':Hp}
theorem eR {b:Addr}(h:b∉S):hd S H b=H b:=if_neg h
theorem wZ {b:Addr}(h:b∈S):hd S H b=none:=if_pos h
theorem cU (s:Same H H'):Same (hd S H) (hd S H'):=λb u e=>by
 by_cases c:b∈S
 ·rw[wZ c] at e;cases e
 ·rw[eR c] at e ⊢;exact s b u e
theorem aIq {p:Addr}(hp:p∈S)(s:SameX p H H'):Same (hd S H) (hd S H'):=λb u e=>by
 by_cases c:b∈S
 ·rw[wZ c] at e;cases e
 ·rw[eR c] at e ⊢;exact s b u (λz=>c (z ▸ hp)) e
theorem dY:Same (hd S H) H:=λb u e=>by
 by_cases c:b∈S
 ·rw[wZ c] at e;cases e
 ·rw[eR c] at e;exact e
theorem aFC {p:Addr}{o:HO}(hp:p∈S):hd S (upd H p o)=hd S H:=funext λb=>by
 by_cases c:b∈S
 ·rw[wZ c,wZ c]
 ·rw[eR c,eR c,aR λz=>c (by rw[z];exact hp)]
theorem aCu {A:Addr}{o:HO}(hA:H A=none):Same (hd S H) (hd (A :: S) (upd H A o)):=λb u e=>by
 by_cases c:b∈S
 ·rw[wZ c] at e;cases e
 ·rw[eR c] at e
  have n:b≠A:=aN e hA
  rw[eR λz=>(a9.mp z).elim n c,aR n]
  exact e
theorem BLs.same (h:BLs S H)(s:Same H H'):BLs S H':=λb hb=>let⟨L,e⟩:=h b hb;⟨L,s _ _ e⟩
theorem BLs.new (h:BLs S H){p:Addr}(hp:H p=none):p∉S:=λz=>by
 obtain⟨L,e⟩:=h p z
 rw[hp] at e;cases e
theorem BLs.tup (h:BLs S H){p:Addr}{zs:List V}(hp:H p=some (.tup zs)):p∉S:=λz=>by
 obtain⟨L,e⟩:=h p z
 rw[hp] at e;cases e
theorem BLs.cons (h:BLs S H){A:Addr}{L:List V}(hA:H A=some (.lst L)):BLs (A :: S) H:=λb hb=>by
 rcases a9.mp hb with rfl | hb
 ·exact⟨L,hA⟩
 ·exact h b hb
theorem uS {b:Addr}{xs:List V}(h:SqT K H b xs)(hb:BLs S H):SqT K (hd S H) b xs:=by
 rcases h with(h | ⟨o,h⟩) | h
 ·exact .inl (.inl (by rw[eR (hb.tup h)];exact h))
 ·refine .inl (.inr ⟨o,?_⟩)
  rw[eR λz=>by obtain⟨L,e⟩:=hb b z;rw[h] at e;cases e]
  exact h
 ·exact .inr h
def Ep (Φ:Hp->V->Prop) (S:List Addr) (t:TE) (σ:St) (H:Hp):Prop:=∀H1,Same H H1->BLs S H1->∀Q:VK,(∀x H2,Same H1 H2->Φ (hd S H2) x->Q x H2)->t σ H1 Q
def Aa (Φ:Hp->V->Prop) (S:List Addr) (t:TA) (σ:St) (H:Hp) (k:Nat):Prop:=∀H1,Same H H1->BLs S H1->∀Q:List V->Hp->Prop,(∀xs H2,Same H1 H2->xs.length=k->(∀x∈xs,Φ (hd S H2) x)->Q xs H2)->t σ H1 Q
def Mo (Φ:Hp->V->Prop):Prop:=∀G G' x,Same G G'->Φ G x->Φ G' x
abbrev AmP (K:aa) (m e:Nat):Hp->V->Prop:=λG x=>Am K G m e x
abbrev TuP (K:aa) (m e k:Nat):Hp->V->Prop:=λG x=>Tu K G m e k x
theorem dI {m e:Nat}:Mo (AmP K m e):=λ_ _ _ s h=>Am.same s h
variable {σ:St}{Φ Ψ:Hp->V->Prop}
theorem aBz {t:TE}(h:Ep Φ S t σ H)(f:∀G x,Φ G x->Ψ G x):Ep Ψ S t σ H:=λH1 s hb Q q=>h H1 s hb Q λx H2 s2 hx=>q x H2 s2 (f _ _ hx)
theorem up {m e m' e':Nat}{t:TE}(h:Ep (AmP K m e) S t σ H)(h1:m<=m':=by decide)(h2:e<=e':=by decide):Ep (AmP K m' e') S t σ H:=aBz h λ_ _ hx=>hx.le h1 h2
theorem qJ {i:Nat}{x:V}(mo:Mo Φ)(hv:σ[i]?=some (some x))(h:Φ (hd S H) x):Ep Φ S (aD i) σ H:=λH1 s hb Q q=>⟨_,hv,q x H1 (Same.refl _) (mo _ _ _ (cU s) h)⟩
theorem aGS {v:V}(h:∀G,Φ G v):Ep Φ S (tC v) σ H:=λH1 s hb Q q=>q v H1 (Same.refl _) (h _)
def Sm (x:Int):Prop:=-1000000<=x/\x<=1000000
theorem aFD {G:Hp}{x:Int}(h:Sm x):Am K G 8 0 (.int x):=(aBw (by have:=h.1;omega) (by have:=h.2;omega)).le (by decide) (by decide)
theorem aHw {x:Int}(h:Sm x:=by exact⟨by decide,by decide⟩):Ep (AmP K 8 0) S (tC (.int x)) σ H:=aGS λ_=>aFD h
theorem aHW {b:Bool}:Ep (AmP K 8 0) S (tC (.bl b)) σ H:=aGS λ_=>aDT.le (by decide) (by decide)
theorem aDm:Ep (AmP K 8 0) S (tC .non) σ H:=aGS λ_=>aFB.le (by decide) (by decide)
theorem rN {i:Nat}{x:Int}(hv:σ[i]?=some (some (.int x)))(h:Sm x):Ep (AmP K 8 0) S (aD i) σ H:=qJ dI hv (aFD h)
theorem aFZ:Ep (AmP K 8 0) S (tUn aEt (tC (.int 1))) σ H:=λH1 s hb Q q=>⟨_,rfl,q _ H1 (Same.refl _) (aFD (x:=-1) ⟨by decide,by decide⟩)⟩
theorem aEe {i:Int}(h0:0<=i)(h1:i<=1000000):(aED i).length<=7:=PyProof.Rows.toString_length_le h0 (by decide) (by omega)
theorem aEX {G:Hp}{i:Int}(h0:0<=i)(h1:i<=1000000):Am K G 8 0 (.str (aED i)):=by
 refine(aFE (x:=aED i) ?_).le ?_ (az _)
 ·obtain⟨m,rfl⟩:=vc h0
  refine e7.mpr λc hc=>decide_eq_true ?_
  unfold aED at hc
  rw[PySem.W.KIN.signs_num] at hc
  obtain⟨g,hg,eg⟩:=c8.mp hc
  rw[<- eg]
  have:=PyProof.Rows.digit_range (Nat.isDigit_of_mem_toDigits (by decide) (by decide) hg)
  exact cp this.2 (by decide)
 ·exact bq (aEe h0 h1) (by decide)
theorem aFw {i:Nat}{x:Int}(hv:σ[i]?=some (some (.int x)))(h0:0<=x)(h:Sm x):Ep (AmP K 8 0) S (tCB xE (aB (aD i) aO)) σ H:=λH1 s hb Q q=>⟨_,hv,x,rfl,c5 (show x.natAbs<1000001 by have:=h.2;omega) (by decide),q _ H1 (Same.refl _) (aEX h0 h.2)⟩
theorem aIm {i:Nat}{x k:Int}(hv:σ[i]?=some (some (.int x))):Ep (AmP K 8 0) S (tOp (fZ K) (aD i) (tC (.int k))) σ H:=λH1 s hb Q q=>⟨_,hv, .int _, .int _,bc _,rfl,rfl,q _ H1 (Same.refl _) (aDT.le (by decide) (by decide))⟩
theorem dP:Aa Φ S aO σ H 0:=λH1 s hb Q q=>q [] H1 (Same.refl _) rfl (by simp)
theorem oK {t:TE}{ts:TA}{k:Nat}(mo:Mo Φ)(h:Ep Φ S t σ H)(hs:Aa Φ S ts σ H k):Aa Φ S (aB t ts) σ H (k+1):=λH1 s hb Q q=>
 h H1 s hb _ λx H2 s2 hx=>hs H2 (s.trans s2) (hb.same s2) _ λxs H3 s3 hl hxs=>q (x :: xs) H3 (s2.trans s3) (by rw[ba,hl]) λy hy=>by
  rcases a9.mp hy with rfl | hy
  ·exact mo _ _ _ (cU s3) hx
  ·exact hxs y hy
theorem ac {m e k:Nat}{t:TE}{ts:TA}(h:Ep (AmP K m e) S t σ H)(hs:Aa (AmP K m e) S ts σ H k):Aa (AmP K m e) S (aB t ts) σ H (k+1):=oK dI h hs
theorem aIo {m e k:Nat}{ts:TA}(h:Aa (AmP K m e) S ts σ H k)(hk:k<=20:=by decide):Ep (TuP K m e k) S (eK ts) σ H:=λH1 s hb Q q=>
 h H1 s hb _ λxs H2 s2 hl hxs=>⟨by rw[hl];exact bq hk (by decide),λp hp=>by
  have sp:=aH hp (.tup xs)
  exact q _ _ (s2.trans sp) ⟨p,xs,rfl,uS (.of aF) (((hb.same s2)).same sp),by omega,λx hx=>(hxs x hx).same (cU sp)⟩⟩
theorem gZ {m e k m' e':Nat}{ts:TA}(h:Aa (AmP K m e) S ts σ H k)(hk:k<=20:=by decide)(h1:(m+1)*k<=m':=by decide)(h2:e+1<=e':=by decide):Ep (AmP K m' e') S (eK ts) σ H:=aBz (aIo h hk) λ_ _ hx=>(Tu.am (by omega) hx).le h1 h2
theorem aFO {m e k m' e':Nat}{ts:TA}(h:Aa (AmP K m e) S ts σ H k)(hk:k<=20:=by decide)(h1:(m+1)*k<=m':=by decide)(h2:e+1<=e':=by decide):Ep (AmP K m' e') S (eU ts) σ H:=λH1 s hb Q q=>
 h H1 s hb _ λxs H2 s2 hl hxs=>⟨by rw[hl];exact bq hk (by decide),λp hp=>by
  have sp:=aH hp (.lst xs)
  exact q _ _ (s2.trans sp) ((aCP (k:=k) (.of (by rw[eR ((hb.same s2).new hp)];exact aF)) (by omega) λx hx=>(hxs x hx).same (cU sp)).le h1 h2)⟩
end
section
variable {K:aa}{S:List Addr}{H:Hp}{σ:St}{Φ:Hp->V->Prop}
def LP (Φ:Hp->V->Prop) (k:Nat):Hp->V->Prop:=λG v=>∃a xs,v = .ref a/\G a=some (.lst xs)/\xs.length<=k/\∀x∈xs,Φ G x
theorem kJ {k:Nat}(mo:Mo Φ):Mo (LP Φ k):=λG G' v s ⟨a,xs,e,h,l,hx⟩=>⟨a,xs,e,s _ _ h,l,λx hm=>mo _ _ _ s (hx x hm)⟩
def Tz (K:aa):Hp->V->Prop:=λG x=>∃(b:Addr) (i j:Nat),x = .ref b/\SqT K G b [aX i,aX j]/\i<=8/\j<=8
theorem bJ:Mo (Tz K):=λG G' x s ⟨b,i,j,e,h,h1⟩=>⟨b,i,j,e,s.tup h,h1⟩
theorem sm8 {i:Nat}(h:i<=8):Sm (i:Int):=⟨by omega,by omega⟩
theorem aGI {G:Hp}{x:V}(h:Tz K G x):AmP K 60 3 G x:=by
 obtain⟨b,i,j,rfl,hb,h1,h2⟩:=h
 refine(Tu.am (m:=8) (e:=0) (k:=2) (by decide) ⟨b,_,rfl,hb,az _,λx hx=>?_⟩).le (by decide) (by decide)
 rcases a9.mp hx with rfl | hx
 ·exact aFD (sm8 h1)
 ·rw[ay.mp hx];exact aFD (sm8 h2)
theorem aEK {G:Hp}{x:V}{k:Nat}(h:LP (Tz K) k G x):LP (AmP K 60 3) k G x:=let⟨a,xs,e,h,l,hx⟩:=h;⟨a,xs,e,h,l,λx hm=>aGI (hx x hm)⟩
theorem aDu {G:Hp}{x:V}{k j:Nat}(h:LP Φ k G x)(hk:k<=j):LP Φ j G x:=let⟨a,xs,e,h,l,hx⟩:=h;⟨a,xs,e,h,bq l hk,hx⟩
theorem aAD {t:TE}{k j:Nat}(h:Ep (LP (Tz K) k) S t σ H)(hk:k<=j:=by decide):Ep (LP (AmP K 60 3) j) S t σ H:=aBz h λ_ _ hx=>aDu (aEK hx) hk
theorem aGK {t:TE}{k j:Nat}(h:Ep (LP Φ k) S t σ H)(hk:k<=j:=by decide):Ep (LP Φ j) S t σ H:=aBz h λ_ _ hx=>aDu hx hk
theorem gX {t u:TE}{k j:Nat}(mo:Mo Φ)(h:Ep (LP Φ k) S t σ H)(h':Ep (LP Φ j) S u σ H)(hz:k+j<=300:=by decide):Ep (LP Φ (k+j)) S (tOp (bN K) t u) σ H:=λH1 s hb Q q=>
 h H1 s hb _ λx H2 s2 ⟨a,xs,e1,ha,hl,hx⟩=>h' H2 (s.trans s2) (hb.same s2) _ λy H3 s3 ⟨b,ys,e2,hb3,gl,hy⟩=>by
  subst e1 e2
  refine .inl ⟨a,b,xs,ys,rfl,rfl,s3 _ _ (dY _ _ ha),dY _ _ hb3,bq (show _<=300 by omega) (by decide),λp hp=>?_⟩
  have sp:=aH hp (.lst (xs++ys))
  refine q _ _ ((s2.trans s3).trans sp) ⟨p,_,rfl,by rw[eR (((hb.same s2).same s3).new hp)];exact aF,by rw[au];omega,λx hm=>?_⟩
  rcases bo.mp hm with hm | hm
  ·exact mo _ _ _ (cU (s3.trans sp)) (hx x hm)
  ·exact mo _ _ _ (cU sp) (hy x hm)
def Po (t:TO) (σ:St):Prop:=∀(H:Hp) (Q:Option Int->Hp->Prop),(∀o,Q o H)->t σ H Q
theorem aBp:Po cL σ:=λ_ _ q=>q _
theorem xQ {i:Nat}{y:Int}(h:σ[i]?=some (some (.int y))):Po (eO (aD i)) σ:=λ_ _ q=>⟨_,h,_,rfl,q _⟩
theorem aBu {i:Nat}{y c:Int}(h:σ[i]?=some (some (.int y))):Po (eO (tOp (bN K) (aD i) (tC (.int c)))) σ:=λ_ _ q=>⟨_,h,_,rfl,q _⟩
theorem p_c {c:Int}:Po (eO (tC (.int c))) σ:=λ_ _ q=>⟨_,rfl,q _⟩
theorem aHe {c:Int}:Po (eO (tUn aEt (tC (.int c)))) σ:=λ_ _ q=>⟨_,rfl,_,rfl,q _⟩
theorem zU {t:TE}{lo hi:TO}{k:Nat}(mo:Mo Φ)(h:Ep (LP Φ k) S t σ H)(p1:Po lo σ)(p2:Po hi σ):Ep (LP Φ k) S (tSl (qS K) t lo hi) σ H:=λH1 s hb Q q=>
 h H1 s hb _ λx H2 s2 ⟨a,xs,e1,ha,hl,hx⟩=>p1 _ _ λo1=>p2 _ _ λo2=>by
  subst e1
  refine .inl ⟨a,xs,rfl, .of (dY _ _ ha),λp hp=>?_⟩
  have sp:=aH hp (.lst (oT xs o1 o2))
  exact q _ _ (s2.trans sp) ⟨p,_,rfl,by rw[eR ((hb.same s2).new hp)];exact aF,bq (fF _ _ _) hl,λx hm=>mo _ _ _ (cU sp) (hx x (aAw hm))⟩
theorem aFM {t:TE}{k:Nat}(mo:Mo Φ)(h:Ep (LP Φ k) S t σ H):Ep (LP Φ k) S (wR K t) σ H:=λH1 s hb Q q=>
 h H1 s hb _ λx H2 s2 ⟨a,xs,e1,ha,hl,hx⟩=>by
  subst e1
  refine⟨a,xs,rfl, .of (dY _ _ ha),λp hp=>?_⟩
  have sp:=aH hp (.lst xs.reverse)
  exact q _ _ (s2.trans sp) ⟨p,_,rfl,by rw[eR ((hb.same s2).new hp)];exact aF,by rw[yw];exact hl,λx hm=>mo _ _ _ (cU sp) (hx x (List.mem_reverse.mp hm))⟩
theorem aAJ {ts:TA}{k:Nat}(mo:Mo Φ)(h:Aa Φ S ts σ H k)(hk:k<=20:=by decide):Ep (LP Φ k) S (eU ts) σ H:=λH1 s hb Q q=>
 h H1 s hb _ λxs H2 s2 hl hx=>⟨by rw[hl];exact bq hk (by decide),λp hp=>by
  have sp:=aH hp (.lst xs)
  exact q _ _ (s2.trans sp) ⟨p,xs,rfl,by rw[eR ((hb.same s2).new hp)];exact aF,by omega,λx hm=>mo _ _ _ (cU sp) (hx x hm)⟩⟩
theorem gN {i:Nat}{x:V}{k:Nat}(mo:Mo Φ)(hv:σ[i]?=some (some x))(h:LP Φ k (hd S H) x):Ep (LP Φ k) S (aD i) σ H:=qJ (kJ mo) hv h
theorem yD {t:TE}(mo:Mo Φ)(h:Ep Φ S t σ H):Ep (LP Φ 1) S (eU (aB t aO)) σ H:=aAJ mo (oK mo h dP)
theorem yR {G:Hp}:∀{xs:List V},(∀x∈xs,Tz K G x)->∃M,Rows K G xs (prN M)
 |[],_=>⟨[],Rows.nil⟩
 |x :: xs,h=>by
  obtain⟨b,i,j,rfl,hb,_⟩:=h x (by simp)
  obtain⟨M,hM⟩:=yR λy hy=>h y (ar _ hy)
  refine⟨(i,j) :: M,by rw[ba,hM.1];rfl,λk row e=>?_⟩
  cases k with
  |zero=>cases e;exact⟨b,rfl,hb⟩
  |succ k=>exact hM.2 k row e
theorem aFh {t:TE}{k:Nat}(h:Ep (LP (Tz K) k) S t σ H)(hk:k<=60:=by decide):Ep (LP (Tz K) k) S (tCB (jW K) (aB t aO)) σ H:=λH1 s hb Q q=>
 h H1 s hb _ λx H2 s2 ⟨a,xs,e1,ha,hl,hx⟩=>by
  subst e1
  obtain⟨M,hM⟩:=yR λx hm=>bJ _ _ _ dY (hx x hm)
  refine .inr ⟨a,xs,prN M,rfl, .inl (.of (dY _ _ ha)),hM,nW,by rw[<- hM.1];omega,λys R' _ _ py _ l hl0=>?_⟩
  have sl:=aH hl0 (.lst ys)
  exact q _ _ (s2.trans sl) ⟨l,ys,rfl,by rw[eR ((hb.same s2).new hl0)];exact aF,by rw[py.length_eq];exact hl,λz hz=>bJ _ _ _ (cU sl) (hx z (py.mem_iff.mp hz))⟩
theorem aIk {i:Nat}{x k:Int}(hv:σ[i]?=some (some (.int x))):Ep (AmP K 8 0) S (tOp yGt (aD i) (tC (.int k))) σ H:=λH1 s hb Q q=>⟨_,hv,_,_,rfl,rfl,q _ H1 (Same.refl _) (aDT.le (by decide) (by decide))⟩
def aHo (K:aa):Sp:=λvs H Q _=>∃(S:List Addr) (t:V) (at_:Int),vs=[t, .int at_]/\BLs S H/\LP (Tz K) 7 (hd S H) t/\∀x H',Same H H'->LP (Tz K) 21 (hd S H') x->Q x H'
theorem aHl:∀vs H Q E,aHo K vs H Q E->fV K { nx:=λ_ H'=>Q .non H',rt:=Q } (bZ ["some","at","pair"] vs) H:=by
 intro vs H Q E h
 obtain⟨S,t,y,rfl,hb,ht,q⟩:=h
 refine(zU (K:=K) (S:=S) bJ (gN (i:=0) bJ rfl ht) (xQ (i:=1) rfl) (aBu (i:=1) rfl)) H (Same.refl _) hb _ λx H1 s1 hx=>?_
 have ht1:=kJ bJ _ _ _ (cU s1) ht
 refine(gX (K:=K) (S:=S) bJ (gX bJ (zU bJ (gN (i:=0) bJ rfl ht1) aBp (xQ (i:=1) rfl)) (aFM bJ (gN (i:=2) bJ rfl hx))) (zU bJ (gN (i:=0) bJ rfl ht1) (aBu (i:=1) rfl) aBp)) H1 (Same.refl _) (hb.same s1) _ λz H2 s2 hz=>q z H2 (s1.trans s2) hz
end
section
variable {K:aa}{σ:St}
theorem xD {te:TE}{i:Nat}{rest:TS}{D:jG}{σ:St}{H:Hp}(h:te σ H (λv H2=>rest D (σ.set i (some v)) H2)):aQ (bO te (aJ i)) rest D σ H:=h
theorem aDw {S:List Addr}{H:Hp}{x:V}(h:Tz K H x)(hb:BLs S H):Tz K (hd S H) x:=let⟨b,i,j,e,h1,h2⟩:=h;⟨b,i,j,e,uS h1 hb,h2⟩
theorem aIu {S:List Addr}{H:Hp}{Φ:Hp->V->Prop}{ts:TA}{k:Nat}{H1:Hp}{Q:VK}(mo:Mo Φ)(h:Aa Φ S ts σ H k)(s:Same H H1)(hb:BLs S H1)(hk:k<=20)(q:∀p xs H2,Same H1 H2->H1 p=none->H2 p=some (.lst xs)->xs.length=k->(∀x∈xs,Φ (hd (p :: S) H2) x)->Q (.ref p) H2):eU ts σ H1 Q:=
 h H1 s hb _ λxs H2 s2 hl hxs=>⟨by rw[hl];exact bq hk (by decide),λp hp=>by
  have sp:=aH hp (.lst xs)
  exact q p xs _ (s2.trans sp) (s2.free hp) aF hl λx hx=>mo _ _ _ (aCu hp) (hxs x hx)⟩
abbrev Th (K:aa):Hp->V->Prop:=LP (AmP K 60 3) 24
theorem mK:Mo (Th K):=kJ dI
structure Tb (K:aa)(H G:Hp)(p l F:Addr)(ns:List Int)(c:Nat)(H':Hp):Prop where
 pen:Pen H' p l ns
 sx:SameX p H H'
 sm:Same (hd [F,p] G) (hd [F,p] H')
 fo:∃ys,H' F=some (.lst ys)/\ys.length<=c/\∀y∈ys,Th K (hd [F,p] H') y
variable {H G H1 H2:Hp}{p l F:Addr}{ns:List Int}{c:Nat}
theorem Tb.bls (B:Tb K H G p l F ns c H1):BLs [F,p] H1:=λb hb=>by
 rcases a9.mp hb with rfl | hb
 ·obtain⟨ys,h,_⟩:=B.fo;exact⟨ys,h⟩
 ·rw[ay.mp hb]
  obtain⟨k,z,h,_⟩:=B.pen;exact⟨_,h⟩
theorem Tb.same (B:Tb K H G p l F ns c H1)(s:Same H1 H2):Tb K H G p l F ns c H2:=by
 obtain⟨ys,h1,h2,h3⟩:=B.fo
 exact⟨B.pen.x s,B.sx.trans s.x,B.sm.trans (cU s),ys,s _ _ h1,h2,λy hy=>mK _ _ _ (cU s) (h3 y hy)⟩
theorem Tb.draw (B:Tb K H G p l F ns c H1)(hF:F≠p)(hP:Pen H2 p l ns)(s:SameX p H1 H2):Tb K H G p l F ns c H2:=by
 obtain⟨ys,h1,h2,h3⟩:=B.fo
 have x:Same (hd [F,p] H1) (hd [F,p] H2):=aIq (by simp) s
 exact⟨hP,B.sx.trans s,B.sm.trans x,ys,s _ _ hF h1,h2,λy hy=>mK _ _ _ x (h3 y hy)⟩
theorem yF {t:TE}{D:jG}(B:Tb K H G p l F ns c H1)(hl:l≠F)(hp:p≠F)(hF:H F=none)(hc:c<=2000)(v3:σ[3]?=some (some (.ref F)))(h:Ep (Th K) [F,p] t σ H1)(q:∀H2,Tb K H G p l F ns (c+1) H2->D.nx σ H2):jP (tBM K "list" dH (aD 3) (aB t aO)) D σ H1:=by
 obtain⟨ys,hys,yl,hy⟩:=B.fo
 refine⟨_,v3, .inl ⟨rfl,_, .of hys⟩,h H1 (Same.refl _) B.bls _ λx H2 s2 hx=>?_⟩
 have B2:=B.same s2
 have e:=aFC (S:=[F,p]) (H:=H2) (p:=F) (o := .lst (ys++[x])) (by simp)
 refine⟨F,ys,x,rfl,rfl,s2 _ _ hys,cp (show ys.length<=2000 by omega) (by decide),q _ ⟨B2.pen.upd (gh hp) (gh hl),λb o hb e=>?_,by rw[e];exact B2.sm,ys++[x],aF,by rw[au,fm];omega,λy hy'=>?_⟩⟩
 ·rw[aR (aN e hF)];exact B2.sx _ _ hb e
 ·rw[e]
  rcases bo.mp hy' with hy' | hy'
  ·exact mK _ _ _ (cU s2) (hy y hy')
  ·rw[ay.mp hy'];exact hx
theorem aIb {S:List Addr}{H:Hp}{t:V}{y:Int}(v2:σ[2]?=some (some t))(v4:σ[4]?=some (some (.int y)))(ht:LP (Tz K) 7 (hd S H) t):Ep (LP (Tz K) 21) S (bD (aHo K) [] E0 (aB (aD 2) (aB (aD 4) aO))) σ H:=λH1 s hb Q q=>⟨_,v2,_,v4,S,t,y,rfl,hb,kJ bJ _ _ _ (cU s) ht,λx H2 s2 hx=>q x H2 s2 hx⟩
theorem aDJ {S:List Addr}{H:Hp}{n:Nat}(n8:n<=8)(v1:σ[1]?=some (some (.int (n:Int)))):Ep (LP (Tz K) 56) S (bD (dC K) [] E0 (aB (aD 1) aO)) σ H:=λH1 s hb Q q=>⟨_,v1,n,rfl,n8,λF ys M H2 s2 hF0 hF hM gM _ ml=>q _ _ s2 ⟨F,ys,rfl,by rw[eR (hb.new hF0)];exact hF,by rw[hM.1,bR];exact ml,λx hx=>by
 obtain⟨i,hi⟩:=jw hx
 obtain⟨e,b,he,rfl,hs⟩:=fW hM hi
 have:=gM e (a8 he)
 exact⟨b,e.1,e.2,rfl,uS hs (hb.same s2),by omega,by omega⟩⟩⟩
def aHU (K:aa):Sp:=λvs H Q _=>∃(p l:Addr) (ns:List Int) (n:Nat) (t:Addr) (xs:List V),vs=[.ref p, .int (n:Int), .ref t]/\Pen H p l ns/\n<=8/\H t=some (.lst xs)/\xs.length<=7/\(∀x∈xs,Tz K H x)/\t≠p /\
 ∀F ys H',Pen H' p l ns->SameX p H H'->H F=none->H' F=some (.lst ys)->ys.length<=1000->(∀y∈ys,Th K H' y)->Q (.ref F) H'
theorem aHA {S:List Addr}{H:Hp}{t:TE}{m e:Nat}(h:Ep (AmP K m e) S t σ H)(h1:m<=60:=by decide)(h2:e<=3:=by decide):Ep (AmP K 60 3) S t σ H:=up h h1 h2
theorem aHP {S:List Addr}{H:Hp}{t:TE}(h:Ep (AmP K 8 0) S t σ H):Ep (AmP K 20 1) S t σ H:=up h
section
variable {S:List Addr}{H:Hp}{i j n:Nat}{x7:V}{k:Nat}(v1:σ[1]?=some (some (.int (n:Int))))(v5:σ[5]?=some (some (.int (i:Int))))(v6:σ[6]?=some (some (.int (j:Int))))(hn:n<=8)(hi:i<=8)(hj:j<=8)
include v1 v5 v6 hn hi hj
theorem oo1:Ep (LP (AmP K 60 3) 5) S (eU (aB (eK (aB (aD 6) (aB (aD 5) aO))) (aB (eU (aB (aD 5) (aB (aD 6) aO))) (aB (eK (aB (aD 5) (aB (aD 6) (aB (aD 6) aO)))) (aB (eK (aB (aD 5) aO)) (aB (eK (aB (aD 5) (aB (aD 1) aO))) aO)))))) σ H:=
 have a5:=rN (K:=K) (S:=S) (H:=H) v5 (sm8 hi)
 have a6:=rN (K:=K) (S:=S) (H:=H) v6 (sm8 hj)
 have a1:=rN (K:=K) (S:=S) (H:=H) v1 (sm8 hn)
 aAJ dI (ac (gZ (ac a6 (ac a5 dP))) (ac (aFO (ac a5 (ac a6 dP))) (ac (gZ (ac a5 (ac a6 (ac a6 dP)))) (ac (gZ (ac a5 dP)) (ac (gZ (ac a5 (ac a1 dP))) dP)))))
theorem oo2:Ep (LP (AmP K 60 3) 3) S (eU (aB (eK (aB (tUn aEt (tC (.int 1))) (aB (aD 6) aO))) (aB (eK (aB (aD 5) (aB (tC (.bl true)) aO))) (aB (eK (aB (aD 5) (aB (tCB xE (aB (aD 6) aO)) aO))) aO)))) σ H:=
 have a5:=rN (K:=K) (S:=S) (H:=H) v5 (sm8 hi)
 have a6:=rN (K:=K) (S:=S) (H:=H) v6 (sm8 hj)
 aAJ dI (ac (gZ (ac aFZ (ac a6 dP))) (ac (gZ (ac a5 (ac aHW dP))) (ac (gZ (ac a5 (ac (aFw v6 (by omega) (sm8 hj)) dP))) dP)))
theorem oo3:Ep (LP (AmP K 60 3) 3) S (eU (aB (eK (aB (tOp (fZ K) (aD 5) (tC (.int 1))) (aB (aD 6) aO))) (aB (eK (aB (tOp yGt (aD 5) (tC (.int 0))) (aB (aD 6) aO))) (aB (eK (aB (tCB xE (aB (aD 5) aO)) (aB (aD 6) aO))) aO)))) σ H:=
 have a6:=rN (K:=K) (S:=S) (H:=H) v6 (sm8 hj)
 aAJ dI (ac (gZ (ac (aIm v5) (ac a6 dP))) (ac (gZ (ac (aIk v5) (ac a6 dP))) (ac (gZ (ac (aFw v5 (by omega) (sm8 hi)) (ac a6 dP))) dP)))
theorem oo4:Ep (LP (AmP K 60 3) 4) S (eU (aB (eK (aB (tC .non) (aB (aD 6) aO))) (aB (eK (aB (aD 5) (aB (tC .non) aO))) (aB (eK (aB (eK (aB (aD 5) aO)) (aB (aD 6) aO))) (aB (eK (aB (aD 5) (aB (eU (aB (aD 6) aO)) aO))) aO))))) σ H:=
 have a5:=rN (K:=K) (S:=S) (H:=H) v5 (sm8 hi)
 have a6:=rN (K:=K) (S:=S) (H:=H) v6 (sm8 hj)
 aAJ dI (ac (gZ (ac aDm (ac a6 dP))) (ac (gZ (ac a5 (ac aDm dP))) (ac (gZ (m:=20) (e:=1) (ac (gZ (ac a5 dP)) (ac (aHP a6) dP))) (ac (gZ (m:=20) (e:=1) (ac (aHP a5) (ac (aFO (ac a6 dP)) dP))) dP))))
end
theorem aGC:∀vs H Q E,aHU K vs H Q E->dB K fQ (aAe K) (dC K) (aHo K) { nx:=λ_ H'=>Q .non H',rt:=Q } (bZ ["feed","many","ties","found","at","i","j","other","one","pair"] vs) H:=by
 intro vs H Q E h
 obtain⟨p,l,ns,n,t,xs,rfl,hP,n8,ht,x7,hx,tp,q⟩:=h
 have b0:BLs [p] H:=λb hb=>by
  rw[ay.mp hb]
  obtain⟨k,z,h,_⟩:=hP;exact⟨_,h⟩
 have lt0:LP (Tz K) 7 (hd [p] H) (.ref t):=⟨t,xs,rfl,by rw[eR (by simpa using tp)];exact ht,x7,λx hm=>aDw (hx x hm) b0⟩
 have lv:Ep (LP (Tz K) 7) [p] (aD 2) (bZ ["feed","many","ties","found","at","i","j","other","one","pair"] [.ref p, .int (n:Int), .ref t]) H:=gN bJ rfl lt0
 have a0:Aa (Th K) [p] (aB (wR K (aD 2)) (aB (tOp (bN K) (aD 2) (tSl (qS K) (aD 2) cL (eO (tC (.int 1))))) (aB (tOp (bN K) (aD 2) (eU (aB (tC .non) aO))) (aB (tOp (bN K) (tSl (qS K) (aD 2) cL (eO (tUn aEt (tC (.int 1))))) (eU (aB (tC (.int 7)) aO))) aO)))) (bZ ["feed","many","ties","found","at","i","j","other","one","pair"] [.ref p, .int (n:Int), .ref t]) H 4:=
  oK mK (aAD (aFM bJ lv)) (oK mK (aAD (gX bJ lv (zU bJ lv aBp p_c))) (oK mK (aGK (gX dI (aAD (j:=7) lv) (yD dI (aHA aDm)))) (oK mK (aGK (gX dI (aAD (j:=7) (zU bJ lv aBp aHe)) (yD dI (aHA aHw)))) dP)))
 unfold dB
 refine xD ?_
 refine aIu mK a0 (Same.refl _) b0 (by decide) λF fs G s1 hF0 hF fl hfs=>?_
 have hP1:=hP.x s1
 have nF:=hP.ne hF0
 have B0:Tb K H G p l F ns 4 G:=⟨hP1,s1.x,Same.refl _,fs,hF,by omega,hfs⟩
 have bG:BLs [F,p] G:=B0.bls
 have tF:t≠F:=aN ht hF0
 have ltG:LP (Tz K) 7 (hd [F,p] G) (.ref t):=⟨t,xs,rfl,by rw[eR (by simp[tF,tp])];exact s1 _ _ ht,x7,λx hm=>aDw (bJ _ _ _ s1 (hx x hm)) bG⟩
 have tG:hd [F,p] G t=some (.lst xs):=by rw[eR (by simp[tF,tp])];exact s1 _ _ ht
 have xG:∀x∈xs,Tz K (hd [F,p] G) x:=λx hm=>aDw (bJ _ _ _ s1 (hx x hm)) bG
 clear lt0 lv a0 hfs fl hx
 have hFp:F≠p:=nF.1
 have hFl:l≠F:=gh nF.2
 show aQ _ _ _ ([some (.ref p),some (.int (n:Int)),some (.ref t),some (.ref F),none,none,none,none,none,none]:St) G
 refine⟨_,rfl,_,rfl,t,xs,rfl, .inl (.of (dY _ _ tG)), .inl ⟨_,rfl,λpr hpr => .inr ⟨pr,0,_,rfl,aF,⟨by omega,by omega,by omega,by omega,by omega⟩,λb hb=>?_⟩⟩⟩
 rw[aGN]
 have s2:=aH hpr (.rng 0 (xs.length:Int))
 have s3:=aH hb (.lst ((aj xs.length).map aX))
 have B2:=(B0.same s2).same s3
 refine⟨p,l,ns,b,(aj xs.length).map aX,rfl,B2.pen,aF,by rw[ai,cq];omega,λx hx=>by
  obtain⟨i,_,rfl⟩:=c8.mp hx
  exact .inl ⟨_,rfl⟩,λO ms' H3 hP3 sx3 hO0 hO pm'=>?_⟩
 obtain⟨ms,pm,rfl⟩:=sE pm'
 have B3:=B2.draw hFp hP3 sx3
 refine⟨_,rfl, .inl ⟨O,_,rfl, .of hO,λo2 ho2=>⟨o2,rfl, .inl ⟨⟨_, .of aF⟩,?_⟩⟩⟩⟩
 have B4:=B3.same (aH ho2 (.lst (oT (ms.map aX) none (some 4))))
 have n2:=B3.bls.new ho2
 have h2:(upd H3 o2 (.lst (oT (ms.map aX) none (some 4)))) o2=some (.lst (oT (ms.map aX) none (some 4))):=aF
 have hms:∀x∈oT (ms.map aX) none (some 4),∃a:Nat,x=aX a/\a<xs.length:=λx hm=>by
  obtain⟨a,ha,rfl⟩:=c8.mp (aAw hm)
  exact⟨a,rfl,bb.mp (pm.mem_iff.mp ha)⟩
 have hml:(oT (ms.map aX) none (some 4)).length<=7:=bq (fF _ _ _) (by rw[ai,pm.length_eq,cq];exact x7)
 generalize oT (ms.map aX) none (some 4)=os at *
 generalize upd H3 o2 (.lst os)=G4 at *
 have lt4:=kJ bJ _ _ _ B4.sm ltG
 have t4:=B4.sm _ _ tG
 have hx4:∀x∈xs,Tz K (hd [F,p] G4) x:=λx hm=>bJ _ _ _ B4.sm (xG x hm)
 have o4':hd [F,p] G4 o2=some (.lst os):=by rw[eR n2];exact h2
 have B5:Tb K H G4 p l F ns 4 G4:=⟨B4.pen,B4.sx,Same.refl _,B4.fo⟩
 clear B4 B3 B2 s2 s3 sx3 hP3 hO hO0 pm pm' h2
 refine bW (K:=K) (a:=o2) (xs:=os) (λi σ' H'=>i<=os.length/\(∃x4 x5 x6 x7 x8 x9,σ'=[some (.ref p),some (.int (n:Int)),some (.ref t),some (.ref F),x4,x5,x6,x7,x8,x9])/\Tb K H G4 p l F ns (4+80*i) H') ⟨bc _,⟨_,_,_,_,_,_,rfl⟩,B5⟩ (λi σ2 H2 _ ⟨_,_,B⟩ => .of (dY _ _ (B.sm _ _ o4'))) (λi x σ2 H2 hx ⟨_,⟨x4,x5,x6,x7,x8,x9,e2⟩,B⟩=>?_) λσ2 H2 ⟨_,⟨x4,x5,x6,x7,x8,x9,e2⟩,B⟩=>?_
 ·subst e2
  have hi:=(ah.mp hx).1
  obtain⟨a,rfl,ha⟩:=hms x (a8 hx)
  have hta:=B.sm _ _ t4
  obtain⟨b,ti,tj,eb,hb,ti8,tj8⟩:=bJ _ _ _ B.sm (hx4 xs[a] (dg ha))
  refine⟨_,rfl,_,rfl,ixL (j:=a) (v := .ref b) (.of (dY _ _ hta)) (by rw[ae ha,eb]) ⟨b,_,rfl,dY.tup hb,rfl,aX ti,[aX tj],rfl,aX tj,[],rfl,rfl,?_⟩⟩
  show aQ _ _ _ ([some (.ref p),some (.int (n:Int)),some (.ref t),some (.ref F),some (aX a),some (aX ti),some (aX tj),x7,x8,x9]:St) H2
  refine xD ((oo1 (K:=K) (S:=[F,p]) (n:=n) (i:=ti) (j:=tj) rfl rfl rfl n8 ti8 tj8) H2 (Same.refl _) B.bls _ λy H3 s3 hy=>?_)
  have B:=B.same s3
  show aQ _ _ _ ([some (.ref p),some (.int (n:Int)),some (.ref t),some (.ref F),some (aX a),some (aX ti),some (aX tj),some y,x8,x9]:St) H3
  refine xD ((gX (K:=K) (S:=[F,p]) dI (gN (i:=7) dI rfl hy) (oo2 (n:=n) (i:=ti) (j:=tj) rfl rfl rfl n8 ti8 tj8)) H3 (Same.refl _) B.bls _ λy H4 s4 hy=>?_)
  have B:=B.same s4
  show aQ _ _ _ ([some (.ref p),some (.int (n:Int)),some (.ref t),some (.ref F),some (aX a),some (aX ti),some (aX tj),some y,x8,x9]:St) H4
  refine xD ((gX (K:=K) (S:=[F,p]) dI (gN (i:=7) dI rfl hy) (oo3 (n:=n) (i:=ti) (j:=tj) rfl rfl rfl n8 ti8 tj8)) H4 (Same.refl _) B.bls _ λy H5 s5 hy=>?_)
  have B:=B.same s5
  show aQ _ _ _ ([some (.ref p),some (.int (n:Int)),some (.ref t),some (.ref F),some (aX a),some (aX ti),some (aX tj),some y,x8,x9]:St) H5
  refine xD ((gX (K:=K) (S:=[F,p]) dI (gN (i:=7) dI rfl hy) (oo4 (n:=n) (i:=ti) (j:=tj) rfl rfl rfl n8 ti8 tj8)) H5 (Same.refl _) B.bls _ λy H6 s6 hy=>?_)
  have B:=B.same s6
  show aQ _ _ _ ([some (.ref p),some (.int (n:Int)),some (.ref t),some (.ref F),some (aX a),some (aX ti),some (aX tj),some y,x8,x9]:St) H6
  refine xD ((gX (K:=K) (S:=[F,p]) dI (gN (i:=7) dI rfl hy) (aAD (j:=56) (aDJ n8 rfl))) H6 (Same.refl _) B.bls _ λy H7 s7 hy=>?_)
  have B:=B.same s7
  show aQ _ _ _ ([some (.ref p),some (.int (n:Int)),some (.ref t),some (.ref F),some (aX a),some (aX ti),some (aX tj),some y,x8,x9]:St) H7
  obtain⟨q7,ys7,rfl,hq7,hl7,hy7⟩:=hy
  have lt7:=kJ bJ _ _ _ B.sm lt4
  have B7:Tb K H H7 p l F ns (4+80*i) H7:=⟨B.pen,B.sx,Same.refl _,B.fo⟩
  refine⟨_,rfl,q7,rfl, .inl ⟨⟨_, .of (dY _ _ hq7)⟩,?_⟩⟩
  refine bW (K:=K) (a:=q7) (xs:=ys7) (λk σ' H'=>k<=ys7.length/\(∃x8 x9,σ'=[some (.ref p),some (.int (n:Int)),some (.ref t),some (.ref F),some (aX a),some (aX ti),some (aX tj),some (.ref q7),x8,x9])/\Tb K H H7 p l F ns (4+80*i+k) H') ⟨bc _,⟨_,_,rfl⟩,B7⟩ (λk σ3 H3 _ ⟨_,_,B⟩ => .of (dY _ _ (B.sm _ _ hq7))) (λk x σ3 H3 hx3 ⟨_,⟨x8,x9,e3⟩,B⟩=>?_) λσ3 H3 ⟨_,⟨x8,x9,e3⟩,B8⟩=>?_
  ·subst e3
   have hk:=(ah.mp hx3).1
   have ax:AmP K 60 3 (hd [F,p] H3) x:=dI _ _ _ B.sm (hy7 x (a8 hx3))
   have lt8:=kJ bJ _ _ _ B.sm lt7
   refine yF B hFl (gh hFp) hF0 (by omega) rfl ?_ λH9 B9=>⟨hk,⟨_,_,rfl⟩,B9⟩
   exact aGK (gX dI (gX dI (aAD (j:=7) (zU bJ (gN (i:=2) bJ rfl lt8) aBp (xQ (i:=4) rfl))) (yD dI (qJ (i:=8) dI rfl ax))) (aAD (j:=7) (zU bJ (gN (i:=2) bJ rfl lt8) (aBu (i:=4) rfl) aBp)))
  ·subst e3
   have lt8:=kJ bJ _ _ _ B8.sm lt7
   refine yF B8 hFl (gh hFp) hF0 (by omega) rfl ?_ λH9 B9=>?_
   ·exact aAD (gX bJ (zU bJ (gN (i:=2) bJ rfl lt8) aBp (xQ (i:=4) rfl)) (zU bJ (gN (i:=2) bJ rfl lt8) (aBu (i:=4) rfl) aBp))
   have lt9:=kJ bJ _ _ _ B9.sm lt7
   refine yF B9 hFl (gh hFp) hF0 (by omega) rfl (aAD (aIb (y:=(a:Int)) rfl rfl lt9)) λH10 B10=>⟨hi,⟨_,_,_,_,_,_,rfl⟩,B10.pen,B10.sx,B.sm.trans B10.sm,?_⟩
   obtain⟨zs,z1,z2,z3⟩:=B10.fo
   exact⟨zs,z1,by omega,z3⟩
 ·subst e2
  have oc:os.length<=7:=hml
  refine⟨_,rfl,_,rfl,t,xs,rfl, .inl (.of (dY _ _ (B.sm _ _ t4))),?_⟩
  refine⟨p,l,ns,xs.length+1,rfl,B.pen,by omega,cp (show xs.length+1<=8 by omega) (by decide),λr H3 _ hP3 sx3=>?_⟩
  have B3:=B.draw hFp hP3 sx3
  show aQ _ _ _ ([some (.ref p),some (.int (n:Int)),some (.ref t),some (.ref F),some (.int (r:Int)),x5,x6,x7,x8,x9]:St) H3
  refine⟨_,rfl,n,rfl,n8,λP ps M H5 s5 hP0 hPl hM gM _ ml=>⟨P,rfl, .inl ⟨⟨_, .of hPl⟩,?_⟩⟩⟩
  have nP:=B3.bls.new hP0
  have B5:=B3.same s5
  have lt5:=kJ bJ _ _ _ B5.sm lt4
  have p5:hd [F,p] H5 P=some (.lst ps):=by rw[eR nP];exact hPl
  have bl5:=B5.bls
  have pz:∀x∈ps,Tz K (hd [F,p] H5) x:=λx hx=>by
   obtain⟨i,hi⟩:=jw hx
   obtain⟨e,b,he,rfl,hs⟩:=fW hM hi
   have:=gM e (a8 he)
   exact⟨b,e.1,e.2,rfl,uS hs bl5,by omega,by omega⟩
  have pl:ps.length<=56:=by rw[hM.1,bR];exact ml
  have B6:Tb K H H5 p l F ns 564 H5:=⟨B5.pen,B5.sx,Same.refl _,by
   obtain⟨zs,z1,z2,z3⟩:=B5.fo
   exact⟨zs,z1,by omega,z3⟩⟩
  clear B5 B3 B
  refine bW (K:=K) (a:=P) (xs:=ps) (λk σ' H'=>k<=ps.length/\(∃x9,σ'=[some (.ref p),some (.int (n:Int)),some (.ref t),some (.ref F),some (.int (r:Int)),x5,x6,x7,x8,x9])/\Tb K H H5 p l F ns (564+2*k) H') ⟨bc _,⟨_,rfl⟩,B6⟩ (λk σ3 H3 _ ⟨_,_,B⟩ => .of (dY _ _ (B.sm _ _ p5))) (λk x σ3 H3 hx3 ⟨_,⟨x9,e3⟩,B⟩=>?_) λσ3 H3 ⟨_,⟨x9,e3⟩,B⟩=>?_
  ·subst e3
   have hk:=(ah.mp hx3).1
   have ax:Tz K (hd [F,p] H3) x:=bJ _ _ _ B.sm (pz x (a8 hx3))
   have lt8:=kJ bJ _ _ _ B.sm lt5
   refine yF B hFl (gh hFp) hF0 (by omega) rfl ?_ λH9 B9=>?_
   ·exact aAD (gX bJ (gX bJ (zU bJ (gN (i:=2) bJ rfl lt8) aBp (xQ (i:=4) rfl)) (yD bJ (qJ (i:=9) bJ rfl ax))) (zU bJ (gN (i:=2) bJ rfl lt8) (xQ (i:=4) rfl) aBp))
   have lt9:=kJ bJ _ _ _ B9.sm lt5
   have ax9:Tz K (hd [F,p] H9) x:=bJ _ _ _ B9.sm (pz x (a8 hx3))
   exact yF B9 hFl (gh hFp) hF0 (by omega) rfl (aAD (aFh (gX bJ (gN (i:=2) bJ rfl lt9) (yD bJ (qJ (i:=9) bJ rfl ax9))))) λH10 B10=>⟨hk,⟨_,rfl⟩,B10⟩
  ·subst e3
   obtain⟨zs,z1,z2,z3⟩:=B.fo
   exact⟨_,rfl,q F zs H3 B.pen B.sx hF0 z1 (by omega) λy hy=>mK _ _ _ dY (z3 y hy)⟩
end
section
variable {K:aa}
theorem Tz.of_row {H:Hp}{xs:List V}{L:List (Nat×Nat)}{n:Nat}(h:Rows K H xs (prN L))(v:Vd L n)(n8:n<=8):∀x∈xs,Tz K H x:=λx hx=>by
 obtain⟨i,hi⟩:=jw hx
 obtain⟨e,b,he,rfl,hs⟩:=fW h hi
 have:=v e (a8 he)
 exact⟨b,e.1,e.2,rfl,hs,by omega,by omega⟩
theorem aGl {H:Hp}{x:V}(h:Th K H x):∃t ds xs,x = .ref t/\Thg K H t ds xs:=by
 obtain⟨a,xs,rfl,ha,hl,hx⟩:=h
 obtain⟨ds,h1,h2,h3,_⟩:=lH hx
 exact⟨a,ds,xs,rfl,ha,h1,h3,by omega⟩
theorem aFl {H:Hp}{x:V}(h:Th K H x):∃d,Sh K H d x/\okR d:=by
 obtain⟨a,xs,rfl,ha,hl,hx⟩:=h
 obtain⟨d,h1,h2,_⟩:=(aCP (k:=24) (.of ha) hl hx).goo (by decide) (by decide)
 exact⟨d,h1,h2⟩
structure TA (K:aa)(H:Hp)(p:Addr)(n:Nat)(x:V):Prop where
 ex:∃t L ys,x = .ref t/\t≠p/\IsT L n/\Srt (prN L)/\H t=some (.lst ys)/\Rows K H ys (prN L)
theorem Pen.sqT {H H':Hp}{p l:Addr}{ns:List Int}(h:Pen H p l ns)(sx:SameX p H H'):∀b ys,SqT K H b ys->SqT K H' b ys:=λb ys hb=>by
 obtain⟨k,z,e,_⟩:=h
 exact wU hb e sx
theorem TA.x {H H':Hp}{p l:Addr}{ns:List Int}{n:Nat}{x:V}(h:TA K H p n x)(hP:Pen H p l ns)(sx:SameX p H H'):TA K H' p n x:=by
 obtain⟨t,L,ys,e,tp,it,srt,ht,hr⟩:=h
 exact⟨t,L,ys,e,tp,it,srt,sx _ _ tp ht,hr.map (hP.sqT sx)⟩
theorem TA.same {H H':Hp}{p:Addr}{n:Nat}{x:V}(h:TA K H p n x)(s:Same H H'):TA K H' p n x:=by
 obtain⟨t,L,ys,e,tp,it,srt,ht,hr⟩:=h
 exact⟨t,L,ys,e,tp,it,srt,s _ _ ht,hr.same s⟩
structure Tt (K:aa)(H:Hp)(n:Nat)(v:V):Prop where
 ex:∃T,Sh K H (uO T) v/\Quad T n/\Sy T n
theorem Tt.x {H H':Hp}{p l:Addr}{ns:List Int}{n:Nat}{v:V}(h:Tt K H n v)(hP:Pen H p l ns)(sx:SameX p H H'):Tt K H' n v:=let⟨T,a,b,c⟩:=h.ex;⟨T,aDt a (hP.sqT sx),b,c⟩
theorem Tt.same {H H':Hp}{n:Nat}{v:V}(h:Tt K H n v)(s:Same H H'):Tt K H' n v:=let⟨T,a,b,c⟩:=h.ex;⟨T,a.same s,b,c⟩
theorem Tt.len {H:Hp}{n:Nat}{v:V}(h:Tt K H n v):∃a rs,v = .ref a/\SqT K H a rs/\rs.length=n:=by
 obtain⟨T,a,b,c⟩:=h.ex
 obtain⟨va,rs,e,h1,h2,_⟩:=a.tab
 exact⟨va,rs,e,h1,h2.trans b.len⟩
def thC (K:aa):TS:=(aQ (bO (bD (aCo K) [] E0 (aB (aD 3) (aB (aD 5) aO))) (aJ 8)) (aQ (fA (tOr (yA (tB (tCB (xM K) (aB (aD 8) (aB (tC (.ty "bool")) aO))))) (tOr (bU (tOp (vN K) (aD 8) (aD 7))) (bU (tOp (vN K) (tCB (wF K) (aB (aD 5) aO)) (aD 6))))) (aQ (eZ (tC (.bl false))) aL) aL) aL))
def thB (K:aa):TS:=(aQ (bO (tCB (wF K) (aB (aD 5) aO)) (aJ 6)) (aQ (bO (nB (bD (aFN K) [] E0 (aB (tCB (hU K) (aB (aD 3) aO)) (aB (aD 5) aO))) (bD (aGw K) [] E0 (aB (aD 3) (aB (aD 5) aO)))) (aJ 7)) (thC K)))
theorem aES {H:Hp}{D:jG}{n:Nat}{v x:V}{s0 s1 s2 s4 s6 s7 s8 s9 s10:Option V}(hT:Tt K H n v)(n1:1<=n)(n8:n<=8)(hx:Th K H x)(q:∀H' x6 x7 x8,Same H H'->D.nx [s0,s1,s2,some v,s4,some x,x6,x7,x8,s9,s10] H'):thB K D [s0,s1,s2,some v,s4,some x,s6,s7,s8,s9,s10] H:=by
 obtain⟨T,hS,qT,sy⟩:=id hT.ex
 obtain⟨va,rs,rfl,ha,hrl⟩:=hT.len
 obtain⟨d,hd,ok⟩:=aFl hx
 obtain⟨t,ds,xs,rfl,hg⟩:=aGl hx
 refine⟨_,rfl,d,_,rfl,hd,ok,?_⟩
 have cont:∀b,(b=true↔LtD T n ds)->∀H1,Same H H1->thC K D [s0,s1,s2,some (.ref va),s4,some (.ref t),some (.str (toP d).shown),some (.bl b),s8,s9,s10] H1:=λb hb H1 m1=>by
  refine⟨_,rfl,_,rfl, .ref va,T,n,t,ds,xs,rfl,hS.same m1,qT,sy,hg.same m1,n1,n8,λb2 hb2 H2 m2=>?_⟩
  have e:b2=b:=Bool.eq_iff_iff.mpr (hb2.trans hb.symm)
  subst e
  have m12:=m1.trans m2
  refine⟨_,rfl, .bl b2, .bl b2,"bool",rfl,by decide,rfl,_,rfl,cA rfl ⟨_,rfl,_,rfl, .bl b2, .bl b2,bc _,rfl,rfl,_,rfl,cA (by simp[eqD]) ⟨_,rfl,d,_,rfl,hd.same m12,ok,_,rfl, .str _, .str _,bc _,rfl,rfl,_,rfl,cA (by simp[eqD]) (q H2 _ _ _ m12)⟩⟩⟩
 refine⟨_,rfl,va,rs,rfl, .inr ha,_,rfl,n,t,ds,xs,by rw[hrl];rfl,hg,n1,n8,λb hb H1 m1=>⟨_,rfl,?_⟩⟩
 cases b with
 |false=>exact cA rfl (cont false ⟨(λz=>by cases z),λz=>by cases hb.mpr (LtD.trd z)⟩ H1 m1)
 |true=>
  obtain⟨L,rfl,it,srt⟩:=hb.mp rfl
  exact cF rfl ⟨_,rfl,_,rfl, .ref va,T,n,t,L,xs,rfl,hS.same m1,qT,sy,hg.same m1,it,n1,n8,λb2 hb2 H2 m2=>cont b2 (hb2.trans ⟨λz=>mH.mpr ⟨⟨it,srt⟩,z⟩,λz=>(mH.mp z).2⟩) H2 (m1.trans m2)⟩
def oB (K:aa):TS:=(aQ (bO (bD (aCo K) [] E0 (aB (aD 10) (aB (tCB (nE K) (aB (aD 4) aO)) aO))) (aJ 8)) (aQ (fA (tOr (yA (tB (tCB (xM K) (aB (aD 8) (aB (tC (.ty "bool")) aO))))) (bU (tOp (vN K) (aD 8) (bD (aGw K) [] E0 (aB (aD 10) (aB (aD 4) aO)))))) (aQ (eZ (tC (.bl false))) aL) aL) aL))
theorem aHu {H:Hp}{D:jG}{n:Nat}{p:Addr}{v x:V}{s0 s1 s2 s3 s5 s6 s7 s8 s9:Option V}(hT:Tt K H n v)(n1:1<=n)(n8:n<=8)(hx:TA K H p n x)(q:∀H' x8,Same H H'->D.nx [s0,s1,s2,s3,some x,s5,s6,s7,x8,s9,some v] H'):oB K D [s0,s1,s2,s3,some x,s5,s6,s7,s8,s9,some v] H:=by
 obtain⟨T,hS,qT,sy⟩:=id hT.ex
 obtain⟨t,L,ys,rfl,tp,it,srt,ht,hr⟩:=hx
 have l7:=it.len
 refine⟨_,rfl,_,rfl, .inl ⟨t,ys,rfl, .inl (.of ht),λc hc=>?_⟩⟩
 have m1:=aH hc (.lst ys)
 refine⟨v,T,n,c,L.map vP,ys,rfl,hS.same m1,qT,sy,uU aF (hr.same m1) (by omega),n1,n8,λb hb H2 m2=>?_⟩
 have m12:=m1.trans m2
 refine⟨_,rfl, .bl b, .bl b,"bool",rfl,by decide,rfl,_,rfl,cA rfl ⟨_,rfl,_,rfl,_,rfl,v,T,n,t,L,ys,rfl,hS.same m12,qT,sy,(uU ht hr (by omega)).same m12,it,n1,n8,λb2 hb2 H3 m3=>?_⟩⟩
 have e:b2=b:=Bool.eq_iff_iff.mpr (hb2.trans (hb.trans ⟨λz=>(mH.mp z).2,λz=>mH.mpr ⟨⟨it,srt⟩,z⟩⟩).symm)
 subst e
 exact⟨.bl b2, .bl b2,bc _,rfl,rfl,_,rfl,cA (by simp[eqD]) (q H3 _ (m12.trans m3))⟩
def aHn (K:aa):TE:=(eU (aB (bD (aGM K) [] E0 (aB (aD 1) (aB (aD 3) aO))) (aB (bD (aGR K) [] E0 (aB (aD 1) (aB (tCB (hU K) (aB (aD 3) aO)) aO))) aO)))
theorem aDf {g:TG}{b rest:TS}{D:jG}{H:Hp}{σ:St}{n:Nat}{p l:Addr}{ns:List Int}{v:V}(v1:σ[1]?=some (some (.ref p)))(v3:σ[3]?=some (some v))(hP:Pen H p l ns)(hT:Tt K H n v)(n1:1<=n)(n8:n<=8)(q:∀Z zs H',Pen H' p l ns->SameX p H H'->Z≠p->H' Z=some (.lst zs)->(∀x∈zs,TA K H' p n x)->gB (Itl K Z) g b { D with nx:=rest D } σ H'):aQ (hV (gL K (aHn K)) g b) rest D σ H:=by
 obtain⟨T,hS,qT,sy⟩:=id hT.ex
 refine⟨_,v1,_,v3,p,l,ns,v,T,n,rfl,hP,hS,qT,n1,n8,λtl ys L H2 hP2 sx2 ftl htl hr it srt=>?_⟩
 have hT2:=hT.x hP sx2
 obtain⟨va,rs,rfl,ha,hrl⟩:=hT2.len
 have tp:=(hP.ne ftl).1
 refine⟨_,v1,_,v3,va,rs,rfl, .inr ha,p,l,ns,n,by rw[hrl];rfl,hP2,n1,n8,λtl2 ys2 us es L2 H3 hP3 sx3 ftl2 htl2 hr2 tr2=>⟨show 2<=b8 by decide,λZ hZ=>?_⟩⟩
 have m:=aH hZ (.lst [.ref tl, .ref tl2])
 have A1:TA K H2 p n (.ref tl):=⟨tl,L,ys,rfl,tp,it,srt,htl,hr⟩
 have A2:TA K H3 p n (.ref tl2):=⟨tl2,L2,ys2,rfl,(hP2.ne ftl2).1,tr2.isT n1,tr2.srt,htl2,hr2⟩
 refine⟨Z,rfl, .inl ⟨⟨_, .of aF⟩,q Z _ _ (hP3.x m) ((sx2.trans sx3).trans m.x) (hP3.ne hZ).1 aF λx hx=>?_⟩⟩
 rcases a9.mp hx with rfl | hx
 ·exact(A1.x hP2 sx3).same m
 ·rw[ay.mp hx];exact A2.same m
def aBB (K:aa):Sp:=λvs H Q _=>∃(a:Addr) (ns:List Int),vs=[.ref a]/\SqL K H a (ns.map V.int)/\ns.length<=63/\∀H',Q (.bl true) H'
theorem aFu:∀vs H Q E,aBB K vs H Q E->aFt K (aGR K) (aDe K) (aGw K) (aFN K) (aGM K) (aCX K) (aHU K) (aCo K) { nx:=λ_ H'=>Q .non H',rt:=Q } (bZ ["script","feed","turn","table","ties","thing","seen","due","found","other","one"] vs) H:=by
 intro vs H Q E h
 obtain⟨a,ns0,rfl,hS0,h63,q⟩:=h
 refine⟨_,rfl,a,ns0,rfl,hS0,λp l ns H0 s0 hP0=>?_⟩
 refine⟨2,rfl,by decide,by decide,?_⟩
 refine cI (lo:=0) (n:=2) (λi σ' H'=>Pen H' p l ns/\∃x2 x3 x4 x5 x6 x7 x8 x9 x10,σ'=[some (.ref a),some (.ref p),x2,x3,x4,x5,x6,x7,x8,x9,x10]) ⟨hP0,_,_,_,_,_,_,_,_,_,rfl⟩ (λi σ' H' hi ⟨hP,x2,x3,x4,x5,x6,x7,x8,x9,x10,es⟩=>?_) λσ' H' _=>q H'
 subst es
 refine⟨_,rfl,p,l,ns,1,7,rfl,by decide,by decide,hP,λT n v H1 n1 n8 qT bT sT hS1 hP1 sx1=>?_⟩
 have hT1:Tt K H1 n v:=⟨T,hS1,qT,sT⟩
 clear hS1 qT bT sT
 show aQ (hV (gL K (aHn K)) _ _) _ _ ([some (.ref a),some (.ref p),some (.int ((0:Int)+(i:Int))),some v,x4,x5,x6,x7,x8,x9,x10]:St) H1
 refine aDf (K:=K) (σ:=[some (.ref a),some (.ref p),some (.int ((0:Int)+(i:Int))),some v,x4,x5,x6,x7,x8,x9,x10]) rfl rfl hP1 hT1 n1 n8 λZ zs H2 hP2 sx2 Zp hZ hA=>?_
 have hT2:=hT1.x hP1 sx2
 refine bW (K:=K) (a:=Z) (xs:=zs) (λi σ' H'=>Pen H' p l ns/\SameX p H2 H'/\∃x2 x4 x5 x6 x7 x8 x9 x10,σ'=[some (.ref a),some (.ref p),x2,some v,x4,x5,x6,x7,x8,x9,x10]) ⟨hP2,SameX.refl _ _,_,_,_,_,_,_,_,_,rfl⟩ (λi σ' H' _ ⟨_,sx,_⟩ => .of (sx _ _ Zp hZ)) (λi x σ' H' hx ⟨hP,sx,x2,x4,x5,x6,x7,x8,x9,x10,es⟩=>?_) λσ' H' ⟨hP,sx,x2,x4,x5,x6,x7,x8,x9,x10,es⟩=>?_
 ·subst es
  have hAx:=(hA x (a8 hx)).x hP2 sx
  have hTx:=hT2.x hP2 sx
  obtain⟨t,L,ys,rfl,tp,it,srt,ht,hr⟩:=id hAx.ex
  obtain⟨va,rs,rfl,ha,hrl⟩:=hTx.len
  have l7:=it.len
  refine⟨_,rfl,show 1<=b8 by decide,λw hw=>?_⟩
  have m1:=aH hw (.lst [.ref t])
  have hP3:=hP.x m1
  have yl:ys.length=L.length:=by rw[hr.1,bR]
  refine⟨_,rfl,_,rfl,va,rs,rfl, .inr (m1.tup ha),_,rfl,p,l,ns,n,t,ys,by rw[hrl];rfl,hP3,n8,m1 _ _ ht,by omega,Tz.of_row (hr.same m1) it.vd n8,tp,λF fs H4 hP4 sx4 hF0 hF fl hth=>?_⟩
  have w4:=sx4 _ _ (hP.ne hw).1 (aF (H:=H') (o := .lst [.ref t]))
  refine .inl ⟨w,F,[.ref t],fs,rfl,rfl,w4,hF,bq (show _<=1001 by rw[fm];omega) (by decide),λW hW=>?_⟩
  have m5:=aH hW (.lst ([.ref t]++fs))
  have sx5:=(m1.x.trans sx4).trans m5.x
  have hT5:=(hTx.x hP (m1.x.trans sx4)).same m5
  have hA5:=(hAx.x hP (m1.x.trans sx4)).same m5
  have hP5:=hP4.x m5
  have sxR:=sx.trans sx5
  have hall:∀x∈[V.ref t]++fs,Th K (upd H4 W (.lst ([.ref t]++fs))) x:=λx hx=>by
   rcases bo.mp hx with hx | hx
   ·rw[ay.mp hx]
    obtain⟨t',L',ys',e,_,it',_,ht',hr'⟩:=hA5
    cases e
    have l7':=it'.len
    exact aDu (aEK (k:=8) ⟨t,ys',rfl,ht',by rw[hr'.1,bR];omega,Tz.of_row hr' it'.vd n8⟩) (by decide)
   ·exact mK _ _ _ m5 (hth x hx)
  have hW5:(upd H4 W (.lst ([.ref t]++fs))) W=some (.lst ([.ref t]++fs)):=aF
  refine⟨W,rfl, .inl ⟨⟨_, .of hW5⟩,?_⟩⟩
  generalize upd H4 W (.lst ([.ref t]++fs))=G at *
  refine bW (K:=K) (a:=W) (xs:=[.ref t]++fs) (λi σ' H'=>Same G H'/\∃x5 x6 x7 x8,σ'=[some (.ref a),some (.ref p),x2,some (.ref va),some (.ref t),x5,x6,x7,x8,x9,x10]) ⟨Same.refl _,_,_,_,_,rfl⟩ (λi σ' H' _ ⟨s,_⟩ => .of (s _ _ hW5)) (λi x σ' H' hx ⟨s,x5,x6,x7,x8,es⟩=>?_) λσ' H' ⟨s,x5,x6,x7,x8,es⟩=>?_
  ·subst es
   show thB K _ ([some (.ref a),some (.ref p),x2,some (.ref va),some (.ref t),some x,x6,x7,x8,x9,x10]:St) H'
   exact aES (hT5.same s) n1 n8 (mK _ _ _ s (hall x (a8 hx))) λH6 y6 y7 y8 s6=>⟨s.trans s6,_,_,_,_,rfl⟩
  ·subst es
   exact⟨hP5.x s,sxR.trans s.x,_,_,_,_,_,_,_,_,rfl⟩
 ·subst es
  have hTx:=hT2.x hP2 sx
  obtain⟨va,rs,rfl,ha,hrl⟩:=hTx.len
  refine⟨_,rfl,_,rfl,va,rs,rfl, .inr ha,_,rfl,va,rs,rfl, .inr ha,p,l,ns,n,0,by rw[hrl];rfl,n1,by omega,hP,λT' n' v' H3 m1 m2 qT' bT' sT' hS3 hP3 sx3=>?_⟩
  obtain rfl:n'=n:=by omega
  have hT3:Tt K H3 n' v':=⟨T',hS3,qT',sT'⟩
  have hTv:=hTx.x hP sx3
  show aQ (hV (gL K (aHn K)) _ _) _ _ ([some (.ref a),some (.ref p),x2,some (.ref va),x4,x5,x6,x7,x8,some v',x10]:St) H3
  refine aDf (K:=K) (σ:=[some (.ref a),some (.ref p),x2,some (.ref va),x4,x5,x6,x7,x8,some v',x10]) rfl rfl hP3 hTv n1 n8 λZ2 zs2 H4 hP4 sx4 Zp2 hZ2 hA2=>?_
  have hT4:=hT3.x hP3 sx4
  have hV4:=hTv.x hP3 sx4
  refine bW (K:=K) (a:=Z2) (xs:=zs2) (λi σ' H'=>Same H4 H'/\∃x4 x5 x6 x7 x8 x10,σ'=[some (.ref a),some (.ref p),x2,some (.ref va),x4,x5,x6,x7,x8,some v',x10]) ⟨Same.refl _,_,_,_,_,_,_,rfl⟩ (λi σ' H' _ ⟨s,_⟩ => .of (s _ _ hZ2)) (λi x σ' H' hx ⟨s,x4,x5,x6,x7,x8,x10,es⟩=>?_) λσ' H' ⟨s,x4,x5,x6,x7,x8,x10,es⟩=>?_
  ·subst es
   refine⟨_,rfl,_,rfl,_,rfl,show 3<=b8 by decide,λY hY=>?_⟩
   have mY:=aH hY (.tup [.ref va,v', .ref va])
   have sY:=s.trans mY
   have hY5:(upd H' Y (.tup [.ref va,v', .ref va])) Y=some (.tup [.ref va,v', .ref va]):=aF
   refine⟨Y,rfl, .inr ⟨⟨_, .of hY5⟩,?_⟩⟩
   generalize upd H' Y (.tup [.ref va,v', .ref va])=GY at *
   refine aAC (K:=K) (a:=Y) (xs:=[.ref va,v', .ref va]) (λi σ' H'=>Same GY H'/\∃x8 x10,σ'=[some (.ref a),some (.ref p),x2,some (.ref va),some x,x5,x6,x7,x8,some v',x10]) ⟨Same.refl _,_,_,rfl⟩ (λi σ' H' _ ⟨s,_⟩ => .of (s _ _ hY5)) (λi y σ' H' hy ⟨s,x8,x10,es⟩=>?_) λσ' H' ⟨s,x8,x10,es⟩=>?_
   ·subst es
    have s0':=s
    have s:=sY.trans s
    have hy':Tt K H' n' y:=by
     have:=a8 hy
     rcases a9.mp this with rfl | this
     ·exact hV4.same s
     ·rcases a9.mp this with rfl | this
      ·exact hT4.same s
      ·rw[ay.mp this];exact hV4.same s
    show oB K _ ([some (.ref a),some (.ref p),x2,some (.ref va),some x,x5,x6,x7,x8,some v',some y]:St) H'
    exact aHu hy' n1 n8 ((hA2 x (a8 hx)).same s) λH6 y8 s6=>⟨s0'.trans s6,_,_,rfl⟩
   ·subst es
    exact⟨sY.trans s,_,_,_,_,_,_,rfl⟩
  ·subst es
   exact⟨hP4.x s,_,_,_,_,_,_,_,_,_,rfl⟩
end
section
variable {K:aa}{C_NotEven:Addr}
end
theorem all_mk {P:Program}{w:World}{K:aa}{h:Heap}{mg:Str->Option Value}{fa:Addr}(X:K.In h)(G:h.Ns c9 mg)(hfa:mg "law" = some (.ref fa))
  (h0:FnIn K "is_whole" "is_whole" (top 4))
  (h1:FnIn K "are_wholes" "are_wholes" (top 5))
  (h2:FnIn K "is_tie" "is_tie" (top 6))
  (h3:FnIn K "parts" "parts" (top 7))
  (h4:FnIn K "is_even" "is_even" (top 9))
  (h5:FnIn K "least_tree" "least_tree" (top 11))
  (h6:FnIn K "tree_sum" "tree_sum" (top 12))
  (h7:FnIn K "is_least_tree" "is_least_tree" (top 13))
  (h8:FnIn K "is_tree" "is_tree" (top 14))
  (h9:FnIn K "_law_cmixed" "_law_cmixed" (top 16))
  (h10:FnIn K "_law_copen" "_law_copen" (top 17))
  (h11:FnIn K "_law_cdraw" "_law_cdraw" (top 18))
  (h12:FnIn K "_law_cwhole" "_law_cwhole" (top 19))
  (h13:FnIn K "_law_cpairs" "_law_cpairs" (top 20))
  (h14:FnIn K "_law_cshort" "_law_cshort" (top 21))
  (h15:FnIn K "_law_ceven" "_law_ceven" (top 22))
  (h16:FnIn K "_law_cahead" "_law_cahead" (top 23))
  (h17:FnIn K "_law_cis_tie" "_law_cis_tie" (top 24))
  (h18:FnIn K "_law_cis_tree" "_law_cis_tree" (top 25))
  (h19:FnIn K "_law_cis_least" "_law_cis_least" (top 26))
  (h20:FnIn K "_law_corder" "_law_corder" (top 27))
  (h21:FnIn K "_law_cdrawn_tree" "_law_cdrawn_tree" (top 28))
  (h22:FnIn K "_law_cleast_ties" "_law_cleast_ties" (top 29))
  (h23:FnIn K "_law_ctie_bends" "_law_ctie_bends" (top 30))
  (h24:FnIn K "_law_cswapped" "_law_cswapped" (top 31))
  (h25:FnIn K "law" "law" (top 32))
  (Z:ZIn K)
  {C_NotEven:Addr} (ac_NotEven:et K c9 "NotEven" = some (some (.ref C_NotEven)))
  (XC_NotEven:oe K C_NotEven aGu "ValueError.__new__" = true) :
  ∃fd:FuncData,(∀(s:Shared) (v:Value),zk s fd ⟨[v],[]⟩ [("script",v)])/\∀base:Heap,K.In base->base.Ns c9 mg->FnOk P w K mg base CX0 6 fa fd ["script"] (aBB K):=by
 have B:=Z.blt X G
 have GC_NotEven:=vf X G ac_NotEven
 refine' h25.law X G hfa (λb=>?_) (aFu)
 have xZ:=h0.dN P w b X G (uJ B) (vK)
 have aEB:=h3.dN P w b X G (aBJ B) (K31.Q.rd_parts)
 have aBm:=h4.dN P w b X G (xK B) (aDs)
 have oO:=h6.dN P w b X G (tS B) (aGV)
 have qE:=h9.dN P w b X G (nG ) (aEI)
 have sW:=h10.dN P w b X G (pE B) (aDU)
 have qF:=h12.dN P w b X G (nJ B) (aBd)
 have dO:=h13.dN P w b X G (nD B) (aBA)
 have qG:=h14.dN P w b X G (mZ B) (aAL)
 have fM:=h16.dN P w b X G (nH B) (aBy)
 have mU:=h24.dN P w b X G (kL ) (aHl)
 have sX:=h1.dN P w b X G (pJ B xZ) (aAa)
 have qH:=h5.dX P w b X G (oS B GC_NotEven XC_NotEven aBm oO) (aDN)
 have eI:=h11.dN P w b X G (pA B qE) (aEo)
 have nM:=h17.dN P w b X G (mC B qF) (aDz)
 have kQ:=h19.dN P w b X G (jK B dO fM) (yE)
 have aCD:=h2.dN P w b X G (aAh B sX) (aFi)
 have sZ:=h15.dN P w b X G (pY B eI dO qG) (aCp)
 have mV:=h18.dN P w b X G (kO B fM nM) (aCe)
 have fN:=h20.dN P w b X G (nC B eI) (aEQ)
 have aBn:=h8.dN P w b X G (wS B aCD aEB) (aCi)
 have jE:=h21.dN P w b X G (gW B eI fN) (aHd)
 have jF:=h22.dN P w b X G (gY B dO fM fN) (aHi)
 have jR:=h23.dN P w b X G (iK B eI dO fN mU) (aGC)
 have kR:=h7.dX P w b X G (kM B oO aBn qH) ((aFU (C:=C_NotEven)))
 exact aER B jE sZ kQ mV jF sW jR kR
theorem walk {l:PySem.W.OpenLaw}{q:Program}{loose:List Str}{XP:(Str->Option Value)->Heap->Prop}{YP:World->Heap->Prop}{d:DefRec}{K:Params->aa}(hn:l.most=some 63)(hdf:d.params.defaults=[])
  (hY:∀(w:World) (h:Heap),YP w h->(K w.params).In h)
  (F:∀(w:World) (mg:Str->Option Value) (fa:Addr) (h:Heap),(K w.params).In h->h.Ns c9 mg->mg d.name=some (.ref fa) ->
   ∃fd:FuncData,(∀(s:Shared) (u:Value),zk s fd ⟨[u],[]⟩ [("script",u)])/\∀base:Heap,(K w.params).In base->base.Ns c9 mg->FnOk l.prog w (K w.params) mg base CX0 6 fa fd ["script"] (aBB (K w.params))) :
  PySem.W.WalkO q loose XP YP l.row.toRowW d [] (λf vs=>PySem.call f vs):=
 L2.aEc (n:=63) (k:=6) (x:="script") (CX:=λ_=>CX0) (sp:=λw=>aBB (K w.params)) hn (by decide) hdf ⟨rfl,by decide,by decide,rfl⟩ hY F (λ_ _ a ns hl _ hS=>⟨a,ns,rfl,hS,hl,λ_=>rfl⟩) λ_ _ _ _ _ z=>z
end K31
open PySem PySem.W PyProof.Rows
def PySem.W.Fast.tw12656447529097122158:=0
def PySem.W.Fast.tw12503540613458908382:=0
def PySem.W.Fast.tw10408275618581379603:=0
def PySem.W.Fast.tw7932964688640219731:=0
def PySem.W.Fast.tw6896771733611279330:=0
def PySem.W.Fast.tw7905476443933613556:=0
def PySem.W.Fast.tw12004539375229801003:=0
def PySem.W.Fast.tw1949847703778812354:=0
def PySem.W.Fast.tw15387358034995637605:=0
def PySem.W.Fast.tw8241772177043634938:=0
def PySem.W.Fast.tw13824904797868467953:=0
def PySem.W.Fast.tw145166362270070289:=0
def PySem.W.Fast.tw4839695363447320126:=0
def PySem.W.Fast.tw13016085014665369417:=0
def PySem.W.Fast.tw10527609171683810712:=0
def PySem.W.Fast.tw9049033718759733246:=0
def PySem.W.Fast.tw7694760327152341361:=0
def PySem.W.Fast.tw9334972533119221034:=0
def PySem.W.Fast.tw14051972875541312749:=0
def PySem.W.Fast.tw14606414967143128291:=0
def PySem.W.Fast.tw1490744051736791796:=0
def PySem.W.Fast.tw1256443666423867348:=0
def PySem.W.Fast.tw12751800932311800753:=0
def PySem.W.Fast.tw12892758540369949293:=0
def PySem.W.Fast.tw6514726795419682771:=0
def PySem.W.Fast.tw11476143571783425028:=0
def PySem.W.Fast.tw9954636584359382561:=0
def PySem.W.Fast.tw13983309210311355599:=0
def PySem.W.Fast.tw17193441170708713378:=0
def PySem.W.Fast.tw17007948814434226096:=0
def PySem.W.Fast.tw11703671582155187637:=0
def PySem.W.Fast.tw10971463492942410997:=0
def PySem.W.Fast.tw12181867975577115777:=0
def PySem.W.Fast.tw18237585271581488198:=0
def PySem.W.Fast.tw595748041713039311:=0
def PySem.W.Fast.tw13372418432624758866:=0
def PySem.W.Fast.tw12604564523413379945:=0
def PySem.W.Fast.tw2091812427786575750:=0
def PySem.W.Fast.tw13593614742219695832:=0
def PySem.W.Fast.tw17031379576541362894:=0
def PySem.W.Fast.tw2748505151816700835:=0
def PySem.W.Fast.tw5271769281434946319:=0
def PySem.W.Fast.tw5211218618154726986:=0
def PySem.W.Fast.tw7998565456470269719:=0
def PySem.W.Fast.tw10812583997343610946:=0
def PySem.W.Fast.tw4870648551699808629:=0
def PySem.W.Fast.tw7315622129776448290:=0
def PySem.W.Fast.tw9363526415944289803:=0
def PySem.W.Fast.tw17744129189956245401:=0
def PySem.W.Fast.tw14204217031898681155:=0
def PySem.W.Fast.tw1169238583397146971:=0
def PySem.W.Fast.tw6088406832307818981:=0
def PySem.W.Fast.tw17513438248931668092:=0
def PySem.W.Fast.tw4092597440994594488:=0
def PySem.W.Fast.tw14290304442945441098:=0
def PySem.W.Fast.tw12872570317289677572:=0
def PySem.W.Fast.tw18315664416996799651:=0
def PySem.W.Fast.tw10437517717618400252:=0
def PySem.W.Fast.tw991177451164472443:=0
def PySem.W.Fast.tw299691678690545051:=0
def PySem.W.Fast.tw15752982854813244655:=0
def PySem.W.Fast.tw18347445287524082015:=0
def PySem.W.Fast.tw15666851772802869599:=0
def PySem.W.Fast.tw8491560605401192501:=0
def PySem.W.Fast.tw15192037866031803072:=0
def PySem.W.Fast.tw5277253608321070687:=0
def PySem.W.Fast.tw3130907411282520745:=0
def PySem.W.Fast.tw2491782147839802967:=0
def PySem.W.Fast.tw13249152843069910447:=0
def PySem.W.Fast.tw15076888089261099162:=0
def PySem.W.Fast.tw9449428025550228709:=0
def PySem.W.Fast.tw16160480191109058995:=0
def PySem.W.Fast.tw6521948935548369445:=0
def PySem.W.Fast.tw7126608271462665214:=0
def PySem.W.Fast.tw6007448238172936811:=0
def PySem.W.Fast.tw8390052624109618384:=0
def PySem.W.Fast.tw198138868688015055:=0
def PySem.W.Fast.tw4405211455217291774:=0
def PySem.W.Fast.tw10938291651367305608:=0
def PySem.W.Fast.tw10408688843182982057:=0
set_option maxRecDepth 100000 in
set_option maxHeartbeats 0 in
theorem PySem.Challenge.cw_homeround_k31_trees_looked_at_holds : PySem.Challenge.rw_homeround_k31_trees_looked_at.Holds := by
  w_on; o_law; k_head; (case hw => w_witness2)
  k_fill
  refine K31.walk (l := PySem.Challenge.rw_homeround_k31_trees_looked_at) rfl rfl (λw h Y => PySem.W.kIn_of Y) ?F
  case F =>
    intro w mg fa h KX G hmg
    refine' K31.all_mk KX G hmg ?h0 ?h1 ?h2 ?h3 ?h4 ?h5 ?h6 ?h7 ?h8 ?h9 ?h10 ?h11 ?h12 ?h13 ?h14 ?h15 ?h16 ?h17 ?h18 ?h19 ?h20 ?h21 ?h22 ?h23 ?h24 ?h25 ?Z ?ac_NotEven ?XC_NotEven
    case h0 | h1 | h2 | h3 | h4 | h5 | h6 | h7 | h8 | h9 | h10 | h11 | h12 | h13 | h14 | h15 | h16 | h17 | h18 | h19 | h20 | h21 | h22 | h23 | h24 | h25 => refine' L2.FnIn.mk ?a ?l ?c ?k; (case a => k_is); (case l => k_is); (case c => k_is); (case k => k_is)
    case Z => constructor <;> k_is
    case ac_NotEven => k_is
    case XC_NotEven => first | k_is | kernel_rfl
