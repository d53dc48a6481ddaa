import PyProof.Rows.All
import Wide.All
import OpenK.AllK
import Wide.FinOn
import PyProof.EqAt
import PyProof.EqKinds
import PyProof.TupleCall
import KE.BitLaws
import Open.SpecLaws
import KE.OsHead
import KE.OsGo
import PyFlatLaws
import PySem.Challenge.RW_treewords_s01_answers
abbrev Ln:=List Nat
abbrev Lr:=List Rc14.Rule
abbrev La:=List PySem.Addr
abbrev Lu:=List PySem.Value
set_option Elab.async false
set_option linter.all false
set_option maxRecDepth 100000
set_option maxHeartbeats 4000000
open List renaming length_map->aA,mem_cons_of_mem->aD,mem_map->aE,mem_cons_self->aF,mem_of_getElem?->aG,getElem?_eq_some_iff->aL,mem_filter->aM,mem_append->aN,mem_singleton->aO,map_append->aQ,mem_cons->aW,length_append->bA,range->bD,mem_flatMap->bG,map_cons->bL,getElem?_eq_getElem->bM,contains_iff_mem->bP,mem_eraseDups->bR,mem_range->bS,getElem?_map->bT,take_length->bX,size_toArray->cD,nodup_cons->cQ,length_cons->cV,all_eq_true->cX,drop_eq_getElem_cons->cZ,mem_append_left->dA,length_take->dB,map_map->dG,any_eq_true->dI,append_nil->dN,mem_append_right->dR,length_range->dU,length_filter_le->eF,map_congr_left->eJ,take_of_length_le->eU,append_assoc->eV,mem_iff_getElem?->fD,length_flatMap->fH,getElem?_append_right->fJ,filter_cons->fV,append_cancel_left->gH,drop_eq_nil_of_le->gP,sum_cons->iC,getElem?_append_left->jB,take_append_drop->jE,length_drop->jK,all_cons->jP,length->jU,reverse_cons->jX,find?_cons->kF,cons_append->kU,perm_ext_iff_of_nodup->kY,mem_filterMap->kZ,map_nil->lS,lookup_cons->mL,eq_nil_of_length_eq_zero->mV,mem_nil_iff->pB,any_cons->pS,filter_append->qH,lookup->qL,find?_cons_of_pos->qX,find?_cons_of_neg->qY,drop_zero->qZ,drop_length->sC,mem_of_mem_take->sN,length_set->tD,flatMap_append->tN,getD_eq_getElem?_getD->uQ,getElem?_eq_none_iff->vM,take_add_one->vR,getElem?_set->vS,foldl_append->vT,mem_flatten->yD,getElem?_cons_zero->yF,filter_cons_of_pos->yG,filter_cons_of_neg->yH,getElem?_set_self->zC,append_eq_nil_iff->zD,any_map->zE,length_nil->zL,foldl_cons->zM,length_singleton->Au,getElem?_eq_none->Av,getElem?_set_ne->Bs,getElem_of_mem->Dl,filterMap_cons->Dm,map_inj_right->Gi,append_of_mem->Gj,ext_getElem?->Hy,all_map->Hz,take_append_of_le_length->Kp,range_succ->Oe,of_mem_zip->Of,append_inj->Og,nodup_nil->Py,forIn_nil->Pz,mem_of_find?_eq_some->Sz,append_eq_append_iff->Ta,map_drop->Vz,getElem?_take_of_lt->Wa,pairwise_mergeSort->Wq,length_eq_zero_iff->Wr,getElem?_cons_succ->Ws,range_succ_eq_map->AL,pairwise_flatMap->BG,eq_nil_or_concat->BH,concat_eq_append->BI,range'->FH,pairwise_append->FJ,drop_eq_nil_iff->FK,contains_eq_mem->FL,mergeSort_perm->IY,length_reverse->IZ,eraseDups_cons->JA,length_range'->MA,pairwise_map->NH,nodup_append->NI,flatMap_cons->NJ,range'_succ->VB,getElem_inj->VC,nil_append->WL,forIn_cons->WM
open PySem renaming wpAny_bind->aS,Shared->aZ,wpAny_pure->bO,starEach->dD,mem_of_lookup->dH,Program->dJ,boot_len->dO,Paired->eZ,wpAny_truthy_bool->fQ,sysModules->fS,wpAny_loadPart'->gA,compareOp->gD,Around->gQ,cellsFrom->gY,wpAny_mono->iE,mainGlobals->iS,wpAny_dictEntries->kM,wpAny_passesOwn->kO,valueAt->mX,wpAny_typeNameOfWhole_keyiter->nP,tupleKind_room_in1->nT,FuncData->oI,compEnvC->pK,backTo->pL,NameKind->pN,bootBuiltins->pZ,DictEntry->qB,wpAny_typeNameOf_keyiter->qT,wpAny_dictEpoch->qW,wpAny_Call_Name_kw->rB,wpAny_holding->uD,behindInMarks->uE,attributeBase->uF,sliceBounds->uH,wpAny_execs_nil->vD,tupleKind->wX,swapsWith->wY,pushCells->wZ,wpAny_newObj_type->yU,keywordEach->yW,hashInt->yX,foldedSetIterable->yY,atKey_none_of_get->zA,wpAny_call_entry->Bm,notedBy->Cc,call_meetsIn->Cd,pushCells_keeps->Dj,binaryOp->Gr,getMethod->Hw,assignEach->Km,wpAny_Call_method->Oo,codeAny_mono->Oq,backToKw->Ot,wpAny_Dict_empty->Sr,rawInt->Ss,subscripted->Vs,sizeLine_eq->Vt,IsRangeIter->Wb,Within->Wn,getItem->AH,callerA->AI,pyNext->AZ,dictSetDefault->BA,call_meets->BB,callWith->BC,bindArgs->BD,evalArgs_none->FF,wpAny_standAt->IS,wpAny_callSpecial?_slot->LX,wpAny_pyNext_range_end->MZ,wpAny_pyIter_rangeiter->NA,pyIter->NC,BindsTo->NL,wpAny_notOrdered_dict->UR,wpAny_isTrue_Compare1->US,wpAny_isOneOf_keyiter->UT,wpAny_pyIter_revIter->VX,wpAny_loadName_local->VY,storedH_new->VZ
open Sum renaming inl->aV,inr->Ja
open PySem.W renaming Frag->aX,findIn->gG,keepIn->gZ,emptyDict->iN,fnOf->jF,instObj->lB,codeIn->qK,plainGet->rE,callWith_K->tM,hasDictIn->uP,isFn->xF,lookIn->zI,plainGet_of->Bn,WellAll->Ce,plainOver->Ds,methodObj->Dt,takerIn->Jb,makesIn->Jc,length_le_weightAllW->Jd,nsIn->Sw,cellsFrom_some->Sx,methodCall_KW->Vy,callWith_K0->AJ,handedIn->IU,WRecords->IV,WalkOS->NF,mg_of->UW
open Nat renaming le_refl->aY,le_trans->bK,lt_of_le_of_lt->bV,lt_of_lt_of_le->cA,zero_le->cI,ne_of_lt->fA,lt_irrefl->jR,min_eq_left->lR,mul_le_mul_right->oV,mul_le_mul_left->pM,lt_succ_self->sE,mul_le_mul->vE,lt_succ_of_lt->xA,le_of_succ_le->xB,succ_le_succ->yP,sub_self->zJ,le_of_lt->zK,succ_mul->Jf,ne_of_gt->Jg,le_of_eq->Jh,add_zero->Ji,min_eq_right->Kn,le_add_right->Ko,sub_zero->BE,lt_trans->BF,add_mul->IX,lt_trichotomy->UZ,lt_of_succ_lt->VA,min_le_right->WK
open Option.some renaming inj->bC,injEq->Bo
open Bool renaming and_eq_true->bJ,false_ne_true->bY,or_eq_true->eI,noConfusion->fK,false_eq_true->iI,eq_iff_iff->nG,false_and->Qg,true_and->Wd,and_eq_true_iff->FO,decide_and->WN
open PySem.PassesOwn renaming never->bN
open Classical renaming byContradiction->bQ,axiomOfChoice->cP,propDecidable->jQ,not_not->qC
open PySem.Heap renaming get?_push_of_some->bU,get?_push_size->cG,lt_size->cM,size_push->iD,SameBut->rA,get?_update_self->BK
open Rc14 renaming does->bZ,chartOf->cW,stretch->dS,isSymbol->dZ,stretch->gO,Abs->jD,isName->kP,Call->kT,room_->kX,refused->lO,closure->lP,chartOf->lQ,endless->pA,splits->rC,making->rD,treesOf->uG,isMaking->uI,less->uL,rights->vQ,treesOf->yV,endsAll->yZ,endsOf->Gq,shortest->Vx,kindOf->FE,setOf->LY,partsOf->ND,emptying->WB
open PySem.F renaming plainAttrs_list->cF,type_list_append->eX,slot_list_append->eY,slot_dict_keyiterator_next->iJ,type_list_extend->lJ,slot_list_extend->lK,slot_dict_setdefault->sD,type_list_pop->yM,slot_list_pop->yN,slot_dict_get->yO,args_dict_setdefault_3->Gs,entry_dict_setdefault->Hx,slot_dict_getitem->Oc,args_dict_keyiterator_next_1->Ov,plainAttrs_dict->Pw,args_dict_get_3->Px,entry_dict_keyiterator_next->Qc,entry_dict_get->Sy,slot_dict_keyiterator_iter->Tb,slot_dict_ne->Wo
open PySem.Value renaming ref->dE,bool->qA,none->rX,type->uJ,int->xE,str->Vu
open Rc14Neutral renaming whole32->dQ,step->nO,natural->nU,bytesOf->nV,long->uK,asked1->Sv
open Option renaming map_eq_some_iff->dY,isSome_iff_exists->fR,ne_none_iff_exists'->oH,map_some->sM,isSome_map->Gh,isSome_some->FG,getD_none->LZ,isSome->WJ
open UInt8 renaming ofNat->eA,toNat_ofNat_of_lt'->lT,toNat_inj->UU
open List.cons renaming inj->eK
open Int renaming toNat_of_nonneg->fI,toNat_natCast->gE,natCast_nonneg->nD,ofNat_lt->zN,toNat->Dn,mul_emod->Jj,mul_le_mul_of_nonneg_right->Kr,mul_le_mul_of_nonneg_left->Oh,ofNat_le->BJ
open False renaming elim->fP
open PySem.Paired renaming length->iO
open PyProof.Rows renaming callWith_type1->jT,envOfC->Gp,IntsAre->Ou,AllBare->Ox,subscriptTail->IT,subscriptTail_builtinR->NB
open Sum.inl renaming inj->kJ
open PyRc14 renaming whole->lI,shape->Gg,answers_asked->AK,answers->UX
open PySem.Heap.SameBut renaming update->nQ
open Prod.mk renaming inj->nX
open ForInStep renaming yield->pC
open Array renaming getElem?_eq_getElem->pD,getElem?_toList->rQ,length_toList->Cf
open Rc14.beyond renaming may->pR
open PySem.Calls renaming spliced_cons->qD,callWith_builtin->qU,evalArgs_plain->Bp,spliced_nil->Gu,Name_function_global->Ow
open PySem.NameKind renaming free->rF,cell->Od
open PySem.Builtin.List renaming listTooLong->tE
open PySem.W.Codec renaming encAll->tO,denoteAll->zF,app->Jk,withinAll->VD
open PySem.Builtin.Range renaming rangeSize->tP
open PySem.Builtin.Dict renaming samePairs->uR,showsAll->vN
open Or renaming inr->yC,inl->Dk
open PySem.W.WData renaming weightAll->zB
open PySem.Builtin.Dict_items renaming ownsTuple->zG
open PySem.SeqAt.EqAt renaming int_int->As,str_int->Vv,int_str->Vw
open PyFlat renaming put1->Je,putRows->UY,putRow->WE,played->WG,okCall->WI
open List.Pairwise renaming filter->Kq,map->Qa,and->Qb
open PySem.Builtin.Int renaming intBits->Qe
open PySem.Around renaming under->We,under_plainId->AN
open PySem.Code renaming isFrame->AM
open PySem.Value.type renaming inj->FD
open PySem.Data renaming seq->FN
open PySem.Obj renaming data_mapDictKeys->IW,data_mapFields->NG
open Rc14.Ans renaming mk->WD
abbrev aR:=@of_decide_eq_true
abbrev bB:=@decide_eq_true
abbrev bH:=@decide_eq_false
abbrev gL:=@congrArg
abbrev lN:=@beq_eq_false_iff_ne
inductive A3(a b c:Prop):Prop|mk:a->b->c->A3 a b c
inductive A4(a b c d:Prop):Prop|mk:a->b->c->d->A4 a b c d
inductive A5(a b c d e:Prop):Prop|mk:a->b->c->d->e->A5 a b c d e
inductive A6(a b c d e f:Prop):Prop|mk:a->b->c->d->e->f->A6 a b c d e f
inductive A7(a b c d e f g:Prop):Prop|mk:a->b->c->d->e->f->g->A7 a b c d e f g
inductive A8(a b c d e f g h:Prop):Prop|mk:a->b->c->d->e->f->g->h->A8 a b c d e f g h
inductive E2{a b:Type}(p:a->b->Prop):Prop|mk r s:p r s->E2 p
inductive E3{a b c:Type}(p:a->b->c->Prop):Prop|mk r s t:p r s t->E3 p
inductive E4{a b c d:Type}(p:a->b->c->d->Prop):Prop|mk r s t u:p r s t u->E4 p
inductive E5{a b c d e:Type}(p:a->b->c->d->e->Prop):Prop|mk r s t u v:p r s t u v->E5 p
inductive E6{a b c d e f:Type}(p:a->b->c->d->e->f->Prop):Prop|mk r s t u v w:p r s t u v w->E6 p
inductive E7{a b c d e f g:Type}(p:a->b->c->d->e->f->g->Prop):Prop|mk r s t u v w x:p r s t u v w x->E7 p
namespace Tw
open Rc14
section
variable {α:Type} [BEq α] [LawfulBEq α]
theorem yI:∀(n:Nat) (l:List α),l.length<=n->l.eraseDups.Nodup
 |_,[],_=>by simp
 |0,a::l,h=>by simp at h
 |n+1,a::l,h=>by
  rw[JA,cQ];refine⟨fun q=>?_,yI n _ ?_⟩
  .rw[bR,aM]at q;simp at q
  .have:=eF (fun b=>!b==a) l;simp at h;lia
theorem lF(l:List α):l.eraseDups.Nodup:=yI _ l (aY _)
def grow(f:List α->List α):Nat->List α->List α
 |0,p=>p
 |n+1,p=>let k:=(p++f p).eraseDups
  if k.length=p.length then p else grow f n k
theorem RH{p:List α}(hp:p.Nodup)(q:List α):p.length<=(p++q).eraseDups.length:=
 hp.length_le_of_subset fun _ h=>bR.mpr (dA _ h)
theorem Cm{p k:List α}(hp:p.Nodup)(hk:k.Nodup)(s:p⊆k)(e:k.length<=p.length):k⊆p:=fun x hx=>by
 by_cases h:x∈p
 .exact h
 .exfalso;have h1:(x::p).Nodup:=cQ.mpr ⟨h,hp⟩
  have h2:=h1.length_le_of_subset (l₂:=k) fun y hy=>by
   rcases aW.mp hy with rfl|hy
   .exact hx
   .exact s hy
  simp at h2;lia
theorem wJ(f:List α->List α)(U:List α)(hU:∀q,q⊆U->f q⊆U):
  ∀(n:Nat) (p:List α),p.Nodup->p⊆U->U.length<=n+p.length->
   p⊆grow f n p/\grow f n p⊆U/\(grow f n p).Nodup/\f (grow f n p)⊆grow f n p
 |0,p,hp,hs,hn=>by
  refine⟨fun _ h=>h,hs,hp,fun x hx=>?_⟩;have hx:x∈f p:=hx;show x∈p;by_cases h:x∈p
  .exact h
  .exfalso;have h1:(x::p).Nodup:=cQ.mpr ⟨h,hp⟩
   have h2:=h1.length_le_of_subset (l₂:=U) fun y hy=>by
    rcases aW.mp hy with rfl|hy
    .exact hU p hs hx
    .exact hs hy
   simp at h2;lia
 |n+1,p,hp,hs,hn=>by
  have hk:=lF (p++f p);have tZ:p⊆(p++f p).eraseDups:=fun _ h=>bR.mpr (dA _ h)
  have hkU:(p++f p).eraseDups⊆U:=fun x hx=>by
   rcases aN.mp (bR.mp hx)with h|h
   .exact hs h
   .exact hU p hs h
  have hl:=RH hp (f p);unfold grow;dsimp only;by_cases e:(p++f p).eraseDups.length=p.length
  .rw[if_pos e];refine⟨fun _ h=>h,hs,hp,fun x hx=>?_⟩;exact Cm hp hk tZ (by lia) (bR.mpr (dR _ hx))
  .rw[if_neg e];obtain⟨a,b,c,d⟩:=wJ f U hU n _ hk hkU (by lia);exact⟨fun x hx=>a (tZ hx),b,c,d⟩
theorem xR(f:List α->List α)(Z:α->Prop)(hZ:∀q,(∀x∈q,Z x)->∀x∈f q,Z x):
  ∀(n:Nat) (p:List α),(∀x∈p,Z x)->∀x∈grow f n p,Z x
 |0,p,h=>h
 |n+1,p,h=>by
  unfold grow;dsimp only;split
  .exact h
  .refine xR f Z hZ n _ fun x hx=>?_;rcases aN.mp (bR.mp hx)with q|q
   .exact h x q
   .exact hZ p h x q
theorem xU(go:α->List α):∀(n:Nat) (l:List α),lP go n l=grow (fun l=>l.flatMap go) n l
 |0,l=>rfl
 |n+1,l=>by
  unfold lP grow;dsimp only;split
  .rfl
  .exact xU go n _
inductive cJ(R:α->α->Prop)(a:α):α->Prop
 |refl:cJ R a a
 |tail {b c}:cJ R a b->R b c->cJ R a c
omit [BEq α] [LawfulBEq α] in
theorem cJ.trans{R:α->α->Prop}{a b c:α}(h:cJ R a b)(k:cJ R b c):cJ R a c:=by
 induction k with
 |refl=>exact h
 |tail _ r ih=>exact ih.tail r
omit [BEq α] [LawfulBEq α] in
theorem cJ.one{R:α->α->Prop}{a b:α}(h:R a b):cJ R a b:=cJ.refl.tail h
omit [BEq α] [LawfulBEq α] in
theorem cJ.head{R:α->α->Prop}{a b c:α}(h:R a b)(k:cJ R b c):cJ R a c:=(cJ.one h).trans k
omit [BEq α] [LawfulBEq α] in
theorem cJ.xW{R:α->α->Prop}{a c:α}(k:cJ R a c):a=c∨∃b,R a b/\cJ R b c:=by
 induction k with
 |refl=>exact .inl rfl
 |tail h r ih=>
  rcases ih with rfl|⟨b,r',k⟩
  .exact .inr ⟨_,r,.refl⟩
  .exact .inr ⟨b,r',k.tail r⟩
omit [BEq α] [LawfulBEq α] in
theorem cJ.mono{R S:α->α->Prop}(f:∀a b,R a b->S a b){a b:α}(h:cJ R a b):cJ S a b:=by
 induction h with
 |refl=>exact .refl
 |tail _ r ih=>exact ih.tail (f _ _ r)
theorem pW(go:α->List α)(U:List α)(n:Nat)(l:List α)(hl:l.Nodup)(hs:l⊆U)(hU:∀x∈U,go x⊆U)(hn:U.length<=n+l.length)(x:α):
  x∈lP go n l↔∃a∈l,cJ (fun a b=>b∈go a) a x:=by
 rw[xU]
 obtain⟨h1,h2,h3,h4⟩:=wJ (fun l=>l.flatMap go) U (fun q hq y hy=>by
  obtain⟨a,ha,hy⟩:=bG.mp hy
  exact hU a (hq ha) hy) n l hl hs hn
 constructor
 .intro hx;refine xR (fun l=>l.flatMap go) (fun x=>∃a∈l,cJ (fun a b=>b∈go a) a x) ?_ n l (fun y hy=>⟨y,hy,.refl⟩) x hx;intro q hq y hy;obtain⟨b,hb,hy⟩:=bG.mp hy;obtain⟨a,ha,r⟩:=hq b hb;exact⟨a,ha,r.tail hy⟩
 .rintro⟨a,ha,r⟩;induction r with
  |refl=>exact h1 ha
  |tail _ r ih=>exact h4 (bG.mpr ⟨_,ih,r⟩)
theorem Dd{β:Type}(f:β->β):∀(n:Nat) (b:β),(bD n).foldl (fun p _=>f p) b=Nat.repeat f n b
 |0,b=>rfl
 |n+1,b=>by rw[Oe,vT,Dd f n b];rfl
theorem Xo(f:List α->List α)(U:List α)(hU:∀q,q⊆U->f q⊆U):
  ∀(n:Nat),U.length<=n->
   let r:=Nat.repeat (fun p=>(p++f p).eraseDups) n []
   r⊆U/\r.Nodup/\f r⊆r:=by
 intro n hn r
 have key:∀n:Nat,(Nat.repeat (fun p=>(p++f p).eraseDups) n [])⊆U/\(Nat.repeat (fun p=>(p++f p).eraseDups) n []).Nodup/\
   (n<=(Nat.repeat (fun p=>(p++f p).eraseDups) n []).length∨f (Nat.repeat (fun p=>(p++f p).eraseDups) n [])⊆Nat.repeat (fun p=>(p++f p).eraseDups) n []):=by
  intro n
  induction n with
  |zero=>exact⟨by simp[Nat.repeat],by simp[Nat.repeat],.inl (cI _)⟩
  |succ n ih=>
   obtain⟨a,b,c⟩:=ih;show(((Nat.repeat (fun p=>(p++f p).eraseDups) n [])++f (Nat.repeat (fun p=>(p++f p).eraseDups) n [])).eraseDups⊆U)/\_;generalize hq:Nat.repeat (fun p=>(p++f p).eraseDups) n []=q at a b c;have e:Nat.repeat (fun p=>(p++f p).eraseDups) (n+1) []=(q++f q).eraseDups:=by show((Nat.repeat (fun p=>(p++f p).eraseDups) n [])++f (Nat.repeat (fun p=>(p++f p).eraseDups) n [])).eraseDups=_;rw[hq]
   rw[e];refine⟨?_,lF _,?_⟩
   .intro x hx;rcases aN.mp (bR.mp hx)with h|h
    .exact a h
    .exact hU q a h
   .by_cases h:f q⊆q
    .right;have e2:∀x,x∈(q++f q).eraseDups↔x∈q:=fun x=>by rw[bR,aN];exact⟨fun z=>z.elim id fun z=>h z,.inl⟩
     have e3:(q++f q).eraseDups=q:=by
      have aux:∀(q z:List α),q.Nodup->z⊆q->(q++z).eraseDups=q:=by
       intro q;induction q with
       |nil=>intro z _ hz;cases z with
        |nil=>rfl
        |cons a z=>exact absurd (hz (aF)) (by simp)
       |cons a q ih=>
        intro z hn hz;rw[kU,JA,qH];have Uz:=cQ.mp hn;have e:List.filter (fun b=>!b==a) q=q:=List.filter_eq_self.mpr fun b hb=>by have:b≠a:=fun e=>Uz.1 (e ▸ hb);simp[this]
        rw[e,ih _ Uz.2];intro b hb;obtain⟨hb,Iq⟩:=aM.mp hb;rcases aW.mp (hz hb)with rfl|h
        .simp at Iq
        .exact h
      exact aux q (f q) b h
     rw[e3];exact h
    .left;rcases c with c|c
     .have hl:=RH b (f q);by_cases hh:(q++f q).eraseDups.length=q.length
      .exfalso;apply h;intro x hx;exact Cm b (lF _) (fun _ h=>bR.mpr (dA _ h)) (by lia) (bR.mpr (dR _ hx))
      .lia
     .exact absurd c h
 obtain⟨a,b,c⟩:=key n
 refine⟨a,b,?_⟩
 rcases c with c|c
 .intro x hx;have hxU:x∈U:=hU _ a hx;refine Cm b (lF U) (fun y hy=>bR.mpr (a hy)) ?_ (bR.mpr hxU);have:U.eraseDups.length<=U.length:=(lF U).length_le_of_subset fun _ h=>bR.mp h;exact bK this (bK hn c)
 .exact c
theorem Ei(f:List α->List α)(Z:α->Prop)(hZ:∀q,(∀x∈q,Z x)->∀x∈f q,Z x):
  ∀(n:Nat),∀x∈Nat.repeat (fun p=>(p++f p).eraseDups) n [],Z x
 |0=>by simp[Nat.repeat]
 |n+1=>by
  intro x hx;have hx:x∈((Nat.repeat (fun p=>(p++f p).eraseDups) n [])++f (Nat.repeat (fun p=>(p++f p).eraseDups) n [])).eraseDups:=hx;have ih:=Ei f Z hZ n;rcases aN.mp (bR.mp hx)with q|q
  .exact ih x q
  .exact hZ _ ih x q
end
end Tw
namespace Tw
open Rc14
inductive D(g:Lr):Ln->List UInt8->Ln->Prop
 |nil:D g [] [] []
 |byte {s l c w rs}:s=c.toNat+256->D g l w rs->D g (s::l) (c::w) rs
 |name {s l k r w1 nJ w2 rs2}:s<256->g[k]? =some r->r.left=s->D g r.right w1 nJ->D g l w2 rs2->D g (s::l) (w1++w2) (k::(nJ++rs2))
theorem D.append{g l1 w1 nJ l2 w2 rs2}(h:D g l1 w1 nJ)(k:D g l2 w2 rs2):D g (l1++l2) (w1++w2) (nJ++rs2):=by
 induction h with
 |nil=>exact k
 |byte e _ ih=>exact .byte e ih
 |name a b c d _ _ ih=>have:=D.name a b c d ih;simpa[eV]using this
theorem D.cons{g s l w1 nJ w2 rs2}(h:D g [s] w1 nJ)(k:D g l w2 rs2):D g (s::l) (w1++w2) (nJ++rs2):=h.append k
theorem D.nil_inv{g w rs}(h:D g [] w rs):w=[]/\rs=[]:=by cases h;exact⟨rfl,rfl⟩
theorem D.split{g}:∀{l1 l2 w rs},D g (l1++l2) w rs->∃w1 w2 nJ rs2,w=w1++w2/\rs=nJ++rs2/\D g l1 w1 nJ/\D g l2 w2 rs2
 |[],l2,w,rs,h=>⟨[],w,[],rs,rfl,rfl,.nil,h⟩
 |s::l1,l2,w,rs,h=>by
  rw[kU]at h;cases h with
  |byte e h=>obtain⟨w1,w2,nJ,rs2,rfl,rfl,a,b⟩:=D.split h;exact⟨_::w1,w2,nJ,rs2,rfl,rfl,.byte e a,b⟩
  |name a b c d h=>obtain⟨w1,w2,nJ,rs2,rfl,rfl,x,y⟩:=D.split h;exact⟨_++w1,w2,_::(_++nJ),rs2,by simp,by simp,.name a b c d x,y⟩
theorem D.cons_inv{g s l w rs}(h:D g (s::l) w rs):∃w1 w2 nJ rs2,w=w1++w2/\rs=nJ++rs2/\D g [s] w1 nJ/\D g l w2 rs2:=D.split (l1:=[s]) h
theorem D.jN{g s w rs}(hs:s<256)(h:D g [s] w rs):∃k r nJ,rs=k::nJ/\g[k]? =some r/\r.left=s/\D g r.right w nJ:=by
 cases h with
 |byte e _=>lia
 |name a b c d h=>obtain⟨rfl,rfl⟩:=h.nil_inv;exact⟨_,_,_,by simp;rfl,b,c,by simpa using d⟩
theorem D.nN{g k r w rs}(b:g[k]? =some r)(hs:r.left<256)(d:D g r.right w rs):D g [r.left] w (k::rs):=by have:=D.name hs b rfl d D.nil;simpa using this
theorem D.UI{g s w rs}(hs:256<=s)(h:D g [s] w rs):∃c,s=c.toNat+256/\w=[c]/\rs=[]:=by
 cases h with
 |byte e h=>obtain⟨rfl,rfl⟩:=h.nil_inv;exact⟨_,e,rfl,rfl⟩
 |name a _ _ _ _=>lia
theorem D.Nv{g s}{c:UInt8}(e:s=c.toNat+256):D g [s] [c] []:=.byte e .nil
theorem NR{a b:UInt8}(h:a.toNat=b.toNat):a=b:=UU.mp h
theorem D.det{g l w rs}(h:D g l w rs):∀{w' Ig x y},D g l w' Ig->rs++x=Ig++y->rs=Ig/\w=w':=by
 induction h with
 |nil=>intro w' Ig x y k _;obtain⟨rfl,rfl⟩:=k.nil_inv;exact⟨rfl,rfl⟩
 |byte e _ ih=>
  intro w' Ig x y k q;cases k with
  |byte e' k=>obtain⟨rfl,rfl⟩:=ih k q;refine⟨rfl,gL (· ::_) (NR ?_)⟩;lia
  |name a _ _ _ _=>lia
 |name a b c _ _ yQ xQ=>
  intro w' Ig x y k q;cases k with
  |byte e' k=>lia
  |name a' b' c' d' k=>rw[kU,kU]at q;obtain⟨q1,q2⟩:=eK q;subst q1;rw[b]at b';cases b';rw[eV,eV]at q2;obtain⟨rfl,rfl⟩:=yQ d' q2;obtain⟨rfl,rfl⟩:=xQ k (gH q2);exact⟨rfl,rfl⟩
inductive DP(g:Lr)(t:T):Ln->Nat->Nat->Ln->Prop
 |nil {i}:i<=t.length->DP g t [] i i []
 |byte {s l c i j rs}:t[i]? =some c->s=c.toNat+256->DP g t l (i+1) j rs->DP g t (s::l) i j rs
 |name {s l k r i m j nJ rs2}:s<256->g[k]? =some r->r.left=s->DP g t r.right i m nJ->DP g t l m j rs2->DP g t (s::l) i j (k::(nJ++rs2))
theorem DP.le{g t l i j rs}(h:DP g t l i j rs):i<=j/\j<=t.length:=by
 induction h with
 |nil h=>exact⟨aY _,h⟩
 |byte _ _ _ ih=>lia
 |name _ _ _ _ _ yQ xQ=>lia
theorem Ti(t:T)(i:Nat):dS t i i=[]:=by unfold dS;rw[FK];simp;lia
theorem Dy{t:T}{i j:Nat}{c:UInt8}(h:t[i]? =some c)(hj:i<j):dS t i j=c::dS t (i+1) j:=by
 unfold dS;obtain⟨hi,e⟩:=aL.mp h;have hl:i<(t.take j).length:=by rw[dB];lia
 rw[cZ hl];simp[e]
theorem lZ{t:T}{i m j:Nat}(h1:i<=m)(h2:m<=j):dS t i m++dS t m j=dS t i j:=by
 unfold dS;have e:t.take j=t.take m++(t.take j).drop m:=by have:=(jE m (t.take j)).symm;rw[List.take_take,lR h2]at this;exact this
 by_cases hm:m<=t.length
 .conv=>rhs;rw[e]
  rw[List.drop_append_of_le_length (by rw[dB];lia)]
 .have e1:t.take m=t:=eU (by lia);have e2:t.take j=t:=eU (by lia);rw[e1,e2,gP (as:=t) (i:=m) (by lia),dN]
theorem fG{t:T}{i j:Nat}(h:j<=t.length):(dS t i j).length=j-i:=by unfold dS;rw[jK,dB];lia
theorem uU(t:T):dS t 0 t.length=t:=by unfold dS;simp
theorem Jn{t:T}{i j a b:Nat}(h:i+b<=j):dS (dS t i j) a b=dS t (i+a) (i+b):=by unfold dS;rw[List.take_drop,List.take_take,List.drop_drop,lR h]
theorem DP.toD{g t l i j rs}(h:DP g t l i j rs):D g l (dS t i j) rs:=by
 induction h with
 |nil h=>rw[Ti];exact .nil
 |byte a b c ih=>have:=c.le;rw[Dy a (by lia)];exact .byte b ih
 |name a b c d e yQ xQ=>have h1:=d.le;have h2:=e.le;rw[<-lZ h1.1 h2.1];exact .name a b c yQ xQ
theorem D.JF{g l w rs}(h:D g l w rs):∀{t:T} {i j},i<=j->j<=t.length->w=dS t i j->DP g t l i j rs:=by
 induction h with
 |nil=>
  intro t i j h1 h2 e;have:=gL jU e;rw[fG h2]at this;have e2:i=j:=by simp at this;lia
  subst e2;exact .nil h2
 |byte e d ih=>
  rename_i s l c w rs;intro t i j h1 h2 q;have hl:=gL jU q;rw[fG h2]at hl;simp at hl;have Bq:i<j:=by lia
  have hg:t[i]? =some t[i]:=bM (by lia);rw[Dy hg Bq]at q;obtain⟨q1,q2⟩:=eK q;exact .byte (q1 ▸ hg) e (ih (by lia) h2 q2)
 |name a b c d e yQ xQ=>
  rename_i s l k r w1 nJ w2 rs2;intro t i j h1 h2 q;have hl:=gL jU q;rw[fG h2,bA]at hl;have hm:i+w1.length<=j:=by lia
  rw[<-lZ (m:=i+w1.length) (by lia) hm]at q;obtain⟨q1,q2⟩:=Og q (by rw[fG (by lia)];lia);exact .name a b c (yQ (by lia) (by lia) q1) (xQ hm h2 q2)
theorem Df{g t l i j rs}:DP g t l i j rs↔i<=j/\j<=t.length/\D g l (dS t i j) rs:=
 ⟨fun h=>⟨h.le.1,h.le.2,h.toD⟩,fun⟨a,b,c⟩=>c.JF a b rfl⟩
theorem De{g t l i j a b rs}(hj:j<=t.length)(Bq:i<=j)(hb:i+b<=j):DP g (dS t i j) l a b rs↔DP g t l (i+a) (i+b) rs:=by
 rw[Df,Df,Jn hb,fG hj];constructor
 .rintro⟨x,y,z⟩;exact⟨by lia,by lia,z⟩
 .rintro⟨x,y,z⟩;exact⟨by lia,by lia,z⟩
theorem Nj{g t l rs}:DP g t l 0 t.length rs↔D g l t rs:=by rw[Df,uU];exact⟨fun h=>h.2.2,fun h=>⟨cI _,aY _,h⟩⟩
theorem DP.append{g t l1 i m nJ l2 j rs2}(h:DP g t l1 i m nJ)(k:DP g t l2 m j rs2):DP g t (l1++l2) i j (nJ++rs2):=by rw[Df]at*;refine⟨by lia,k.2.1,?_⟩;rw[<-lZ h.1 k.1];exact h.2.2.append k.2.2
theorem DP.split{g t l1 l2 i j rs}(h:DP g t (l1++l2) i j rs):∃m nJ rs2,rs=nJ++rs2/\DP g t l1 i m nJ/\DP g t l2 m j rs2:=by
 obtain⟨h1,h2,h3⟩:=Df.mp h;obtain⟨w1,w2,nJ,rs2,e,rfl,a,b⟩:=h3.split;have hl:=gL jU e;rw[fG h2,bA]at hl;have hm:i+w1.length<=j:=by lia
 rw[<-lZ (m:=i+w1.length) (by lia) hm]at e;obtain⟨q1,q2⟩:=Og e (by rw[fG (by lia)];lia);exact⟨i+w1.length,nJ,rs2,rfl,a.JF (by lia) (by lia) q1.symm,b.JF hm h2 q2.symm⟩
theorem DP.cons_inv{g t s l i j rs}(h:DP g t (s::l) i j rs):∃m nJ rs2,rs=nJ++rs2/\DP g t [s] i m nJ/\DP g t l m j rs2:=DP.split (l1:=[s]) h
theorem DP.nil_inv{g t i j rs}(h:DP g t [] i j rs):i=j/\rs=[]:=by cases h;exact⟨rfl,rfl⟩
theorem DP.jN{g t s i j rs}(hs:s<256)(h:DP g t [s] i j rs):∃k r nJ,rs=k::nJ/\g[k]? =some r/\r.left=s/\DP g t r.right i j nJ:=by obtain⟨a,b,c⟩:=Df.mp h;obtain⟨k,r,nJ,e,x,y,z⟩:=c.jN hs;exact⟨k,r,nJ,e,x,y,z.JF a b rfl⟩
theorem DP.nN{g t k r i j rs}(b:g[k]? =some r)(hs:r.left<256)(d:DP g t r.right i j rs):DP g t [r.left] i j (k::rs):=by rw[Df]at*;exact⟨d.1,d.2.1,D.nN b hs d.2.2⟩
theorem mS{g t s i j rs}(hs:256<=s):DP g t [s] i j rs↔j=i+1/\rs=[]/\∃c,t[i]? =some c/\s=c.toNat+256:=by
 constructor
 .intro h;cases h with
  |byte a b c=>obtain⟨rfl,rfl⟩:=c.nil_inv;exact⟨rfl,rfl,_,a,b⟩
  |name a _ _ _ _=>lia
 .rintro⟨rfl,rfl,c,a,b⟩;exact .byte a b (.nil (aL.mp a).1)
def WF(g:Lr):Prop:=∀r∈g,r.left<256/\∀s∈r.right,s<512
theorem rK{m:List Item}{t:T}{s i j:Nat}:j∈Gq m t s i↔(256<=s/\j=i+1/\∃c,t[i]? =some c/\s=c.toNat+256)∨(s<256/\(s,i,j)∈m):=by
 unfold Gq;by_cases hs:256<=s
 .rw[if_pos hs];constructor
  .intro h;split at h
   .rename_i e;rw[dY]at e;obtain⟨c,a,b⟩:=e;exact .inl ⟨hs,by simpa using h,c,a,b.symm⟩
   .simp at h
  .rintro(⟨_,rfl,c,a,b⟩|⟨h,_⟩)
   .rw[if_pos (by rw[a];simp[b])];simp
   .lia
 .rw[if_neg hs];constructor
  .intro h;obtain⟨⟨a,b,c⟩,hx,rfl⟩:=aE.mp h;obtain⟨hm,e⟩:=aM.mp hx;simp at e;obtain⟨rfl,rfl⟩:=e;exact .inr ⟨by lia,hm⟩
  .rintro(⟨h,_⟩|⟨_,h⟩)
   .lia
   .exact aE.mpr ⟨(s,i,j),aM.mpr ⟨h,by simp⟩,rfl⟩
theorem sH{m:List Item}{t:T}{i j:Nat}:j∈yZ m t [] i↔j=i:=by simp[yZ]
theorem oO{m:List Item}{t:T}{s l i j}:j∈yZ m t (s::l) i↔∃k∈Gq m t s i,j∈yZ m t l k:=by rw[yZ,bR,bG]
def MX(g:Lr)(t:T)(m:List Item):Prop:=∀x∈m,x.1<256/\∃rs,DP g t [x.1] x.2.1 x.2.2 rs
theorem Vf{g t m s i j}(h:MX g t m)(q:j∈Gq m t s i):∃rs,DP g t [s] i j rs:=by
 rcases rK.mp q with ⟨hs,rfl,c,a,b⟩|⟨hs,hm⟩
 .exact⟨[],(mS hs).mpr ⟨rfl,rfl,c,a,b⟩⟩
 .exact(h _ hm).2
theorem Bz{g t m}(h:MX g t m):∀{l i j},i<=t.length->j∈yZ m t l i->∃rs,DP g t l i j rs
 |[],i,j,hi,q=>by rw[sH]at q;subst q;exact⟨[],.nil hi⟩
 |s::l,i,j,hi,q=>by obtain⟨k,hk,q⟩:=oO.mp q;obtain⟨nJ,d1⟩:=Vf h hk;obtain⟨rs2,d2⟩:=Bz h d1.le.2 q;exact⟨nJ++rs2,DP.append (l1:=[s]) d1 d2⟩
def mY(g:Lr)(t:T)(m:List Item):List Item:=
 g.flatMap fun(r:Rule)=>(bD (t.length+1)).flatMap fun(i:Nat)=>(yZ m t r.right i).map fun(j:Nat)=>(r.left,i,j)
theorem rS{g t m}{x:Item}:x∈mY g t m↔∃r∈g,x.1=r.left/\x.2.1<=t.length/\x.2.2∈yZ m t r.right x.2.1:=by
 unfold mY;rw[bG];constructor
 .rintro⟨r,hr,h⟩;obtain⟨i,hi,h⟩:=bG.mp h;obtain⟨j,hj,rfl⟩:=aE.mp h;exact⟨r,hr,rfl,by have:=bS.mp hi;show i<=_;lia,hj⟩
 .rintro⟨r,hr,e,hi,hj⟩;refine⟨r,hr,bG.mpr ⟨x.2.1,bS.mpr (by lia),aE.mpr ⟨x.2.2,hj,?_⟩⟩⟩;rw[<-e]
theorem Np(g:Lr)(t:T):∀(n:Nat) (m:List Item),chart g t n m=grow (mY g t) n m
 |0,m=>rfl
 |n+1,m=>by
  unfold chart grow;dsimp only;show(if ((m++mY g t m).eraseDups).length=m.length then m else chart g t n ((m++mY g t m).eraseDups))=_;split
  .rfl
  .exact Np g t n _
def VE(g:Lr)(t:T):List Item:=g.flatMap fun r=>(bD (t.length+1)).flatMap fun i=>(bD (t.length+1)).map fun j=>(r.left,i,j)
theorem GW{g t}{x:Item}:x∈VE g t↔(∃r∈g,x.1=r.left)/\x.2.1<=t.length/\x.2.2<=t.length:=by
 unfold VE;rw[bG];constructor
 .rintro⟨r,hr,h⟩;obtain⟨i,hi,h⟩:=bG.mp h;obtain⟨j,hj,rfl⟩:=aE.mp h;have h1:=bS.mp hi;have h2:=bS.mp hj;exact⟨⟨r,hr,rfl⟩,by show i<=_;lia,by show j<=_;lia⟩
 .rintro⟨⟨r,hr,e⟩,hi,hj⟩;refine⟨r,hr,bG.mpr ⟨x.2.1,bS.mpr (by lia),aE.mpr ⟨x.2.2,bS.mpr (by lia),?_⟩⟩⟩;rw[<-e]
theorem oJ{α:Type}(c:Nat):∀l:List α,(l.map fun _=>c).sum=l.length*c
 |[]=>by simp
 |a::l=>by simp[oJ c l,IX,Nat.add_comm]
theorem DC(g:Lr)(t:T):(VE g t).length=g.length*((t.length+1)*(t.length+1)):=by
 unfold VE;rw[fH];have:(fun(r:Rule)=>((bD (t.length+1)).flatMap fun i=>(bD (t.length+1)).map fun j=>(r.left,i,j)).length)=fun _=>(t.length+1)*(t.length+1):=by funext r;rw[fH];simp[oJ]
 rw[this,oJ]
theorem Nf{g t m}(h:m⊆VE g t):∀{l i j},i<=t.length->j∈yZ m t l i->j<=t.length
 |[],i,j,hi,q=>by rw[sH]at q;lia
 |s::l,i,j,hi,q=>by
  obtain⟨k,hk,q⟩:=oO.mp q;refine Nf h ?_ q;rcases rK.mp hk with ⟨_,rfl,c,a,_⟩|⟨_,hm⟩
  .exact(aL.mp a).1
  .exact(GW.mp (h hm)).2.2
theorem OB{g t m}(h:m⊆VE g t):mY g t m⊆VE g t:=fun x hx=>by obtain⟨r,hr,e,hi,hj⟩:=rS.mp hx;exact GW.mpr ⟨⟨r,hr,e⟩,hi,Nf h hi hj⟩
structure jS(g:Lr)(t:T):Prop where
 wf:WF g
 gl:g.length<=8
 tl:t.length<=7
theorem jS.lid{g t}(h:jS g t):(VE g t).length<=5000:=by rw[DC];have h1:(t.length+1)*(t.length+1)<=8*8:=vE (by have:=h.tl;lia) (by have:=h.tl;lia);have:=vE h.gl h1;lia
theorem jS.stretch{g t}(h:jS g t)(i j:Nat):jS g (dS t i j):=⟨h.wf,h.gl,by
 have:=h.tl
 have:(gO t i j).length<=t.length:=by unfold gO;rw[jK,dB];lia
 lia⟩
theorem xV{g t}(h:jS g t):cW g t⊆VE g t/\(cW g t).Nodup/\mY g t (cW g t)⊆cW g t/\MX g t (cW g t):=by
 unfold cW;rw[Np];obtain⟨_,a,b,c⟩:=wJ (mY g t) (VE g t) (fun q hq=>OB hq) 5000 [] (by simp) (by simp) (by have:=h.lid;simp;lia);refine⟨a,b,c,?_⟩;refine xR (mY g t) (fun x=>x.1<256/\∃rs,DP g t [x.1] x.2.1 x.2.2 rs) ?_ 5000 [] (by simp);intro q hq x hx;obtain⟨r,hr,e,hi,hj⟩:=rS.mp hx;obtain⟨k,hk,ek⟩:=Dl hr;have Hl:g[k]? =some r:=by rw[bM hk,ek]
 obtain⟨rs,d⟩:=Bz (g:=g) hq hi hj;have hl:=(h.wf r hr).1;rw[e];exact⟨hl,k::rs,DP.nN Hl hl d⟩
theorem Ng{g t m}(h:mY g t m⊆m):∀{l i j rs},DP g t l i j rs->j∈yZ m t l i:=by
 intro l i j rs d;induction d with
 |nil _=>exact sH.mpr rfl
 |byte a b _ ih=>exact oO.mpr ⟨_,rK.mpr (.inl ⟨by lia,rfl,_,a,b⟩),ih⟩
 |name a b c d e yQ xQ=>refine oO.mpr ⟨_,rK.mpr (.inr ⟨a,h (rS.mpr ⟨_,aG b,c.symm,?_,yQ⟩)⟩),xQ⟩;have:=d.le;exact bK this.1 this.2
theorem mO{g t}(h:jS g t){s i j:Nat}:(s,i,j)∈cW g t↔s<256/\∃rs,DP g t [s] i j rs:=by
 obtain⟨_,_,c,d⟩:=xV h;constructor
 .exact fun hx=>d _ hx
 .rintro⟨hs,rs,q⟩;obtain⟨k,r,nJ,_,hk,e,z⟩:=q.jN hs;exact c (rS.mpr ⟨r,aG hk,e.symm,by have:=z.le;show i<=_;lia,Ng c z⟩)
theorem lG{g t}(h:jS g t){s i j:Nat}:j∈Gq (cW g t) t s i↔∃rs,DP g t [s] i j rs:=by
 rw[rK];constructor
 .rintro(⟨hs,rfl,c,a,b⟩|⟨hs,q⟩)
  .exact⟨[],(mS hs).mpr ⟨rfl,rfl,c,a,b⟩⟩
  .exact((mO h).mp q).2
 .rintro⟨rs,d⟩;by_cases hs:256<=s
  .obtain⟨a,b,c⟩:=(mS hs).mp d;exact .inl ⟨hs,a,c⟩
  .exact .inr ⟨by lia,(mO h).mpr ⟨by lia,rs,d⟩⟩
end Tw
namespace Tw
open Rc14
def iZ(g:Lr)(t:T)(l:Ln)(i j:Nat):Prop:=∃rs,DP g t l i j rs
theorem iZ.le{g t l i j}(h:iZ g t l i j):i<=j/\j<=t.length:=let ⟨_,d⟩:=h;d.le
theorem lX{g t i j}:iZ g t [] i j↔i=j/\i<=t.length:=
 ⟨fun⟨_,d⟩=>⟨d.nil_inv.1,bK d.le.1 d.le.2⟩,fun⟨e,h⟩=>e ▸ ⟨[],.nil h⟩⟩
theorem kE{g t s l i j}:iZ g t (s::l) i j↔∃k,iZ g t [s] i k/\iZ g t l k j:=
 ⟨fun⟨_,d⟩=>let ⟨m,_,_,_,a,b⟩:=d.cons_inv;⟨m,⟨_,a⟩,⟨_,b⟩⟩,fun⟨_,⟨_,a⟩,⟨_,b⟩⟩=>⟨_,DP.append (l1:=[s]) a b⟩⟩
theorem mU{g t l1 l2 i j}:iZ g t (l1++l2) i j↔∃k,iZ g t l1 i k/\iZ g t l2 k j:=
 ⟨fun⟨_,d⟩=>let ⟨m,_,_,_,a,b⟩:=d.split;⟨m,⟨_,a⟩,⟨_,b⟩⟩,fun⟨_,⟨_,a⟩,⟨_,b⟩⟩=>⟨_,DP.append a b⟩⟩
theorem wQ{g t s i j}(wf:WF g)(hs:s<256):iZ g t [s] i j↔∃r∈g,r.left=s/\iZ g t r.right i j:=by
 constructor
 .rintro⟨_,d⟩;obtain⟨k,r,nJ,_,a,b,c⟩:=d.jN hs;exact⟨r,aG a,b,_,c⟩
 .rintro⟨r,hr,rfl,_,c⟩;obtain⟨k,hk,ek⟩:=Dl hr;exact⟨_,DP.nN (by rw[bM hk,ek]) (wf r hr).1 c⟩
def nB(g:Lr)(t:T)(y x:Item):Prop:=y.1<256/\∃r∈g,r.left=x.1/\∃l1 l2,r.right=l1++y.1::l2/\
 iZ g t l1 x.2.1 y.2.1/\iZ g t [y.1] y.2.1 y.2.2/\iZ g t l2 y.2.2 x.2.2
theorem jO{m t i j L}:L∈rC m t [] i j↔i=j/\L=[]:=by unfold rC;split<;>simp_all
theorem gK{m t s l i j L}:L∈rC m t (s::l) i j↔∃k∈Gq m t s i,∃R∈rC m t l k j,L=(s,i,k)::R:=by
 rw[rC,bG];constructor
 .rintro⟨k,hk,h⟩;obtain⟨R,hR,rfl⟩:=aE.mp h;exact⟨k,hk,R,hR,rfl⟩
 .rintro⟨k,hk,R,hR,rfl⟩;exact⟨k,hk,aE.mpr ⟨R,hR,rfl⟩⟩
theorem xH{g t}(h:jS g t):∀{l i j},i<=t.length->((∃L,L∈rC (cW g t) t l i j)↔iZ g t l i j)
 |[],i,j,hi=>by
  rw[lX];constructor
  .rintro⟨L,hL⟩;exact⟨(jO.mp hL).1,hi⟩
  .rintro⟨e,_⟩;exact⟨[],jO.mpr ⟨e,rfl⟩⟩
 |s::l,i,j,hi=>by
  rw[kE];constructor
  .rintro⟨L,hL⟩;obtain⟨k,hk,R,hR,rfl⟩:=gK.mp hL;have c:=(lG h).mp hk;exact⟨k,c,(xH h (iZ.le c).2).mp ⟨R,hR⟩⟩
  .rintro⟨k,c,d⟩;obtain⟨R,hR⟩:=(xH h c.le.2).mpr d;exact⟨_,gK.mpr ⟨k,(lG h).mpr c,R,hR,rfl⟩⟩
theorem pG{g t}(h:jS g t)(y:Item):∀{l i j},i<=t.length->(y∈(rC (cW g t) t l i j).flatten↔
  ∃l1 l2,l=l1++y.1::l2/\iZ g t l1 i y.2.1/\iZ g t [y.1] y.2.1 y.2.2/\iZ g t l2 y.2.2 j)
 |[],i,j,hi=>by
  rw[yD]
  constructor
  .rintro⟨L,hL,hy⟩
   rw[(jO.mp hL).2]at hy
   simp at hy
  .rintro⟨l1,l2,e,_⟩;simp at e
 |s::l,i,j,hi=>by
  rw[yD]
  constructor
  .rintro⟨L,hL,hy⟩
   obtain⟨k,hk,R,hR,rfl⟩:=gK.mp hL
   have c:=(lG h).mp hk
   rcases aW.mp hy with rfl|hy
   .exact⟨[],l,rfl,lX.mpr ⟨rfl,hi⟩,c,(xH h (iZ.le c).2).mp ⟨R,hR⟩⟩
   .obtain⟨l1,l2,e,a,b,d⟩:=(pG h y (iZ.le c).2).mp (yD.mpr ⟨R,hR,hy⟩)
    exact⟨s::l1,l2,by rw[e];rfl,kE.mpr ⟨k,c,a⟩,b,d⟩
  .rintro⟨l1,l2,e,a,b,d⟩
   cases l1 with
   |nil=>
    obtain⟨e1,e2⟩:=eK e
    obtain⟨e3,_⟩:=lX.mp a
    subst e1 e2 e3
    obtain⟨R,hR⟩:=(xH h b.le.2).mpr d
    exact⟨_,gK.mpr ⟨_,(lG h).mpr b,R,hR,rfl⟩,aF⟩
   |cons s' l1=>
    obtain⟨e1,e2⟩:=eK e
    subst e1
    obtain⟨k,c,a⟩:=kE.mp a
    obtain⟨R,hR,hy⟩:=yD.mp ((pG h y (j:=j) c.le.2).mpr ⟨l1,l2,e2,a,b,d⟩)
    exact⟨_,gK.mpr ⟨k,(lG h).mpr c,R,hR,rfl⟩,aD _ hy⟩
theorem zY{g t}(h:jS g t){x y:Item}(hx:x.2.1<=t.length):y∈ND g (cW g t) t x↔nB g t y x:=by
 unfold ND nB;rw[aM,bG];constructor
 .rintro⟨⟨r,hr,hy⟩,hs⟩;obtain⟨hr,e⟩:=aM.mp hr;exact⟨aR hs,r,hr,by simpa using e,(pG h y hx).mp hy⟩
 .rintro⟨hs,r,hr,e,q⟩;exact⟨⟨r,aM.mpr ⟨hr,by simpa using e⟩,(pG h y hx).mpr q⟩,bB hs⟩
theorem nB.mem{g t x y}(h:jS g t)(p:nB g t y x):y∈cW g t:=by obtain⟨a,r,hr,e,l1,l2,_,_,c,_⟩:=p;exact(mO h).mpr ⟨a,c⟩
theorem Fc{g t}{x:Item}(h:jS g t)(hx:x∈cW g t):x.1<256/\x.2.1<=x.2.2/\x.2.2<=t.length:=by obtain⟨s,i,j⟩:=x;obtain⟨a,c⟩:=(mO h).mp hx;exact⟨a,iZ.le c⟩
section
variable {α:Type} [BEq α] [LawfulBEq α]
theorem IM(go:α->List α)(U:List α)(hU:∀x∈U,go x⊆U){x:α}(hx:x∈U):
  Acc (fun b a=>b∈go a) x↔¬∃y,cJ (fun a b=>b∈go a) x y/\∃z∈go y,cJ (fun a b=>b∈go a) z y:=by
 constructor
 .rintro ha ⟨y,r,c⟩
  have hy:Acc (fun b a=>b∈go a) y:=by
   clear c;induction r with
   |refl=>exact ha
   |tail _ r ih=>exact ih.inv r
  clear r ha;induction hy with
  |intro y _ ih=>
   obtain⟨z,hz,r⟩:=c;refine ih z hz ?_;rcases r.xW with rfl|⟨b,hb,k⟩
   .exact⟨z,hz,.refl⟩
   .exact⟨b,hb,k.tail hz⟩
 .intro hc
  have T2:∀y,cJ (fun a b=>b∈go a) x y->y∈U:=fun y r=>by
   induction r with
   |refl=>exact hx
   |tail _ r ih=>exact hU _ ih r
  have mc:∀y,y∈U->∀z,z∈lP go U.length (go y).eraseDups↔∃a∈go y,cJ (fun a b=>b∈go a) a z:=fun y hy z=>by
   rw[pW go U U.length _ (lF _) (fun z hz=>hU y hy (bR.mp hz)) hU (Ko _ _)]
   constructor
   .rintro⟨a,ha,r⟩;exact⟨a,bR.mp ha,r⟩
   .rintro⟨a,ha,r⟩;exact⟨a,bR.mpr ha,r⟩
  have nd:∀y,y∈U->(lP go U.length (go y).eraseDups).Nodup:=fun y hy=>by
   rw[xU]
   exact(wJ (fun l=>l.flatMap go) U (fun q hq y hy=>by
    obtain⟨a,ha,hy⟩:=bG.mp hy
    exact hU a (hq ha) hy) U.length _ (lF _) (fun z hz=>hU y hy (bR.mp hz)) (Ko _ _)).2.2.1
  have key:∀n y,cJ (fun a b=>b∈go a) x y->(lP go U.length (go y).eraseDups).length<=n->Acc (fun b a=>b∈go a) y:=by
   intro n
   induction n with
   |zero=>
    intro y r hl
    refine⟨_,fun z hz=>?_⟩
    have:z∈lP go U.length (go y).eraseDups:=(mc y (T2 y r) z).mpr ⟨z,hz,.refl⟩
    rw[mV (Nat.le_zero.mp hl)]at this
    simp at this
   |succ n ih=>
    intro y r hl
    refine⟨_,fun z hz=>ih z (r.tail hz) ?_⟩
    have Rm:z∈U:=T2 z (r.tail hz)
    have nz:z∉lP go U.length (go z).eraseDups:=fun q=>by
     obtain⟨a,ha,k⟩:=(mc z Rm z).mp q
     exact hc ⟨z,r.tail hz,a,ha,k⟩
    have:=(cQ.mpr ⟨nz,nd z Rm⟩).length_le_of_subset (l₂:=lP go U.length (go y).eraseDups) fun a ha=>by
     rcases aW.mp ha with rfl|ha
     .exact(mc y (T2 y r) _).mpr ⟨_,hz,.refl⟩
     .obtain⟨b,hb,k⟩:=(mc z Rm a).mp ha
      exact(mc y (T2 y r) a).mpr ⟨z,hz,cJ.head hb k⟩
    simp at this
    lia
  exact key _ x .refl (aY _)
end
theorem Si{α:Type}{R S:α->α->Prop}{Z:α->Prop}(e:∀x y,Z x->(R y x↔S y x))(hZ:∀x y,Z x->S y x->Z y){x:α}(hx:Z x):Acc R x↔Acc S x:=by
 constructor
 .intro h;induction h with
  |intro x _ ih=>exact⟨_,fun y hy=>ih y ((e x y hx).mpr hy) (hZ x y hx hy)⟩
 .intro h;induction h with
  |intro x _ ih=>exact⟨_,fun y hy=>ih y ((e x y hx).mp hy) (hZ x y hx ((e x y hx).mp hy))⟩
theorem Zm{g t}(h:jS g t)(x:Item):endless g (cW g t) t x=true↔x∈cW g t/\¬Acc (nB g t) x:=by
 obtain⟨cU,cN,cC,cS⟩:=xV h;have lid:(cW g t).length<=5000:=bK (cN.length_le_of_subset cU) h.lid;have hle:∀x∈cW g t,x.2.1<=t.length:=fun x hx=>by have:=Fc h hx;lia
 have hU:∀x∈cW g t,ND g (cW g t) t x⊆cW g t:=fun x hx y hy=>((zY h (hle x hx)).mp hy).mem h;unfold endless;rw[bJ,bJ,bP];constructor
 .rintro⟨⟨hs,hx⟩,ha⟩;refine⟨hx,?_⟩;rw[<-Si (R:=fun b a=>b∈ND g (cW g t) t a) (Z:=fun x=>x∈cW g t) (fun x y hx=>zY h (hle x hx)) (fun x y _ hy=>hy.mem h) hx,IM _ _ hU hx];intro hn;obtain⟨y,hy,hc⟩:=dI.mp ha;rw[pW _ (cW g t) 5000 _ (by simp) (by simpa using hx) hU (by simp;lia)]at hy;obtain⟨a,ha,r⟩:=hy;have:a=x:=by simpa using ha
  subst this
  have uf:y∈cW g t:=by
   clear hc;induction r with
   |refl=>exact hx
   |tail _ r ih=>exact hU _ ih r
  rw[bP,pW _ (cW g t) 5000 _ (lF _) (fun z hz=>hU y uf (bR.mp hz)) hU (by lia)]at hc;obtain⟨z,hz,k⟩:=hc;exact hn ⟨y,r,z,bR.mp hz,k⟩
 .rintro⟨hx,hn⟩;refine⟨⟨bB (Fc h hx).1,hx⟩,?_⟩;rw[<-Si (R:=fun b a=>b∈ND g (cW g t) t a) (Z:=fun x=>x∈cW g t) (fun x y hx=>zY h (hle x hx)) (fun x y _ hy=>hy.mem h) hx,IM _ _ hU hx]at hn;obtain⟨y,r,z,hz,k⟩:=qC.mp hn
  have uf:y∈cW g t:=by
   clear k hz;induction r with
   |refl=>exact hx
   |tail _ r ih=>exact hU _ ih r
  refine dI.mpr ⟨y,?_,?_⟩
  .rw[pW _ (cW g t) 5000 _ (by simp) (by simpa using hx) hU (by simp;lia)];exact⟨x,by simp,r⟩
  .rw[bP,pW _ (cW g t) 5000 _ (lF _) (fun z hz=>hU y uf (bR.mp hz)) hU (by lia)];exact⟨z,bR.mpr hz,k⟩
theorem oC{g t l i j a b}(hj:j<=t.length)(Bq:i<=j)(hb:i+b<=j):iZ g (dS t i j) l a b↔iZ g t l (i+a) (i+b):=by
 unfold iZ;constructor
 .rintro⟨rs,d⟩;exact⟨rs,(De hj Bq hb).mp d⟩
 .rintro⟨rs,d⟩;exact⟨rs,(De hj Bq hb).mpr d⟩
theorem nB.within{g t y x}(p:nB g t y x):x.2.1<=y.2.1/\y.2.1<=y.2.2/\y.2.2<=x.2.2/\x.2.2<=t.length:=by obtain⟨_,r,_,_,l1,l2,_,a,b,c⟩:=p;exact⟨a.le.1,b.le.1,c.le.1,c.le.2⟩
theorem Es{g t s s' i j a b c d}(hj:j<=t.length)(Bq:i<=j)(hb:i+b<=j):
  nB g (dS t i j) (s',c,d) (s,a,b)↔nB g t (s',i+c,i+d) (s,i+a,i+b):=by
 constructor
 .intro p;have w:=p.within;obtain⟨hs,r,hr,e,l1,l2,e2,x,y,z⟩:=p;dsimp only at*;exact⟨hs,r,hr,e,l1,l2,e2,(oC hj Bq (by lia)).mp x,(oC hj Bq (by lia)).mp y,(oC hj Bq hb).mp z⟩
 .intro p;have w:=p.within;obtain⟨hs,r,hr,e,l1,l2,e2,x,y,z⟩:=p;dsimp only at*;exact⟨hs,r,hr,e,l1,l2,e2,(oC hj Bq (by dsimp only;lia)).mpr x,(oC hj Bq (by dsimp only;lia)).mpr y,(oC hj Bq hb).mpr z⟩
theorem Iz{g t i j}(hj:j<=t.length)(Bq:i<=j):∀{s a b},i+b<=j->(Acc (nB g (dS t i j)) (s,a,b)↔Acc (nB g t) (s,i+a,i+b)):=by
 intro s a b hb;constructor
 .intro h
  have key:∀x,Acc (nB g (dS t i j)) x->i+x.2.2<=j->Acc (nB g t) (x.1,i+x.2.1,i+x.2.2):=by
   intro x hx;induction hx with
   |intro x _ ih=>intro hb;refine⟨_,?_⟩;rintro⟨s',c,d⟩ p;have w:=p.within;dsimp only at w;obtain⟨c,rfl⟩:∃c',c=i+c':=⟨c-i,by lia⟩;obtain⟨d,rfl⟩:∃d',d=i+d':=⟨d-i,by lia⟩;exact ih (s',c,d) ((Es hj Bq hb).mpr p) (by dsimp only;lia)
  exact key _ h hb
 .intro h
  have key:∀x,Acc (nB g t) x->∀s a b,x=(s,i+a,i+b)->i+b<=j->Acc (nB g (dS t i j)) (s,a,b):=by
   intro x hx;induction hx with
   |intro x _ ih=>rintro s a b rfl hb;refine⟨_,?_⟩;rintro⟨s',c,d⟩ p;have w:=p.within;dsimp only at w;exact ih _ ((Es hj Bq hb).mp p) s' c d rfl (by lia)
  exact key _ h s a b rfl hb
end Tw
namespace Tw
open Rc14
def uW(f:Item->List (Ln))(L:List Item):List (Ln):=
 L.foldr (fun(y:Item) (rest:List (Ln))=>(f y).flatMap fun(a:Ln)=>rest.map fun(b:Ln)=>a++b) [[]]
theorem Bt{f a}:a∈uW f []↔a=[]:=by simp[uW]
theorem qO{f y L a}:a∈uW f (y::L)↔∃b∈f y,∃c∈uW f L,a=b++c:=by
 show a∈((f y).flatMap fun(a:Ln)=>(uW f L).map fun(b:Ln)=>a++b)↔_;rw[bG];constructor
 .rintro⟨b,hb,h⟩;obtain⟨c,hc,rfl⟩:=aE.mp h;exact⟨b,hb,c,hc,rfl⟩
 .rintro⟨b,hb,c,hc,rfl⟩;exact⟨b,hb,aE.mpr ⟨c,hc,rfl⟩⟩
theorem qN{g m t n x rs}:rs∈trees g m t (n+1) x↔(256<=x.1/\x.2.2∈Gq m t x.1 x.2.1/\rs=[])∨
  (x.1<256/\∃k r a,g[k]? =some r/\r.left=x.1/\rs=k::a/\∃L∈rC m t r.right x.2.1 x.2.2,a∈uW (trees g m t n) L):=by
 rw[trees]
 by_cases hs:256<=x.1
 .rw[if_pos hs];constructor
  .intro h;split at h
   .rename_i e;exact .inl ⟨hs,bP.mp e,by simpa using h⟩
   .simp at h
  .rintro(⟨_,h,rfl⟩|⟨h,_⟩)
   .rw[if_pos (bP.mpr h)];simp
   .lia
 .rw[if_neg hs,bG];constructor
  .rintro⟨k,hk,h⟩;right;refine⟨by lia,?_⟩;cases e:g[k]? with
   |none=>rw[e]at h;simp at h
   |some r=>
    rw[e]at h;dsimp only at h;split at h
    .simp at h
    .rename_i hl;obtain⟨L,hL,h⟩:=bG.mp h;obtain⟨a,ha,rfl⟩:=aE.mp h;exact⟨k,r,a,e,qC.mp hl,rfl,L,hL,ha⟩
  .rintro(⟨h,_⟩|⟨_,k,r,a,e,hl,rfl,L,hL,ha⟩)
   .lia
   .refine⟨k,bS.mpr (aL.mp e).1,?_⟩;rw[e];dsimp only;rw[if_neg (by simpa using hl)];exact bG.mpr ⟨L,hL,aE.mpr ⟨a,ha,rfl⟩⟩
theorem Ii{g t}(h:jS g t){f:Item->List (Ln)}(hf:∀y,y.2.1<=t.length->∀a∈f y,DP g t [y.1] y.2.1 y.2.2 a):
  ∀{l i j L a},i<=t.length->L∈rC (cW g t) t l i j->a∈uW f L->DP g t l i j a
 |[],i,j,L,a,hi,hL,ha=>by obtain⟨rfl,rfl⟩:=jO.mp hL;rw[Bt]at ha;subst ha;exact .nil hi
 |s::l,i,j,L,a,hi,hL,ha=>by obtain⟨k,hk,R,hR,rfl⟩:=gK.mp hL;obtain⟨b,hb,c,hc,rfl⟩:=qO.mp ha;have d1:=hf _ hi b hb;exact DP.append (l1:=[s]) d1 (Ii h hf d1.le.2 hR hc)
theorem zV{g t}(h:jS g t){f:Item->List (Ln)}:
  ∀{l i j a},(∀l1 s l2 i' j' b,l=l1++s::l2->iZ g t l1 i i'->iZ g t l2 j' j->DP g t [s] i' j' b->b∈f (s,i',j'))->DP g t l i j a->
   ∃L∈rC (cW g t) t l i j,a∈uW f L
 |[],i,j,a,_,d=>by obtain⟨rfl,rfl⟩:=d.nil_inv;exact⟨[],jO.mpr ⟨rfl,rfl⟩,Bt.mpr rfl⟩
 |s::l,i,j,a,hf,d=>by
  obtain⟨m,b,c,rfl,d1,d2⟩:=d.cons_inv
  obtain⟨R,hR,hc⟩:=zV h (f:=f) (l:=l) (i:=m) (j:=j) (fun l1 s' l2 i' j' b' e x y z=>
   hf (s::l1) s' l2 i' j' b' (by rw[e];rfl) (kE.mpr ⟨m,⟨_,d1⟩,x⟩) y z) d2
  refine⟨_,gK.mpr ⟨m,(lG h).mpr ⟨b,d1⟩,R,hR,rfl⟩,qO.mpr ⟨b,?_,c,hc,rfl⟩⟩
  exact hf [] s l i m b rfl (lX.mpr ⟨rfl,bK d1.le.1 d1.le.2⟩) ⟨_,d2⟩ d1
theorem zQ{g t}(h:jS g t):∀{n x rs},x.2.1<=t.length->rs∈trees g (cW g t) t n x->DP g t [x.1] x.2.1 x.2.2 rs
 |0,x,rs,_,hr=>by simp[trees]at hr
 |n+1,x,rs,hx,hr=>by
  rcases qN.mp hr with ⟨hs,e,rfl⟩|⟨hs,k,r,a,e,hl,rfl,L,hL,ha⟩
  .obtain⟨rs,d⟩:=(lG h).mp e;have:=((mS hs).mp d).2.1;subst this;exact d
  .have d:=Ii h (f:=trees g (cW g t) t n) (fun y hy b hb=>zQ h hy hb) hx hL ha;rw[<-hl];exact DP.nN e (by lia) d
def Kl(g:Lr)(t:T)(x v:Item):Prop:=∃y,nB g t y v/\cJ (fun a b=>nB g t b a) y x
theorem Kl.irrefl{g t x}(h:Acc (nB g t) x):¬Kl g t x x:=by
 induction h with
 |intro x _ ih=>
  rintro⟨y,p,r⟩;refine ih y p ?_;rcases r.xW with rfl|⟨b,hb,k⟩
  .exact⟨_,p,.refl⟩
  .exact⟨b,hb,k.tail p⟩
theorem Kl.down{g t x v y}(h:Kl g t x v)(p:nB g t y x):Kl g t y v:=let ⟨z,a,b⟩:=h;⟨z,a,b.tail p⟩
theorem zR{g t}(h:jS g t):∀(n:Nat) (MB:List Item) (x:Item) (rs:Ln),MB.Nodup->MB⊆cW g t->(∀v∈MB,Kl g t x v)->Acc (nB g t) x->
  (cW g t).length+2<=n+MB.length->DP g t [x.1] x.2.1 x.2.2 rs->rs∈trees g (cW g t) t n x
 |0,MB,x,rs,hn,hs,_,_,hl,_=>by have:=hn.length_le_of_subset hs;lia
 |n+1,MB,x,rs,hn,tZ,hb,ha,hl,d=>by
  rw[qN];by_cases hs:256<=x.1
  .left;refine⟨hs,(lG h).mpr ⟨rs,d⟩,((mS hs).mp d).2.1⟩
  .right;have hs:x.1<256:=by lia
   refine⟨hs,?_⟩;obtain⟨k,r,a,e,hk,ZE,d'⟩:=d.jN hs;refine⟨k,r,a,hk,ZE,e,?_⟩;have hxv:x∉MB:=fun q=>Kl.irrefl ha (hb x q);have hx:x∈cW g t:=(mO h).mpr ⟨hs,rs,d⟩;have Uz:(x::MB).Nodup:=cQ.mpr ⟨hxv,hn⟩
   have de:(x::MB)⊆cW g t:=fun y hy=>by
    rcases aW.mp hy with rfl|hy
    .exact hx
    .exact tZ hy
   have hlen:=Uz.length_le_of_subset de;refine zV h (f:=trees g (cW g t) t n) ?_ d';intro l1 s l2 i' j' b e1 c1 c2 db;by_cases KR:256<=s
   .match n,hl with
    |0,hl=>simp at hlen;lia
    |n+1,_=>exact qN.mpr (.inl ⟨KR,(lG h).mpr ⟨b,db⟩,((mS KR).mp db).2.1⟩)
   .have p:nB g t (s,i',j') x:=⟨by show s<256;lia,r,aG hk,ZE,l1,l2,e1,c1,⟨b,db⟩,c2⟩;refine zR h n (x::MB) (s,i',j') b Uz de ?_ (ha.inv p) (by simp;lia) db;intro v hv;rcases aW.mp hv with rfl|hv
    .exact⟨_,p,.refl⟩
    .exact(hb v hv).down p
theorem jG{α β:Type}{l:List α}{f:α->List β}(h1:∀a∈l,(f a).Nodup)(h2:l.Pairwise fun a b=>∀x,x∈f a->x∈f b->False):(l.flatMap f).Nodup:=by rw[List.Nodup,BG];refine⟨h1,h2.imp ?_⟩;intro a b h x hx y hy e;subst e;exact h x hx hy
theorem mC{α β:Type}{f:α->β}:∀{l:List α},l.Nodup->(∀a∈l,∀b∈l,f a=f b->a=b)->(l.map f).Nodup
 |[],_,_=>by simp
 |a::l,h,inj=>by rw[bL,cQ];obtain⟨h1,h2⟩:=cQ.mp h;refine⟨fun q=>?_,mC h2 fun x hx y hy=>inj x (aD _ hx) y (aD _ hy)⟩;obtain⟨b,hb,e⟩:=aE.mp q;have:=inj b (aD _ hb) a aF e;subst this;exact h1 hb
theorem jH{α:Type}{p:α->Bool}{l:List α}(h:l.Nodup):(l.filter p).Nodup:=Kq p h
theorem nodup_range(n:Nat):(bD n).Nodup:=List.nodup_range
theorem fW{α:Type}{R:α->α->Prop}{l:List α}(h:l.Nodup)(hR:∀a∈l,∀b∈l,a≠b->R a b):l.Pairwise R:=
 List.Pairwise.imp_of_mem (fun ha hb ne=>hR _ ha _ hb ne) h
theorem Uh{m:List Item}{t:T}(h:m.Nodup)(s i:Nat):(Gq m t s i).Nodup:=by
 unfold Gq;split
 .split<;>simp
 .refine mC (jH h) ?_;rintro⟨a,b,c⟩ ha ⟨a',b',c'⟩ hb e;have h1:=(aM.mp ha).2;have h2:=(aM.mp hb).2;simp at h1 h2 e;obtain⟨rfl,rfl⟩:=h1;obtain⟨rfl,rfl⟩:=h2;rw[e]
theorem Ey{m:List Item}{t:T}(h:m.Nodup):∀(l:Ln) (i j:Nat),(rC m t l i j).Nodup
 |[],i,j=>by unfold rC;split<;>simp
 |s::l,i,j=>by rw[rC];refine jG (fun k _=>mC (Ey h l k j) fun a _ b _ e=>(eK e).2) (fW (Uh h s i) ?_);intro a _ b _ ne x hx hy;obtain⟨y,_,rfl⟩:=aE.mp hx;obtain⟨z,_,e⟩:=aE.mp hy;have:=(eK e).1;simp at this;exact ne this.symm
theorem DP.det{g t l i j j' rs Ig x y}(h:DP g t l i j rs)(k:DP g t l i j' Ig)(e:rs++x=Ig++y):rs=Ig/\j=j':=by obtain⟨a,b⟩:=h.toD.det k.toD e;refine⟨a,?_⟩;have:=gL jU b;rw[fG h.le.2,fG k.le.2]at this;have:=h.le;have:=k.le;lia
theorem Il{g t}{f:Item->List (Ln)}(hf:∀y,y.2.1<=t.length->∀a∈f y,DP g t [y.1] y.2.1 y.2.2 a)(hn:∀y,y.2.1<=t.length->(f y).Nodup):
  ∀{L:List Item},(∀y∈L,y.2.1<=t.length)->(uW f L).Nodup
 |[],_=>by simp[uW]
 |y::L,hL=>by have hy:=hL y aF;have ih:=Il hf hn (L:=L) fun z hz=>hL z (aD _ hz);show((f y).flatMap fun(a:Ln)=>(uW f L).map fun(b:Ln)=>a++b).Nodup;refine jG (fun a _=>mC ih fun b _ c _ e=>gH e) (fW (hn y hy) ?_);intro a ha b hb ne x hx oe;obtain⟨c,_,rfl⟩:=aE.mp hx;obtain⟨d,_,e⟩:=aE.mp oe;exact ne ((hf y hy a ha).det (hf y hy b hb) e.symm).1
theorem Qo{g t}(h:jS g t):∀{l i j L},i<=t.length->L∈rC (cW g t) t l i j->∀y∈L,y.2.1<=t.length
 |[],i,j,L,_,hL,y,hy=>by rw[(jO.mp hL).2]at hy;simp at hy
 |s::l,i,j,L,hi,hL,y,hy=>by
  obtain⟨k,hk,R,hR,rfl⟩:=gK.mp hL;rcases aW.mp hy with rfl|hy
  .exact hi
  .exact Qo h (iZ.le ((lG h).mp hk)).2 hR y hy
theorem Ij{g t}(h:jS g t){f:Item->List (Ln)}(hf:∀y,y.2.1<=t.length->∀a∈f y,DP g t [y.1] y.2.1 y.2.2 a):
  ∀{l i j L L' a},i<=t.length->L∈rC (cW g t) t l i j->L'∈rC (cW g t) t l i j->a∈uW f L->a∈uW f L'->L=L'
 |[],i,j,L,L',a,_,hL,MN,_,_=>by rw[(jO.mp hL).2,(jO.mp MN).2]
 |s::l,i,j,L,L',a,hi,hL,MN,ha,ha'=>by obtain⟨k,hk,R,hR,rfl⟩:=gK.mp hL;obtain⟨k',Hl,R',hR',rfl⟩:=gK.mp MN;obtain⟨b,hb,c,hc,rfl⟩:=qO.mp ha;obtain⟨b',Iv,c',U6,e⟩:=qO.mp ha';have d1:=hf _ hi b hb;have d2:=hf _ hi b' Iv;obtain⟨rfl,e2⟩:=d1.det d2 e;dsimp only at e2;subst e2;have:=gH e;subst this;rw[Ij h hf (d1.le.2) hR hR' hc U6]
theorem Ik{g t}(h:jS g t):∀(n:Nat) (x:Item),x.2.1<=t.length->(trees g (cW g t) t n x).Nodup
 |0,x,_=>by simp[trees]
 |n+1,x,hx=>by
  have hS:∀y:Item,y.2.1<=t.length->∀a∈trees g (cW g t) t n y,DP g t [y.1] y.2.1 y.2.2 a:=fun y hy a ha=>zQ h hy ha
  have hN:=fun y hy=>Ik h n y hy
  rw[trees]
  split
  .split<;>simp
  .refine jG (fun k _=>?_) (fW (nodup_range _) ?_)
   .split
    .simp
    .rename_i r _
     split
     .simp
     .refine jG (fun L hL=>mC (Il hS hN (Qo h hx hL)) fun a _ b _ e=>(eK e).2) (fW (Ey (xV h).2.1 _ _ _) ?_)
      intro L hL L' MN ne a ha hb
      obtain⟨b,LC,rfl⟩:=aE.mp ha
      obtain⟨c,hc1,e⟩:=aE.mp hb
      have:=(eK e).2
      subst this
      exact ne (Ij h hS hx hL MN LC hc1)
   .intro a _ b _ ne z hz Rm
    have key:∀k,(z∈(match g[k]? with
     |none=>([]:List (Ln))
     |some r=>if r.left≠x.1 then []else (rC (cW g t) t r.right x.2.1 x.2.2).flatMap fun(l:List Item)=>(uW (trees g (cW g t) t n) l).map fun(a:Ln)=>k::a))->z.head?=some k:=by
     intro k hk
     split at hk
     .simp at hk
     .split at hk
      .simp at hk
      .obtain⟨L,_,hk⟩:=bG.mp hk
       obtain⟨a,_,rfl⟩:=aE.mp hk
       rfl
    have h1:=key a hz
    have h2:=key b Rm
    rw[h1]at h2
    exact ne (bC h2)
def jC(g:Lr)(t:T)(l:Ln)(i j n:Nat):Prop:=∃L:List (Ln),L.Nodup/\(∀rs,rs∈L↔DP g t l i j rs)/\L.length=n
theorem jC.uniq{g t l i j n n'}(h:jC g t l i j n)(k:jC g t l i j n'):n=n':=by obtain⟨L,a,b,rfl⟩:=h;obtain⟨L',a',b',rfl⟩:=k;exact Nat.le_antisymm (a.length_le_of_subset fun x hx=>(b' x).mpr ((b x).mp hx)) (a'.length_le_of_subset fun x hx=>(b x).mpr ((b' x).mp hx))
theorem oA:∀a:Ln,less a a=false
 |[]=>rfl
 |x::a=>by simp[less,oA a]
theorem rL:∀{a b c:Ln},less a b=true->less b c=true->less a c=true
 |[],b,[],h1,h2=>by cases b<;>simp[less]at*
 |[],b,z::c,h1,h2=>by simp[less]
 |x::a,[],c,h1,h2=>by simp[less]at h1
 |x::a,y::b,[],h1,h2=>by simp[less]at h2
 |x::a,y::b,z::c,h1,h2=>by
  simp[less]at*;rcases h1 with h1|⟨rfl,h1⟩
  .rcases h2 with h2|⟨rfl,h2⟩
   .left;lia
   .left;exact h1
  .rcases h2 with h2|⟨rfl,h2⟩
   .left;exact h2
   .right;exact⟨rfl,rL h1 h2⟩
theorem tV:∀(a b:Ln),a=b∨less a b=true∨less b a=true
 |[],[]=>.inl rfl
 |[],y::b=>.inr (.inl rfl)
 |x::a,[]=>.inr (.inr rfl)
 |x::a,y::b=>by
  simp[less];rcases UZ x y with h|rfl|h
  .right;left;left;exact h
  .rcases tV a b with rfl|h|h
   .exact .inl ⟨rfl,rfl⟩
   .right;left;right;exact⟨rfl,h⟩
   .right;right;right;exact⟨rfl,h⟩
  .right;right;left;exact h
def VH(a b:Ln):Bool:=a==b||less a b
theorem uZ{a b}:VH a b=true↔a=b∨less a b=true:=by simp[VH]
theorem DB{a b:Ln}(h:less a b=true)(k:less b a=true):False:=by have:=rL h k;rw[oA]at this;cases this
theorem Dx{g t s}(h:jS g t)(ha:256<=s∨Acc (nB g t) (s,0,t.length)):
  (∀rs,rs∈yV g t s↔D g [s] t rs)/\(yV g t s).Pairwise (fun a b=>less a b=true):=by
 have hp:(yV g t s).Perm (trees g (cW g t) t ((cW g t).length+2) (s,0,t.length)):=IY _ _
 have hm:∀rs,rs∈yV g t s↔D g [s] t rs:=fun rs=>by
  rw[hp.mem_iff,<-Nj];constructor
  .exact fun q=>zQ h (x:=(s,0,t.length)) (cI _) q
  .intro d;rcases ha with hs|ha
   .exact qN.mpr (.inl ⟨hs,(lG h).mpr ⟨rs,d⟩,((mS hs).mp d).2.1⟩)
   .exact zR h _ [] (s,0,t.length) rs (by simp) (by simp) (by simp) ha (by simp) d
 refine⟨hm,?_⟩
 have hn:(yV g t s).Nodup:=hp.nodup_iff.mpr (Ik h _ (s,0,t.length) (cI _))
 have hs:(yV g t s).Pairwise (fun a b=>VH a b=true):=by
  refine Wq (le:=VH) (fun a b c h1 h2=>?_) (fun a b=>?_) _
  .rw[uZ]at*;rcases h1 with rfl|h1
   .exact h2
   .rcases h2 with rfl|h2
    .exact .inr h1
    .exact .inr (rL h1 h2)
  .rw[eI,uZ,uZ];rcases tV a b with e|e|e
   .exact .inl (.inl e)
   .exact .inl (.inr e)
   .exact .inr (.inr e)
 exact(Qb hs hn).imp fun⟨a,b⟩=>(uZ.mp a).resolve_left b
theorem Ie{L L':List (Ln)}(h:L.Pairwise (fun a b=>less a b=true))(h':L'.Pairwise (fun a b=>less a b=true))(e:∀x,x∈L↔x∈L'):L=L':=by
 have n1:L.Nodup:=h.imp fun{a b} q e=>by subst e;rw[oA]at q;cases q
 have n2:L'.Nodup:=h'.imp fun{a b} q e=>by subst e;rw[oA]at q;cases q
 refine List.Perm.eq_of_pairwise (le:=fun a b=>less a b=true) (fun a b _ _ x y=>(DB x y).elim) h h' ?_;exact(kY n1 n2).mpr e
theorem Ww{g t s}(h:jS g t)(ha:256<=s∨Acc (nB g t) (s,0,t.length)):jC g t [s] 0 t.length (yV g t s).length:=by
 obtain⟨a,b⟩:=Dx h ha;have n1:(yV g t s).Nodup:=b.imp fun{a b} q e=>by subst e;rw[oA]at q;cases q
 exact⟨_,n1,fun rs=>by rw[a,Nj],rfl⟩
end Tw
namespace Tw
open Rc14
theorem Nu{s:Nat}(h:256<=s)(k:s<512):s=(eA (s-256)).toNat+256:=by rw[lT (by show s-256<256;lia)];lia
def Mk(g:Lr)(s:Nat):Prop:=∃w rs,D g [s] w rs
def Em(g:Lr)(s:Nat):Prop:=∃rs,D g [s] [] rs
def Fi(g:Lr)(s:Nat):Prop:=∃c w rs,D g [s] (c::w) rs
theorem Mk.byte{g s}(h:256<=s)(k:s<512):Mk g s:=⟨_,_,D.Nv (Nu h k)⟩
theorem Fi.byte{g s}(h:256<=s)(k:s<512):Fi g s:=⟨_,_,_,D.Nv (Nu h k)⟩
theorem Em.lt{g s}(h:Em g s):s<256:=by obtain⟨rs,d⟩:=h;apply bQ;intro q;obtain⟨c,_,e,_⟩:=d.UI (by lia);cases e
theorem Mh{g}:∀{l:Ln},(∀s∈l,Mk g s)->∃w rs,D g l w rs
 |[],_=>⟨_,_,.nil⟩
 |s::l,h=>by obtain⟨w1,nJ,d1⟩:=h s aF;obtain⟨w2,rs2,d2⟩:=Mh (l:=l) fun x hx=>h x (aD _ hx);exact⟨_,_,d1.cons d2⟩
theorem TR{g}:∀{l:Ln},(∀s∈l,Em g s)->∃rs,D g l [] rs
 |[],_=>⟨_,.nil⟩
 |s::l,h=>by obtain⟨nJ,d1⟩:=h s aF;obtain⟨rs2,d2⟩:=TR (l:=l) fun x hx=>h x (aD _ hx);exact⟨_,d1.cons d2⟩
theorem vH{g}:∀{l:Ln} {w rs},D g l w rs->∀s∈l,Mk g s
 |[],_,_,_,s,hs=>by simp at hs
 |x::l,w,rs,d,s,hs=>by
  obtain⟨w1,w2,nJ,rs2,rfl,rfl,a,b⟩:=d.cons_inv;rcases aW.mp hs with rfl|hs
  .exact⟨_,_,a⟩
  .exact vH b s hs
theorem OZ{g}:∀{l:Ln} {rs},D g l [] rs->∀s∈l,Em g s
 |[],_,_,s,hs=>by simp at hs
 |x::l,rs,d,s,hs=>by
  obtain⟨w1,w2,nJ,rs2,e,rfl,a,b⟩:=d.cons_inv;obtain⟨rfl,rfl⟩:=zD.mp e.symm;rcases aW.mp hs with rfl|hs
  .exact⟨_,a⟩
  .exact OZ b s hs
theorem OY{g}:∀{l:Ln} {c w rs},D g l (c::w) rs->∃s∈l,Fi g s
 |[],_,_,_,d=>by have:=d.nil_inv.1;cases this
 |x::l,c,w,rs,d=>by
  obtain⟨w1,w2,nJ,rs2,e,rfl,a,b⟩:=d.cons_inv;cases w1 with
  |nil=>obtain⟨s,hs,q⟩:=OY (l:=l) (c:=c) (w:=w) (by rw[WL]at e;rw[e];exact b);exact⟨s,aD _ hs,q⟩
  |cons c' w1=>exact⟨x,aF,_,_,_,a⟩
theorem SY{g}:∀{l:Ln},(∀s∈l,Mk g s)->(∃s∈l,Fi g s)->∃c w rs,D g l (c::w) rs
 |[],_,h=>by obtain⟨s,hs,_⟩:=h;simp at hs
 |x::l,hm,h=>by
  obtain⟨s,hs,q⟩:=h;rcases aW.mp hs with rfl|hs
  .obtain⟨c,w,rs,d⟩:=q;obtain⟨w2,rs2,d2⟩:=Mh (l:=l) fun x hx=>hm x (aD _ hx);exact⟨_,_,_,d.cons d2⟩
  .obtain⟨w1,nJ,d1⟩:=hm x aF;obtain⟨c,w,rs,d⟩:=SY (l:=l) (fun x hx=>hm x (aD _ hx)) ⟨s,hs,q⟩;have:=d1.cons d;cases w1 with
   |nil=>exact⟨_,_,_,this⟩
   |cons=>exact⟨_,_,_,this⟩
theorem sS{g:Lr}{r:Rule}(hr:r∈g):∃k:Nat,g[k]? =some r:=by obtain⟨k,hk,ek⟩:=Dl hr;exact⟨k,by rw[bM hk,ek]⟩
theorem Uk{g s}(wf:WF g)(hs:s<256):Mk g s↔∃r∈g,r.left=s/\∀x∈r.right,Mk g x:=by
 constructor
 .rintro⟨w,rs,d⟩;obtain⟨k,r,nJ,_,a,b,c⟩:=d.jN hs;exact⟨r,aG a,b,vH c⟩
 .rintro⟨r,hr,rfl,h⟩;obtain⟨k,hk⟩:=sS hr;obtain⟨w,rs,d⟩:=Mh h;exact⟨_,_,D.nN hk (wf r hr).1 d⟩
theorem ae{g s}(wf:WF g)(hs:s<256):Em g s↔∃r∈g,r.left=s/\∀x∈r.right,Em g x:=by
 constructor
 .rintro⟨rs,d⟩;obtain⟨k,r,nJ,_,a,b,c⟩:=d.jN hs;exact⟨r,aG a,b,OZ c⟩
 .rintro⟨r,hr,rfl,h⟩;obtain⟨k,hk⟩:=sS hr;obtain⟨rs,d⟩:=TR h;exact⟨_,D.nN hk (wf r hr).1 d⟩
theorem HW{g s}(wf:WF g)(hs:s<256):Fi g s↔∃r∈g,r.left=s/\(∀x∈r.right,Mk g x)/\∃x∈r.right,Fi g x:=by
 constructor
 .rintro⟨c,w,rs,d⟩;obtain⟨k,r,nJ,_,a,b,c⟩:=d.jN hs;exact⟨r,aG a,b,vH c,OY c⟩
 .rintro⟨r,hr,rfl,h,h2⟩;obtain⟨k,hk⟩:=sS hr;obtain⟨c,w,rs,d⟩:=SY h h2;exact⟨_,_,_,D.nN hk (wf r hr).1 d⟩
section
variable {g:Lr} (wf:WF g) (hl:g.length<=8)
include wf hl
theorem Hq(p:Ln->Rule->Bool)(Z:Nat->Prop)
  (hs:∀q,(∀x∈q,x<256/\Z x)->∀r∈g,p q r=true->Z r.left)
  (hc:∀q,(∀r∈g,p q r=true->r.left∈q)->∀s,s<256->Z s->s∈q):
  ∀s,s∈(bD 300).foldl (fun(q:Ln) (_:Nat)=>(q++(g.filter fun(r:Rule)=>p q r).map fun(r:Rule)=>r.left).eraseDups) []↔s<256/\Z s:=by
 intro s
 rw[Dd]
 obtain⟨a,b,c⟩:=Xo (fun q=>(g.filter fun(r:Rule)=>p q r).map fun(r:Rule)=>r.left) (g.map fun r=>r.left) (fun q _ x hx=>by
  obtain⟨r,hr,rfl⟩:=aE.mp hx
  exact aE.mpr ⟨r,(aM.mp hr).1,rfl⟩) 300 (by rw[aA];lia)
 have hz:=Ei (fun q=>(g.filter fun(r:Rule)=>p q r).map fun(r:Rule)=>r.left) (fun s=>s<256/\Z s) (fun q hq x hx=>by
  obtain⟨r,hr,rfl⟩:=aE.mp hx
  obtain⟨hr,e⟩:=aM.mp hr
  exact⟨(wf r hr).1,hs q hq r hr e⟩) 300
 constructor
 .exact fun h=>hz s h
 .rintro⟨h1,h2⟩;exact hc _ (fun r hr e=>c (aE.mpr ⟨r,aM.mpr ⟨hr,e⟩,rfl⟩)) s h1 h2
theorem Mj(s:Nat):s∈rD g↔s<256/\Mk g s:=by
 refine Hq wf hl (fun q r=>r.right.all fun(s:Nat)=>decide (256<=s)||q.contains s) (Mk g) ?_ ?_ s
 .intro q hq r hr e;refine(Uk wf (wf r hr).1).mpr ⟨r,hr,rfl,fun x hx=>?_⟩;have:=cX.mp e x hx;rw[eI,bP]at this;rcases this with h|h
  .exact Mk.byte (aR h) ((wf r hr).2 x hx)
  .exact(hq x h).2
 .intro q hq s hs ⟨w,rs,d⟩
  have key:∀{l w rs},D g l w rs->∀s∈l,256<=s∨s∈q:=by
   intro l w rs d;induction d with
   |nil=>simp
   |byte e _ ih=>
    intro s hs;rcases aW.mp hs with rfl|hs
    .left;lia
    .exact ih s hs
   |name a b c d _ yQ xQ=>
    intro s hs;rcases aW.mp hs with rfl|hs
    .right;rw[<-c];refine hq _ (aG b) (cX.mpr fun x hx=>?_);rw[eI,bP];exact(yQ x hx).imp bB id
    .exact xQ s hs
  exact(key d s (by simp)).resolve_left (by lia)
theorem iQ{s:Nat}(hs:s<512):uI (rD g) s=true↔Mk g s:=by
 unfold uI;rw[eI,bP,Mj wf hl];constructor
 .rintro(h|h)
  .exact Mk.byte (aR h) hs
  .exact h.2
 .intro h;by_cases q:256<=s
  .exact .inl (bB q)
  .exact .inr ⟨by lia,h⟩
theorem xO(s:Nat):s∈WB g↔Em g s:=by
 have:s∈WB g↔s<256/\Em g s:=by
  refine Hq wf hl (fun q r=>r.right.all fun(s:Nat)=>q.contains s) (Em g) ?_ ?_ s
  .intro q hq r hr e;refine(ae wf (wf r hr).1).mpr ⟨r,hr,rfl,fun x hx=>?_⟩;exact(hq x (bP.mp (cX.mp e x hx))).2
  .intro q hq s hs ⟨rs,d⟩
   have key:∀{l w rs},D g l w rs->w=[]->∀s∈l,s∈q:=by
    intro l w rs d;induction d with
    |nil=>simp
    |byte e _ ih=>intro h;cases h
    |name a b c d _ yQ xQ=>
     intro e s hs;obtain⟨e1,e2⟩:=zD.mp e;rcases aW.mp hs with rfl|hs
     .rw[<-c];exact hq _ (aG b) (cX.mpr fun x hx=>bP.mpr (yQ e1 x hx))
     .exact xQ e2 s hs
   exact key d rfl s (by simp)
 rw[this];exact⟨fun h=>h.2,fun h=>⟨h.lt,h⟩⟩
theorem Im(s:Nat):s∈filling g (rD g)↔s<256/\Fi g s:=by
 refine Hq wf hl (fun q r=>r.right.all (uI (rD g))&&r.right.any fun(s:Nat)=>decide (256<=s)||q.contains s) (Fi g) ?_ ?_ s
 .intro q hq r hr e;rw[bJ]at e;refine(HW wf (wf r hr).1).mpr ⟨r,hr,rfl,fun x hx=>(iQ wf hl ((wf r hr).2 x hx)).mp (cX.mp e.1 x hx),?_⟩;obtain⟨x,hx,e2⟩:=dI.mp e.2;refine⟨x,hx,?_⟩;rw[eI,bP]at e2;rcases e2 with h|h
  .exact Fi.byte (aR h) ((wf r hr).2 x hx)
  .exact(hq x h).2
 .intro q hq s hs ⟨c,w,rs,d⟩
  have key:∀{l w rs},D g l w rs->w≠[]->∃s∈l,256<=s∨s∈q:=by
   intro l w rs d;induction d with
   |nil=>intro h;exact absurd rfl h
   |byte e _ ih=>intro _;exact⟨_,aF,.inl (by lia)⟩
   |name a b c d _ yQ xQ=>
    rename_i s l k r w1 nJ w2 rs2 _;intro h;cases w1 with
    |nil=>obtain⟨x,hx,q⟩:=xQ (by simpa using h);exact⟨x,aD _ hx,q⟩
    |cons z w1=>refine⟨_,aF,.inr ?_⟩;have hr:=aG b;rw[<-c];refine hq _ hr ?_;rw[bJ];refine⟨cX.mpr fun x hx=>(iQ wf hl ((wf _ hr).2 x hx)).mpr (vH d x hx),?_⟩;obtain⟨x,hx,hq⟩:=yQ (by simp);refine dI.mpr ⟨x,hx,?_⟩;rw[eI,bP];exact hq.imp bB id
  obtain⟨x,hx,q⟩:=key d (by simp);have:x=s:=by simpa using hx
  subst this;exact q.resolve_left (by lia)
end
def Sq(g:Lr)(r:Rule):Prop:=r∈g/\∀x∈r.right,Mk g x
def kW(g:Lr)(a b:Nat):Prop:=∃r,Sq g r/\r.left=a/\b∈r.right/\b<256
def Ar(g:Lr)(F:Ln->Prop)(a b:Nat):Prop:=∃r,Sq g r/\r.left=a/\b<256/\∃l1 l2,r.right=l1++b::l2/\F (l1++l2)
def sZ(g:Lr):Nat->Nat->Prop:=Ar g fun l=>∀x∈l,Em g x
def AY(g:Lr):Nat->Nat->Prop:=Ar g fun l=>∃x∈l,Fi g x
theorem Fx{g a b}:kW g a b↔Ar g (fun _=>True) a b:=by
 constructor
 .rintro⟨r,hg,e,hb,hs⟩;obtain⟨l1,l2,q⟩:=Gj hb;exact⟨r,hg,e,hs,l1,l2,q,trivial⟩
 .rintro⟨r,hg,e,hs,l1,l2,q,_⟩;exact⟨r,hg,e,by rw[q];simp,hs⟩
theorem Ve{l1 l2:Ln}{b:Nat}:(l1++b::l2).eraseIdx l1.length=l1++l2:=by rw[List.eraseIdx_append_of_length_le (aY _)];simp
theorem CO(good:Lr)(f:Ln->Bool)(a b:Nat):
  b∈((good.filter fun(r:Rule)=>r.left==a).flatMap fun(r:Rule)=>(bD r.right.length).filterMap fun(i:Nat)=>let x:=r.right.getD i 999
   if x<256/\f (r.right.eraseIdx i)=true then some x else none)↔∃r∈good,r.left=a/\b<256/\∃l1 l2,r.right=l1++b::l2/\f (l1++l2)=true:=by
 rw[bG]
 constructor
 .rintro⟨r,hr,h⟩;obtain⟨hr,e⟩:=aM.mp hr;obtain⟨i,hi,h⟩:=kZ.mp h;dsimp only at h;split at h
  .rename_i q;have hi:=bS.mp hi;have hb:=bC h;have e3:r.right.getD i 999=r.right[i]:=by simp[List.getD,hi]
   rw[e3]at hb q;subst hb;refine⟨r,hr,by simpa using e,q.1,r.right.take i,r.right.drop (i+1),?_,?_⟩
   .rw[<-cZ hi,jE]
   .rw[<-List.eraseIdx_eq_take_drop_succ];exact q.2
  .cases h
 .rintro⟨r,hr,e,hb,l1,l2,q,hf⟩;refine⟨r,aM.mpr ⟨hr,by simpa using e⟩,kZ.mpr ⟨l1.length,bS.mpr (by rw[q];simp),?_⟩⟩;dsimp only;have e1:r.right.getD l1.length 999=b:=by rw[q];simp
  rw[e1,if_pos ⟨hb,by rw[q,Ve];exact hf⟩]
section
variable {g:Lr} (wf:WF g) (hl:g.length<=8)
include wf hl
theorem QV(r:Rule):r∈(g.filter fun(r:Rule)=>r.right.all (uI (rD g)))↔Sq g r:=by
 rw[aM];constructor
 .rintro⟨a,b⟩;exact⟨a,fun x hx=>(iQ wf hl ((wf r a).2 x hx)).mp (cX.mp b x hx)⟩
 .rintro⟨a,b⟩;exact⟨a,cX.mpr fun x hx=>(iQ wf hl ((wf r a).2 x hx)).mpr (b x hx)⟩
omit wf hl in
theorem MV{A A' B B' C C':Prop}[Decidable A][Decidable A'][Decidable B][Decidable B'][Decidable C][Decidable C'](a:A↔A')(b:B↔B')(c:C↔C'):
  1+(if A then 2 else 0)+(if B then 4 else 0)+(if C then 8 else 0)=1+(if A' then 2 else 0)+(if B' then 4 else 0)+(if C' then 8 else 0):=by
 simp only[a,b,c]
theorem Yt{s:Nat}(hs:s<256)[Decidable (Mk g s)][Decidable (Em g s)]
  [Decidable (∃a,cJ (kW g) s a/\∃b,sZ g a b/\cJ (sZ g) b a)] [Decidable (∃a,cJ (kW g) s a/\∃b,AY g a b/\cJ (kW g) b a)]:
  kindOf g s=if Mk g s then 1+(if Em g s then 2 else 0)+(if ∃a,cJ (kW g) s a/\∃b,sZ g a b/\cJ (sZ g) b a then 4 else 0)+
   (if ∃a,cJ (kW g) s a/\∃b,AY g a b/\cJ (kW g) b a then 8 else 0)else 0:=by
 have K7:=Mj wf hl s
 have Rp:=QV wf hl
 unfold kindOf
 rw[if_neg (by lia)]
 dsimp only
 by_cases hm:Mk g s
 case neg=>rw[if_neg hm,if_pos];rw[FL];simp[K7,hm]
 rw[if_pos hm,if_neg (by rw[FL];simp[K7,hs,hm])]
 generalize hG:(g.filter fun(r:Rule)=>r.right.all (uI (rD g)))=good at Rp
 have lf:∀b,b<256->Mk g b->b∈g.map (fun r=>r.left):=fun b hb h=>by obtain⟨r,hr,e,_⟩:=(Uk wf hb).mp h;exact aE.mpr ⟨r,hr,e⟩
 have clo:∀(f:Nat->Ln) (R:Nat->Nat->Prop),(∀a b,b∈f a↔R a b)->(∀a b,R a b->b<256/\Mk g b)->∀l:Ln,l.Nodup->(∀x∈l,x<256/\Mk g x)->
   ∀x,x∈lP f 5000 l↔∃a∈l,cJ R a x:=by
  intro f R hf hR l hn ZE x
  rw[pW f (g.map fun r=>r.left) 5000 l hn (fun y hy=>lf y (ZE y hy).1 (ZE y hy).2) (fun y _ z hz=>by
   have:=hR _ _ ((hf _ _).mp hz)
   exact lf z this.1 this.2) (by rw[aA];lia)]
  have e:(fun a b=>b∈f a)=R:=by funext a b;exact propext (hf a b)
  rw[e]
 have hb:∀(F:Ln->Prop) (a b:Nat),Ar g F a b->b<256/\Mk g b:=by rintro F a b ⟨r,hg,e,hb,l1,l2,q,_⟩;exact⟨hb,hg.2 b (by rw[q];simp)⟩
 have pw:∀(f:Ln->Bool) (F:Ln->Prop),(∀r,Sq g r->∀l1 b l2,r.right=l1++b::l2->(f (l1++l2)=true↔F (l1++l2)))->∀a b,(b∈((good.filter fun(r:Rule)=>r.left==a).flatMap fun(r:Rule)=>(bD r.right.length).filterMap fun(i:Nat)=>let x:=r.right.getD i 999
   if x<256/\f (r.right.eraseIdx i)=true then some x else none))↔Ar g F a b:=by
  intro f F hF a b
  rw[CO]
  constructor
  .rintro⟨r,hr,e,h,l1,l2,q,z⟩
   exact⟨r,(Rp r).mp hr,e,h,l1,l2,q,(hF r ((Rp r).mp hr) l1 b l2 q).mp z⟩
  .rintro⟨r,hr,e,h,l1,l2,q,z⟩
   exact⟨r,(Rp r).mpr hr,e,h,l1,l2,q,(hF r hr l1 b l2 q).mpr z⟩
 have af:=clo (fun(a:Nat)=>(good.filter fun(r:Rule)=>r.left==a).flatMap fun(r:Rule)=>r.right.filter fun(x:Nat)=>decide (x<256)) (kW g) (fun a b=>by
   rw[bG]
   constructor
   .rintro⟨r,hr,h⟩
    obtain⟨hr,e⟩:=aM.mp hr
    obtain⟨h,hb⟩:=aM.mp h
    exact⟨r,(Rp r).mp hr,by simpa using e,h,aR hb⟩
   .rintro⟨r,hr,e,h,hb⟩
    exact⟨r,aM.mpr ⟨(Rp r).mpr hr,by simpa using e⟩,aM.mpr ⟨h,bB hb⟩⟩)
  (fun a b h=>hb _ a b (Fx.mp h)) [s] (by simp) (fun x hx=>(aO.mp hx) ▸ ⟨hs,hm⟩)
 have Rr:=pw (fun(l:Ln)=>l.all fun(x:Nat)=>(WB g).contains x) (fun l=>∀x∈l,Em g x) (fun r _ l1 b l2 _=>by
  rw[cX]
  exact⟨fun h x hx=>(xO wf hl x).mp (bP.mp (h x hx)),fun h x hx=>bP.mpr ((xO wf hl x).mpr (h x hx))⟩)
 have ZL:=pw (fun _=>true) (fun _=>True) (fun r _ l1 b l2 _=>by simp)
 have HQ:=pw (fun(l:Ln)=>l.any fun(x:Nat)=>decide (256<=x)||(filling g (rD g)).contains x) (fun l=>∃x∈l,Fi g x) (fun r hr l1 b l2 q=>by
  have h5:∀x∈l1++l2,x<512:=fun x hx=>(wf r hr.1).2 x (by rw[q];simp at hx ⊢;rcases hx with h|h<;>simp[h])
  rw[dI]
  constructor
  .rintro⟨x,hx,h⟩
   refine⟨x,hx,?_⟩
   rw[eI,bP,Im wf hl]at h
   rcases h with h|h
   .exact Fi.byte (aR h) (h5 x hx)
   .exact h.2
  .rintro⟨x,hx,h⟩
   refine⟨x,hx,?_⟩
   rw[eI,bP,Im wf hl]
   by_cases hh:256<=x
   .exact .inl (bB hh)
   .exact .inr ⟨by lia,h⟩)
 have au:=fun f F (h:∀a b,b∈f a↔Ar g F a b)=>clo f (Ar g F) h (hb F)
 have any_eq:∀a b,Ar g (fun _=>True) a b↔kW g a b:=fun a b=>Fx.symm
 have e1:((WB g).contains s=true)↔Em g s:=by rw[bP,xO wf hl]
 refine MV e1 ?_ ?_
 ··rw[dI];constructor
   .rintro⟨a,ha,h⟩;obtain⟨z,hz,r⟩:=(af a).mp ha;have:z=s:=(by simpa using hz);subst this;rw[bP,au _ _ Rr _ (lF _) (fun x hx=>hb _ a x ((Rr a x).mp (bR.mp hx)))]at h;obtain⟨b,Iv,k⟩:=h;exact⟨a,r,b,(Rr a b).mp (bR.mp Iv),k⟩
   .rintro⟨a,r,b,h,k⟩;refine⟨a,(af a).mpr ⟨s,by simp,r⟩,?_⟩;rw[bP,au _ _ Rr _ (lF _) (fun x hx=>hb _ a x ((Rr a x).mp (bR.mp hx)))];exact⟨b,bR.mpr ((Rr a b).mpr h),k⟩
 .rw[dI];constructor
  .rintro⟨a,ha,h⟩;obtain⟨z,hz,r⟩:=(af a).mp ha;have:z=s:=by simpa using hz
   subst this;rw[bP,au _ _ ZL _ (lF _) (fun x hx=>hb _ a x ((HQ a x).mp (bR.mp hx)))]at h;obtain⟨b,Iv,k⟩:=h;exact⟨a,r,b,(HQ a b).mp (bR.mp Iv),k.mono fun x y=>(any_eq x y).mp⟩
  .rintro⟨a,r,b,h,k⟩;refine⟨a,(af a).mpr ⟨s,by simp,r⟩,?_⟩;rw[bP,au _ _ ZL _ (lF _) (fun x hx=>hb _ a x ((HQ a x).mp (bR.mp hx)))];exact⟨b,bR.mpr ((HQ a b).mpr h),k.mono fun x y=>(any_eq x y).mpr⟩
end
end Tw
namespace Tw
open Rc14
def Yc(mk:Ln)(m:List Item)(t:T)(p:List (Nat×Nat))(s i:Nat):Bool:=
 if i=t.length then uI mk s else if 256<=s then decide (i+1=t.length)&&(Gq m t s i).contains (i+1)else p.contains (s,i)
def oE(g:Lr)(mk:Ln)(m:List Item)(t:T)(p:List (Nat×Nat)):List (Nat×Nat):=
 g.flatMap fun(r:Rule)=>if r.right.all (uI mk)=true then (bD (t.length+1)).filterMap fun(i:Nat)=>if pR mk m t (Yc mk m t p) r.right i=true then some (r.left,i)else none else []
theorem Iy(g:Lr)(mk:Ln)(m:List Item)(t:T):∀(n:Nat) (p:List (Nat×Nat)),beyond g mk m t n p=grow (oE g mk m t) n p
 |0,p=>rfl
 |n+1,p=>by
  rw[beyond.eq_2];show(if ((p++oE g mk m t p).eraseDups).length=p.length then p else beyond g mk m t n ((p++oE g mk m t p).eraseDups))=_;unfold grow;dsimp only;split
  .rfl
  .exact Iy g mk m t n _
theorem qP{g mk m t p}{x:Nat×Nat}:x∈oE g mk m t p↔∃r∈g,x.1=r.left/\r.right.all (uI mk)=true/\x.2<=t.length/\pR mk m t (Yc mk m t p) r.right x.2=true:=by
 unfold oE;rw[bG];constructor
 .rintro⟨r,hr,h⟩;split at h
  .rename_i ha;obtain⟨i,hi,h⟩:=kZ.mp h;split at h
   .rename_i hm;have:=bC h;subst this;have:=bS.mp hi;exact⟨r,hr,rfl,ha,by show i<=_;lia,hm⟩
   .cases h
  .simp at h
 .rintro⟨r,hr,e,ha,hi,hm⟩;refine⟨r,hr,?_⟩;rw[if_pos ha];refine kZ.mpr ⟨x.2,bS.mpr (by lia),?_⟩;rw[if_pos hm,<-e]
def vi(g:Lr)(t:T)(l:Ln)(i:Nat):Prop:=∃v rs,D g l (t.drop i++v) rs
theorem xT{t:T}{i j:Nat}(h:i<=j)(k:j<=t.length):t.drop i=dS t i j++t.drop j:=by
 have e:t.drop j=dS t j t.length:=by unfold dS;rw[bX]
 have e2:t.drop i=dS t i t.length:=by unfold dS;rw[bX]
 rw[e,e2,lZ h k]
section
variable {g:Lr} {t:T} (h:jS g t)
include h
theorem Rh{p:List (Nat×Nat)}(hp:∀x∈p,x.1<256/\x.2<=t.length/\vi g t [x.1] x.2):∀{l i},(∀s∈l,s<512)->(∀s∈l,Mk g s)->i<=t.length->
  pR (rD g) (cW g t) t (Yc (rD g) (cW g t) t p) l i=true->vi g t l i
 |[],i,_,_,hi,q=>by
  rw[beyond.may.eq_1]at q;have:i=t.length:=by simpa using q
  subst this;exact⟨[],[],by simpa using D.nil⟩
 |s::l,i,h5,hm,hi,q=>by
  rw[beyond.may.eq_2,eI,bJ]at q;rcases q with ⟨q,_⟩|q
  .obtain⟨w2,rs2,d2⟩:=Mh (l:=l) fun x hx=>hm x (aD _ hx)
   have one:vi g t [s] i:=by
    unfold Yc at q;split at q
    .rename_i e;subst e;obtain⟨w,rs,d⟩:=hm s aF;exact⟨w,rs,by simpa using d⟩
    .split at q
     .rename_i hs;rw[bJ]at q;have e:=aR q.1;obtain⟨rs,d⟩:=(lG h).mp (bP.mp q.2);refine⟨[],rs,?_⟩;have:=d.toD;rw[xT (j:=i+1) (by lia) (by lia),gP (i:=i+1) (by lia)];simpa using this
     .exact(hp _ (bP.mp q)).2.2
   obtain⟨v,rs,d⟩:=one;exact⟨v++w2,rs++rs2,by have:=d.cons d2;rwa[eV]at this⟩
  .obtain⟨j,hj,q⟩:=dI.mp q;obtain⟨rs,d⟩:=(lG h).mp hj;obtain⟨v,rs2,d2⟩:=Rh hp (l:=l) (i:=j) (fun x hx=>h5 x (aD _ hx)) (fun x hx=>hm x (aD _ hx)) d.le.2 q;refine⟨v,rs++rs2,?_⟩;rw[xT d.le.1 d.le.2,eV];exact d.toD.cons d2
theorem Uo{p:List (Nat×Nat)}(hp:oE g (rD g) (cW g t) t p⊆p):∀{l w rs},D g l w rs->(∀s∈l,s<512)->∀i v,i<=t.length->w=t.drop i++v->
  pR (rD g) (cW g t) t (Yc (rD g) (cW g t) t p) l i=true:=by
 intro l w rs d
 induction d with
 |nil=>intro _ i v hi e;have:=(zD.mp e.symm).1;rw[beyond.may.eq_1];have:=FK.mp this;simp;lia
 |byte e d ih=>
  rename_i s l c w rs;intro h5 i v hi q;rw[beyond.may.eq_2,eI,bJ];have O1:∀x∈l,x<512:=fun x hx=>h5 x (aD _ hx);by_cases hl:i=t.length
  .left;refine⟨?_,cX.mpr fun x hx=>(iQ h.wf h.gl (O1 x hx)).mpr (vH d x hx)⟩;unfold Yc;rw[if_pos hl,iQ h.wf h.gl (h5 _ aF)];exact⟨_,_,D.Nv e⟩
  .right;have oT:i<t.length:=by lia
   have hg:t[i]? =some t[i]:=bM oT;rw[cZ oT,kU]at q;obtain⟨q1,q2⟩:=eK q;refine dI.mpr ⟨i+1,rK.mpr (.inl ⟨by lia,rfl,c,by rw[q1];exact hg,e⟩),ih O1 (i+1) v (by lia) q2⟩
 |name a b c d1 d2 yQ xQ=>
  rename_i s l k r w1 nJ w2 rs2;intro h5 i v hi q;have O1:∀x∈l,x<512:=fun x hx=>h5 x (aD _ hx);have hr:=aG b;have K7:∀x∈r.right,Mk g x:=vH d1;have sW:r.right.all (uI (rD g))=true:=cX.mpr fun x hx=>(iQ h.wf h.gl ((h.wf r hr).2 x hx)).mpr (K7 x hx);have F5:l.all (uI (rD g))=true:=cX.mpr fun x hx=>(iQ h.wf h.gl (O1 x hx)).mpr (vH d2 x hx);rw[beyond.may.eq_2,eI,bJ];by_cases hl:i=t.length
  .left;refine⟨?_,F5⟩;unfold Yc;rw[if_pos hl,iQ h.wf h.gl (h5 _ aF)];exact(Uk h.wf a).mpr ⟨r,hr,c,K7⟩
  .have hlen:(t.drop i).length=t.length-i:=jK;by_cases hw:t.length-i<=w1.length
   .left;refine⟨?_,F5⟩;unfold Yc;rw[if_neg hl,if_neg (by lia),bP];have e:w1=t.drop i++w1.drop (t.length-i):=(by have q':=gL (List.take (t.length-i)) q;rw[Kp hw,Kp (by lia),eU (l:=t.drop i) (by lia)]at q';rw[<-q',jE]);refine hp (qP.mpr ⟨r,hr,c.symm,sW,hi,yQ (h.wf r hr).2 i _ hi e⟩)
   .right;have hj:i+w1.length<=t.length:=(by lia);rw[xT (j:=i+w1.length) (by lia) hj,eV]at q;obtain⟨q1,q2⟩:=Og q (by rw[fG hj];lia);refine dI.mpr ⟨i+w1.length,(lG h).mpr ⟨k::nJ,?_⟩,xQ O1 _ v hj q2⟩;rw[<-c];exact DP.nN b (by lia) (d1.JF (by lia) hj q1)
theorem CN{s i:Nat}:(s,i)∈beyond g (rD g) (cW g t) t 5000 []↔s<256/\i<=t.length/\vi g t [s] i:=by
 rw[Iy]
 have hlen:∀n:Nat,((g.flatMap fun r=>(bD n).map fun i=>(r.left,i)):List (Nat×Nat)).length=g.length*n:=fun n=>by
  rw[fH];have:(fun(r:Rule)=>((bD n).map fun i=>(r.left,i)).length)=fun _=>n:=by funext r;simp
  rw[this,oJ]
 obtain⟨_,a,b,c⟩:=wJ (oE g (rD g) (cW g t) t) (g.flatMap fun r=>(bD (t.length+1)).map fun i=>(r.left,i)) (fun q _ x hx=>by
   obtain⟨r,hr,e,_,hi,_⟩:=qP.mp hx
   exact bG.mpr ⟨r,hr,aE.mpr ⟨x.2,bS.mpr (by lia),by rw[<-e]⟩⟩) 5000 [] (by simp) (by simp) (by
   rw[hlen]
   have:=vE h.gl (show t.length+1<=8 by have:=h.tl;lia)
   simp;lia)
 have hz:=xR (oE g (rD g) (cW g t) t) (fun x=>x.1<256/\x.2<=t.length/\vi g t [x.1] x.2) (fun q hq x hx=>by
   obtain⟨r,hr,e,ha,hi,hm⟩:=qP.mp hx
   have hs:=(h.wf r hr).1
   obtain⟨v,rs,d⟩:=Rh h hq (h.wf r hr).2 (fun y hy=>(iQ h.wf h.gl ((h.wf r hr).2 y hy)).mp (cX.mp ha y hy)) hi hm
   obtain⟨k,hk⟩:=sS hr
   rw[e]
   exact⟨hs,hi,v,_,D.nN hk hs d⟩) 5000 [] (by simp)
 constructor
 .exact fun q=>hz _ q
 .rintro⟨hs,hi,v,rs,d⟩;obtain⟨k,r,nJ,_,hk,e,d'⟩:=d.jN hs;have hr:=aG hk;refine c (qP.mpr ⟨r,hr,e.symm,cX.mpr fun x hx=>(iQ h.wf h.gl ((h.wf r hr).2 x hx)).mpr (vH d' x hx),hi,?_⟩);exact Uo h c d' (h.wf r hr).2 i v hi rfl
end
def IQ(g:Lr)(start:Nat)(t:T)(b:UInt8):Prop:=∃v rs,D g [start] (t++b::v) rs
theorem Yp{g t start b}(h:jS g t)(ht:t.length<=6)(hs:start<256):mayCome g start t b=true↔IQ g start t b:=by
 have h':jS g (t++[b]):=⟨h.wf,h.gl,by simp;lia⟩;unfold mayCome;dsimp only;rw[bP,CN h'];constructor
 .rintro⟨_,_,v,rs,d⟩;exact⟨v,rs,by simpa using d⟩
 .rintro⟨v,rs,d⟩;exact⟨hs,cI _,v,rs,by simpa using d⟩
theorem D.bytes{g l w rs}(h:D g l w rs):∀c∈w,c.toNat+256∈l∨∃r∈g,c.toNat+256∈r.right:=by
 induction h with
 |nil=>simp
 |byte e _ ih=>
  intro c hc;rcases aW.mp hc with rfl|hc
  .left;rw[e];exact aF
  .exact(ih c hc).imp (aD _) id
 |name a b _ _ _ yQ xQ=>
  intro c hc;rcases aN.mp hc with hc|hc
  .exact .inr ((yQ c hc).elim (fun q=>⟨_,aG b,q⟩) id)
  .exact(xQ c hc).imp (aD _) id
def wD(g:Lr)(start:Nat)(t:T):List UInt8:=
 (g.flatMap fun(r:Rule)=>r.right.filterMap fun(x:Nat)=>if 256<=x then some (eA (x-256))else none).eraseDups.filter fun(b:UInt8)=>mayCome g start t b
theorem Pf{g t start}(h:jS g t)(ht:t.length<=6)(hs:start<256):(wD g start t).Nodup/\∀b,b∈wD g start t↔IQ g start t b:=by
 unfold wD;refine⟨jH (lF _),fun b=>?_⟩;rw[aM,Yp h ht hs];constructor
 .exact fun q=>q.2
 .intro q;refine⟨?_,q⟩;obtain⟨v,rs,d⟩:=q;rw[bR,bG];rcases d.bytes b (by simp)with e|⟨r,hr,e⟩
  .simp at e;lia
  .exact⟨r,hr,kZ.mpr ⟨_,e,by rw[if_pos (by lia)];simp⟩⟩
end Tw
namespace Tw
open Rc14
def rO(a:T):Ln:=a.map fun c=>c.toNat
theorem AB:∀{a b:T},rO a=rO b->a=b
 |[],[],_=>rfl
 |[],_::_,h=>by simp[rO]at h
 |_::_,[],h=>by simp[rO]at h
 |x::a,y::b,h=>by obtain⟨h1,h2⟩:=eK (show x.toNat::rO a=y.toNat::rO b from h);rw[NR h1,AB h2]
theorem lL{a b:T}:before a b=true↔a.length<b.length∨(a.length=b.length/\less (rO a) (rO b)=true):=by unfold before rO;simp
def LE(a b:T):Prop:=a=b∨before a b=true
theorem LE.refl(a:T):LE a a:=.inl rfl
theorem Ga{a b c:T}(h:before a b=true)(k:before b c=true):before a c=true:=by
 rw[lL]at*;rcases h with h|⟨h,h'⟩<;>rcases k with k|⟨k,k'⟩
 .left;lia
 .left;lia
 .left;lia
 .right;exact⟨by lia,rL h' k'⟩
theorem Pp(a:T):before a a=false:=by
 cases e:before a a with
 |false=>rfl
 |true=>
  rw[lL,oA]at e;rcases e with e|⟨_,e⟩
  .lia
  .cases e
theorem Vo(a b:T):a=b∨before a b=true∨before b a=true:=by
 rw[lL,lL];rcases UZ a.length b.length with h|h|h
 .exact .inr (.inl (.inl h))
 .rcases tV (rO a) (rO b)with e|e|e
  .exact .inl (AB e)
  .exact .inr (.inl (.inr ⟨h,e⟩))
  .exact .inr (.inr (.inr ⟨h.symm,e⟩))
 .exact .inr (.inr (.inl h))
theorem LE.trans{a b c:T}(h:LE a b)(k:LE b c):LE a c:=by
 rcases h with rfl|h
 .exact k
 .rcases k with rfl|k
  .exact .inr h
  .exact .inr (Ga h k)
theorem LE.antisymm{a b:T}(h:LE a b)(k:LE b a):a=b:=by
 rcases h with rfl|h
 .rfl
 .rcases k with rfl|k
  .rfl
  .have:=Ga h k;rw[Pp]at this;cases this
theorem LE.Hd{a b:T}(h:¬before a b=true):LE b a:=by
 rcases Vo a b with e|e|e
 .exact .inl e.symm
 .exact absurd e h
 .exact .inr e
theorem LE.len{a b:T}(h:LE a b):a.length<=b.length:=by
 rcases h with rfl|h
 .exact aY _
 .rcases lL.mp h with h|h<;>lia
theorem Bv{a b c:Ln}:less (c++a) (c++b)=less a b:=by
 induction c with
 |nil=>rfl
 |cons x c ih=>simp[less,ih]
theorem RF{a b c d:Ln}(hl:a.length=b.length)(h:less a b=true):less (a++c) (b++d)=true:=by
 induction a generalizing b with
 |nil=>
  cases b with
  |nil=>simp[less]at h
  |cons=>simp at hl
 |cons x a ih=>
  cases b with
  |nil=>simp[less]at h
  |cons y b=>
   simp[less]at h ⊢;rcases h with h|⟨rfl,h⟩
   .exact .inl h
   .exact .inr ⟨rfl,ih (by simpa using hl) h⟩
theorem Fz(a b:T):rO (a++b)=rO a++rO b:=by simp[rO]
theorem AA(a:T):(rO a).length=a.length:=by simp[rO]
theorem LE.app{a a' b b':T}(h:LE a a')(k:LE b b'):LE (a++b) (a'++b'):=by
 have hl:=h.len;have kl:=k.len;rcases h with rfl|h
 .rcases k with rfl|k
  .exact .refl _
  .right;rw[lL]at*;rcases k with k|⟨k,k'⟩
   .left;simp;lia
   .right;refine⟨by simp;lia,?_⟩;rw[Fz,Fz,Bv];exact k'
 .right;rw[lL]at*;rcases h with h|⟨h,h'⟩
  .left;simp;lia
  .by_cases e:b.length=b'.length
   .right;refine⟨by simp;lia,?_⟩;rw[Fz,Fz];exact RF (by rw[AA,AA];exact h) h'
   .left;simp;lia
inductive DA(g:Lr):Ln->Ln->T->Prop
 |nil {A}:DA g A [] []
 |byte {A s l c w}:s=c.toNat+256->DA g A l w->DA g A (s::l) (c::w)
 |name {A s l r w1 w2}:s<256->s∈A->r∈g->r.left=s->DA g (A.filter (· ≠s)) r.right w1->DA g A l w2->DA g A (s::l) (w1++w2)
theorem DA.append{g A l1 w1 l2 w2}(h:DA g A l1 w1)(k:DA g A l2 w2):DA g A (l1++l2) (w1++w2):=by
 induction h with
 |nil=>exact k
 |byte e _ ih=>exact .byte e (ih k)
 |name a b c d e _ _ ih=>have:=DA.name a b c d e (ih k);simpa[eV]using this
theorem DA.mono{g A l w}(h:DA g A l w):∀{B:Ln},A⊆B->DA g B l w:=by
 induction h with
 |nil=>intro B _;exact .nil
 |byte e _ ih=>intro B s;exact .byte e (ih s)
 |name a b c d _ _ yQ xQ=>intro B s;refine .name a (s b) c d (yQ fun x hx=>?_) (xQ s);obtain⟨h1,h2⟩:=aM.mp hx;exact aM.mpr ⟨s h1,h2⟩
theorem DA.avoid{g A l w}(h:DA g A l w)(s:Nat):DA g (A.filter (· ≠s)) l w∨∃x y z,w=x++y++z/\DA g A [s] y:=by
 induction h with
 |nil=>exact .inl .nil
 |byte e _ ih=>
  rcases ih with ih|⟨x,y,z,q,d⟩
  .exact .inl (.byte e ih)
  .exact .inr ⟨_::x,y,z,by rw[q];rfl,d⟩
 |name a b c d e f yQ xQ=>
  rename_i A s' l r w1 w2;by_cases hs:s'=s
  .right;subst hs;refine⟨[],w1,w2,by simp,?_⟩;have:=DA.name a b c d e DA.nil;simpa using this
  .rcases yQ with yQ|⟨x,y,z,q,d1⟩
   .rcases xQ with xQ|⟨x,y,z,q,d2⟩
    .left;refine .name a (aM.mpr ⟨b,by simpa using hs⟩) c d (yQ.mono fun x hx=>?_) xQ;obtain⟨h1,h2⟩:=aM.mp hx;obtain⟨h3,h4⟩:=aM.mp h1;exact aM.mpr ⟨aM.mpr ⟨h3,h2⟩,h4⟩
    .right;exact⟨w1++x,y,z,by rw[q];simp,d2⟩
   .right;exact⟨x,y,z++w2,by rw[q];simp,d1.mono fun x hx=>(aM.mp hx).1⟩
theorem D.W9{g l w rs}(h:D g l w rs):∃w',LE w' w/\DA g (g.map fun r=>r.left) l w':=by
 induction h with
 |nil=>exact⟨_,.refl _,.nil⟩
 |byte e _ ih=>rename_i s l c w rs _;obtain⟨w',h,d⟩:=ih;exact⟨c::w',LE.app (a:=[c]) (.refl _) h,.byte e d⟩
 |name a b c _ _ yQ xQ=>
  rename_i s l k r w1 nJ w2 rs2 _ _;obtain⟨w1',h1,d1⟩:=yQ;obtain⟨w2',h2,d2⟩:=xQ;have hr:=aG b;have hA:s∈g.map fun r=>r.left:=aE.mpr ⟨r,hr,c⟩;rcases d1.avoid s with q|⟨x,y,z,e,q⟩
  .exact⟨w1'++w2',h1.app h2,.name a hA hr c q d2⟩
  .refine⟨y++w2',LE.app (LE.trans ?_ h1) h2,DA.append (l1:=[s]) q d2⟩;by_cases hl:y.length<w1'.length
   .exact .inr (lL.mpr (.inl hl))
   .left;have:=gL jU e;simp at this;have hx:x=[]:=mV (by lia);have hz:z=[]:=mV (by lia);rw[e,hx,hz];simp
def look(l:List (Nat×T))(s:Nat):Option T:=(l.find? fun(x:Nat×T)=>x.1==s).map fun x=>x.2
def vZ(F:Nat->Option T):Ln->Option T
 |[]=>some []
 |s::l=>(if 256<=s then some [eA (s-256)]else F s).bind fun a=>(vZ F l).map fun b=>a++b
theorem Gz(l:List (Nat×T)):∀(r:Ln) (a:T),r.foldl (fun(w:Option T) (s:Nat)=>w.bind fun(a:T)=>if 256<=s then some (a++[eA (s-256)])else (l.find? fun(x:Nat×T)=>x.1==s).map fun(x:Nat×T)=>a++x.2) (some a)=(vZ (look l) r).map fun b=>a++b
 |[],a=>by simp[vZ]
 |s::r,a=>by
  rw[zM];show r.foldl _ (if 256<=s then some (a++[eA (s-256)])else (l.find? fun(x:Nat×T)=>x.1==s).map fun(x:Nat×T)=>a++x.2)=_;by_cases hs:256<=s
  .rw[if_pos hs,Gz l r,vZ,if_pos hs];cases vZ (look l) r<;>simp
  .rw[if_neg hs,vZ,if_neg hs];unfold look;cases e:l.find? fun(x:Nat×T)=>x.1==s with
   |none=>
    simp
    have:∀r:Ln,r.foldl (fun(w:Option T) (s:Nat)=>w.bind fun(a:T)=>if 256<=s then some (a++[eA (s-256)])else (l.find? fun(x:Nat×T)=>x.1==s).map fun(x:Nat×T)=>a++x.2) none=none:=by
     intro r;induction r with
     |nil=>rfl
     |cons x r ih=>rw[zM];exact ih
    exact this r
   |some y=>simp only[sM,Option.bind_some];rw[Gz l r];unfold look;cases vZ (fun s=>((l.find? fun(x:Nat×T)=>x.1==s).map fun x=>x.2)) r<;>simp
def Sn:Option T->Option T->Option T
 |none,y=>y
 |some w,none=>some w
 |some w,some y=>if before w y=true then some w else some y
def mM(F:Nat->Option T)(r:Rule):Nat->Option T:=fun s=>if s=r.left then Sn (vZ F r.right) (F s)else F s
def Lc(l:List (Nat×T))(r:Rule):List (Nat×T):=
 let w:Option T:=r.right.foldl (fun(w:Option T) (s:Nat)=>w.bind fun(a:T)=>if 256<=s then some (a++[eA (s-256)])else (l.find? fun(x:Nat×T)=>x.1==s).map fun(x:Nat×T)=>a++x.2) (some [])
 match w,l.find? fun(x:Nat×T)=>x.1==r.left with
 |none,_=>l
 |some w,none=>l++[(r.left,w)]
 |some w,some y=>if before w y.2=true then l.map fun(x:Nat×T)=>if x.1=r.left then (r.left,w)else x else l
theorem Yr(l:List (Nat×T))(k s:Nat)(w:T):look (l++[(k,w)]) s=match look l s with|some y=>some y|none=>if s=k then some w else none:=by
 unfold look;rw[List.find?_append];cases e:l.find? fun(x:Nat×T)=>x.1==s with
 |some y=>simp
 |none=>
  simp[List.find?];by_cases h:k=s
  .simp[h]
  .have:s≠k:=fun q=>h q.symm;have h2:(k==s)=false:=by simpa using h
   rw[h2,if_neg this];rfl
theorem Mo(k s:Nat)(w:T):∀l:List (Nat×T),look (l.map fun(x:Nat×T)=>if x.1=k then (k,w)else x) s=if s=k then (look l s).map (fun _=>w)else look l s
 |[]=>by simp[look]
 |x::l=>by
  have ih:=Mo k s w l;unfold look at*;rw[bL];by_cases hk:x.1=k
  .rw[if_pos hk];by_cases hs:s=k
   .subst hs;rw[qX (by simp),qX (by simp[hk]),if_pos rfl];simp
   .rw[qY (by simp;exact fun q=>hs q.symm),ih,if_neg hs,if_neg hs,qY (by rw[hk];simp;exact fun q=>hs q.symm)]
  .rw[if_neg hk];by_cases hs:x.1=s
   .rw[qX (by simp[hs]),qX (by simp[hs]),if_neg (by lia)]
   .rw[qY (by simpa using hs),qY (by simpa using hs),ih]
theorem KI(l:List (Nat×T))(r:Rule):look (Lc l r)=mM (look l) r:=by
 funext s;unfold Lc mM;rw[Gz];have e0:(vZ (look l) r.right).map (fun b=>([]:T)++b)=vZ (look l) r.right:=by cases vZ (look l) r.right<;>simp
 rw[e0];have e1:look l r.left=(l.find? fun(x:Nat×T)=>x.1==r.left).map fun x=>x.2:=rfl;cases ew:vZ (look l) r.right with
 |none=>
  dsimp only;by_cases hs:s=r.left
  .rw[if_pos hs];rfl
  .rw[if_neg hs]
 |some w=>
  cases ey:l.find? fun(x:Nat×T)=>x.1==r.left with
  |none=>
   dsimp only;rw[ey]at e1;rw[Yr];by_cases hs:s=r.left
   .subst hs;rw[if_pos rfl,e1];simp[Sn]
   .rw[if_neg hs,if_neg hs];cases look l s<;>rfl
  |some y=>
   dsimp only;rw[ey]at e1;by_cases hs:s=r.left
   .subst hs;rw[if_pos rfl,e1];show look (if before w y.2=true then _ else l) r.left=(if before w y.2=true then some w else some y.2);split
    .rw[Mo,if_pos rfl,e1];rfl
    .exact e1
   .rw[if_neg hs];split
    .rw[Mo,if_neg hs]
    .rfl
theorem Xj(g:Lr):shortest g=(bD 200).foldl (fun l _=>g.foldl Lc l) []:=rfl
theorem CV(g:Lr)(l:List (Nat×T)):look (g.foldl Lc l)=g.foldl mM (look l):=by
 induction g generalizing l with
 |nil=>rfl
 |cons r g ih=>rw[zM,zM,ih,KI]
def Ak(F:Nat->Option T)(s:Nat)(w:T):Prop:=∃y,F s=some y/\LE y w
def Al(g:Lr)(F:Nat->Option T):Prop:=∀s y,F s=some y->s<256/\∃rs,D g [s] y rs
theorem Lh{g F}(h:Al g F):∀{l:Ln} {w},(∀s∈l,s<512)->vZ F l=some w->∃rs,D g l w rs
 |[],w,_,e=>by have:=bC e;subst this;exact⟨_,.nil⟩
 |s::l,w,h5,e=>by
  rw[vZ]at e;obtain⟨a,ha,e⟩:=Option.bind_eq_some_iff.mp e;obtain⟨b,hb,e⟩:=dY.mp e;subst e;obtain⟨rs2,d2⟩:=Lh h (fun x hx=>h5 x (aD _ hx)) hb;split at ha
  .rename_i hs;have:=bC ha;subst this;exact⟨_,(D.Nv (Nu hs (h5 s aF))).cons d2⟩
  .obtain⟨_,rs,d⟩:=h s a ha;exact⟨_,d.cons d2⟩
theorem Xe{g F r}(wf:WF g)(hr:r∈g)(h:Al g F):Al g (mM F r):=by
 intro s y e;unfold mM at e;split at e
 .rename_i hs;cases ew:vZ F r.right with
  |none=>rw[ew]at e;exact h s y e
  |some w=>
   have sound:s<256/\∃rs,D g [s] w rs:=by obtain⟨rs,d⟩:=Lh h (wf r hr).2 ew;obtain⟨k,hk⟩:=sS hr;rw[hs];exact⟨(wf r hr).1,_,D.nN hk (wf r hr).1 d⟩
   rw[ew]at e;cases ey:F s with
   |none=>rw[ey]at e;have:=bC e;subst this;exact sound
   |some z=>
    rw[ey]at e;have e:(if before w z=true then some w else some z)=some y:=e;by_cases hb:before w z=true
    .rw[if_pos hb]at e;have:=bC e;subst this;exact sound
    .rw[if_neg hb]at e;have:=bC e;subst this;exact h s _ ey
 .exact h s y e
theorem Ak.step{F s w}(h:Ak F s w)(r:Rule):Ak (mM F r) s w:=by
 obtain⟨y,e,k⟩:=h;unfold Ak mM;split
 .rw[e];cases vZ F r.right with
  |none=>exact⟨y,rfl,k⟩
  |some w'=>
   unfold Sn;dsimp only;split
   .rename_i hb;exact⟨_,rfl,LE.trans (.inr hb) k⟩
   .exact⟨_,rfl,k⟩
 .exact⟨y,e,k⟩
theorem Ak.round{F s w}(h:Ak F s w)(rs:Lr):Ak (rs.foldl mM F) s w:=by
 induction rs generalizing F with
 |nil=>exact h
 |cons r rs ih=>exact ih (h.step r)
theorem JQ{g F A}:∀{l:Ln} {w},DA g A l w->(∀s w',s<256->DA g A [s] w'->Ak F s w')->∃y,vZ F l=some y/\LE y w:=by
 intro l w h;induction h with
 |nil=>intro _;exact⟨[],rfl,.refl _⟩
 |byte e d ih=>
  rename_i A s l c w;intro hF;obtain⟨y,q,k⟩:=ih hF;refine⟨c::y,?_,LE.app (a:=[c]) (.refl _) k⟩;rw[vZ,if_pos (by lia),q];have:eA (s-256)=c:=by rw[e];simp
  rw[this];rfl
 |name a b c d e f yQ xQ=>rename_i A s l r w1 w2;intro hF;obtain⟨y,q,k⟩:=xQ hF;obtain⟨z,q',k'⟩:=hF s w1 a (by have:=DA.name a b c d e DA.nil;simpa using this);refine⟨z++y,?_,k'.app k⟩;rw[vZ,if_neg (by lia),q',q];rfl
theorem BX{F:Nat->Option T}{r:Rule}{w}(h:∃y,vZ F r.right=some y/\LE y w):Ak (mM F r) r.left w:=by
 obtain⟨y,e,k⟩:=h;unfold Ak mM;rw[if_pos rfl,e];cases F r.left with
 |none=>exact⟨y,rfl,k⟩
 |some z=>
  unfold Sn;dsimp only;split
  .exact⟨y,rfl,k⟩
  .rename_i hb;exact⟨z,rfl,(LE.Hd hb).trans k⟩
theorem Gm{A:Ln}{s:Nat}(h:s∈A):(A.filter (· ≠s)).length<A.length:=by
 induction A with
 |nil=>simp at h
 |cons a A ih=>
  by_cases e:a=s
  .rw[yH (by simp[e])];have:=eF (fun x=>decide (x≠s)) A;simp at this ⊢;lia
  .rw[yG (by simp[e])];have:=ih ((aW.mp h).resolve_left fun q=>e q.symm);simp at this ⊢;lia
theorem CB{g:Lr}{F:Nat->Option T}{h:Nat}(hF:∀(A:Ln) s w,A.length<=h->s<256->DA g A [s] w->Ak F s w):
  ∀(A:Ln) s w,A.length<=h+1->s<256->DA g A [s] w->Ak (g.foldl mM F) s w:=by
 intro A s w hA hs d
 cases d with
 |byte e _=>lia
 |name a b c d e f=>
  rename_i r w1 w2;cases f;rw[dN];obtain⟨l1,l2,q⟩:=Gj c;have key:∀G:Nat->Option T,(∀s w,Ak F s w->Ak G s w)->Ak (mM G r) r.left w1:=fun G hG=>by refine BX (JQ e fun s' w' KR d'=>hG s' w' (hF _ s' w' ?_ KR d'));have:=Gm b;lia
  have:g.foldl mM F=l2.foldl mM (mM (l1.foldl mM F) r):=by rw[q,vT];rfl
  rw[this,<-d];exact(key _ fun s w u=>u.round l1).round l2
theorem Ih(g:Lr):∀(n:Nat) (A:Ln) s w,A.length<=n->s<256->DA g A [s] w->Ak (Nat.repeat (fun F=>g.foldl mM F) n fun _=>none) s w
 |0,A,s,w,hA,hs,d=>by
  have:A=[]:=mV (by lia);subst this;cases d with
  |byte e _=>lia
  |name _ b _ _ _ _=>simp at b
 |n+1,A,s,w,hA,hs,d=>CB (Ih g n) A s w hA hs d
theorem Eg{g:Lr}(wf:WF g):∀(n:Nat),Al g (Nat.repeat (fun F=>g.foldl mM F) n fun _=>none)
 |0=>by intro s y e;cases e
 |n+1=>by
  have ih:=Eg wf n;show Al g (g.foldl mM (Nat.repeat (fun F=>g.foldl mM F) n fun _=>none));generalize (Nat.repeat (fun F=>g.foldl mM F) n fun _=>none)=F at ih
  have key:∀(rs:Lr),rs⊆g->∀F,Al g F->Al g (rs.foldl mM F):=by
   intro rs;induction rs with
   |nil=>intro _ F h;exact h
   |cons r rs ih=>intro hs F h;exact ih (fun x hx=>hs (aD _ hx)) _ (Xe wf (hs aF) h)
  exact key g (fun _ h=>h) F ih
theorem Bu(g:Lr):look (shortest g)=Nat.repeat (fun F=>g.foldl mM F) 200 fun _=>none:=by
 rw[Xj,Dd]
 have:∀n,look (Nat.repeat (fun l=>g.foldl Lc l) n [])=Nat.repeat (fun F=>g.foldl mM F) n fun _=>none:=by
  intro n;induction n with
  |zero=>rfl
  |succ n ih=>show look (g.foldl Lc (Nat.repeat (fun l=>g.foldl Lc l) n []))=g.foldl mM (Nat.repeat (fun F=>g.foldl mM F) n fun _=>none);rw[CV,ih]
 exact this 200
def sY(g:Lr)(s:Nat)(y:T):Prop:=(∃rs,D g [s] y rs)/\∀w rs,D g [s] w rs->LE y w
theorem sY.uniq{g s y z}(h:sY g s y)(k:sY g s z):y=z:=by obtain⟨⟨rs,d⟩,a⟩:=h;obtain⟨⟨Ig,d'⟩,a'⟩:=k;exact LE.antisymm (a _ _ d') (a' _ _ d)
theorem Pc{g:Lr}(wf:WF g)(hl:g.length<=8){s:Nat}(hs:s<256):
  (∀y,look (shortest g) s=some y↔sY g s y)/\(look (shortest g) s=none↔¬Mk g s):=by
 have up:∀w rs,D g [s] w rs->Ak (look (shortest g)) s w:=by intro w rs d;obtain⟨w',h,d'⟩:=d.W9;rw[Bu];obtain⟨y,e,k⟩:=Ih g 200 _ s w' (by rw[aA];lia) hs d';exact⟨y,e,k.trans h⟩
 have so:Al g (look (shortest g)):=by rw[Bu];exact Eg wf 200
 have key:∀y,look (shortest g) s=some y->sY g s y:=by intro y e;refine⟨(so s y e).2,fun w rs d=>?_⟩;obtain⟨z,e',k⟩:=up w rs d;rw[e]at e';have:=bC e';subst this;exact k
 refine⟨fun y=>⟨key y,fun h=>?_⟩,?_⟩
 .have h2:=h;obtain⟨⟨rs,d⟩,_⟩:=h2;obtain⟨z,e,_⟩:=up _ _ d;rw[e,(key z e).uniq h]
 .constructor
  .rintro e ⟨w,rs,d⟩;obtain⟨z,e',_⟩:=up _ _ d;rw[e]at e';cases e'
  .intro h;cases e:look (shortest g) s with
   |none=>rfl
   |some y=>obtain⟨⟨rs,d⟩,_⟩:=key y e;exact absurd ⟨y,rs,d⟩ h
end Tw
namespace Tw
open Rc14
def pJ:Call->List Int
 |.init=>[0]
 |.rule l r _=>1::l::(r.length:Int)::r
 |.text st b _=>2::st::(b.length:Int)::b.map fun c=>(c.toNat:Int)
 |.count s i j=>[3,s,i,j]
 |.tree k m=>[4,(k:Int),m]
 |.next=>[5]
 |.short s m=>[6,s,m]
 |.kind s=>[7,s]
def MR(z:Int):Prop:= -2147483648<=z/\z<=2147483647
def fi:Call->Prop
 |.init=>True
 |.rule l r n=>n=(r.length:Int)/\r.length<=16/\MR l/\∀x∈r,MR x
 |.text st b n=>n=(b.length:Int)/\b.length<=6/\MR st
 |.count s i j=>MR s/\MR i/\MR j
 |.tree k m=>k<18446744073709551616/\MR m
 |.next=>True
 |.short s m=>MR s/\MR m
 |.kind s=>MR s
def tX:Call->Bool
 |.rule _ _ _=>true
 |_=>false
def Js(a:Ans):List Int:=a.value::a.numbers.map fun(b:Nat)=>(b:Int)
def run:Abs->List Call->List (List Int)
 |_,[]=>[]
 |s,c::cs=>Js (does s c).2::run (does s c).1 cs
theorem vF{z:Int}(h:dQ z=true):MR z:=by unfold dQ at h;rw[bJ]at h;have h1:=aR h.1;have h2:=aR h.2;unfold MR;lia
theorem Nt:∀{b:List Int},(b.all fun(z:Int)=>nU z 8)=true->(nV b).map (fun c=>(c.toNat:Int))=b
 |[],_=>rfl
 |z::b,h=>by
  rw[jP,bJ]at h;have ih:=Nt h.2;have h1:0<=z/\z<256:=by have:=h.1;unfold nU at this;rw[bJ]at this;have a:=aR this.1;have b:=aR this.2;lia
  show((eA z.toNat).toNat:Int)::(nV b).map (fun c=>(c.toNat:Int))=z::b;rw[ih,lT (by show z.toNat<256;lia)];congr 1;lia
theorem QH{c:List (List Int)}(h:WI Gg c)(ha:Sv (lI c)=true):
  ∃x:Call,Rc14Neutral.callOf (lI c)=some x/\Je c=pJ x/\fi x/\(((lI c).headD []).headD 0==1)=tX x:=by
 obtain⟨p,a,xs,rfl,hs⟩:=h
 unfold Gg at hs
 split at hs
 .rename_i e;subst e;obtain⟨h1,h2⟩:=nX (bC hs);match a,xs,h1,h2 with
  |[],[],_,_=>exact⟨.init,rfl,rfl,trivial,rfl⟩
 split at hs
 .rename_i e;subst e;obtain⟨h1,h2⟩:=nX (bC hs);match a,xs,h1,h2 with
  |[l],[r],_,_=>
   refine⟨.rule l r r.length,rfl,?_,?_,rfl⟩
   .simp[Je,UY,WE,pJ]
   .have q:(dQ l&&((r.all (fun(z:Int)=>dQ z)&&uK r (r.length:Int) 0 16)&&(dQ (r.length:Int))))=true:=ha;rw[bJ,bJ,bJ]at q;refine⟨rfl,?_,vF q.1,fun x hx=>vF (cX.mp q.2.1.1 x hx)⟩;have q2:=q.2.1.2;unfold uK at q2;have q2:=aR q2;split at q2<;>lia
 split at hs
 .rename_i e;subst e;obtain⟨h1,h2⟩:=nX (bC hs);match a,xs,h1,h2 with
  |[l],[r],_,_=>
   have q:(dQ l&&((r.all (fun(z:Int)=>nU z 8)&&uK r (r.length:Int) 0 64)&&(dQ (r.length:Int)&&(decide ((r.length:Int)<=6)||decide (64<(r.length:Int))))))=true:=ha;rw[bJ,bJ,bJ,bJ]at q;have hb:(nV r).length=r.length:=by simp[nV]
   refine⟨.text l (nV r) r.length,rfl,?_,?_,rfl⟩
   .simp only[Je,UY,WE,pJ];rw[Nt q.2.1.1,hb];simp
   .refine⟨by rw[hb],?_,vF q.1⟩;have q2:=q.2.1.2;unfold uK at q2;have q2:=aR q2;have q3:=q.2.2.2;rw[eI]at q3;rw[hb];rcases q3 with q3|q3<;>have q3:=aR q3
    .lia
    .split at q2<;>lia
 split at hs
 .rename_i e;subst e;obtain⟨h1,h2⟩:=nX (bC hs);match a,xs,h1,h2 with
  |[x,y,z],[],_,_=>have q:(dQ x&&(dQ y&&dQ z))=true:=ha;rw[bJ,bJ]at q;exact⟨.count x y z,rfl,rfl,⟨vF q.1,vF q.2.1,vF q.2.2⟩,rfl⟩
 split at hs
 .rename_i e;subst e;obtain⟨h1,h2⟩:=nX (bC hs);match a,xs,h1,h2 with
  |[x,y],[],_,_=>
   have q:(nU x 64&&dQ y)=true:=ha;rw[bJ]at q;have h4:0<=x/\x<18446744073709551616:=by have:=q.1;unfold nU at this;rw[bJ]at this;have a:=aR this.1;have b:=aR this.2;lia
   refine⟨.tree x.toNat y,rfl,?_,⟨by lia,vF q.2⟩,rfl⟩;show[4,x,y]++[]=[4,(x.toNat:Int),y];rw[fI h4.1];rfl
 split at hs
 .rename_i e;subst e;obtain⟨h1,h2⟩:=nX (bC hs);match a,xs,h1,h2 with
  |[],[],_,_=>exact⟨.next,rfl,rfl,trivial,rfl⟩
 split at hs
 .rename_i e;subst e;obtain⟨h1,h2⟩:=nX (bC hs);match a,xs,h1,h2 with
  |[x,y],[],_,_=>have q:(dQ x&&dQ y)=true:=ha;rw[bJ]at q;exact⟨.short x y,rfl,rfl,⟨vF q.1,vF q.2⟩,rfl⟩
 split at hs
 .rename_i e;subst e;obtain⟨h1,h2⟩:=nX (bC hs);match a,xs,h1,h2 with
  |[x],[],_,_=>have q:dQ x=true:=ha;exact⟨.kind x,rfl,rfl,vF q,rfl⟩
 .cases hs
theorem Sh:∀{cs:List (List (List Int))},(∀c∈cs,WI Gg c)->((cs.map lI).all Sv)=true->
  ∃xs:List Call,PyFlat.put cs=xs.flatMap pJ/\(∀x∈xs,fi x)/\xs.length=cs.length/\
   ((cs.map lI).filter fun c=>(c.headD []).headD 0==1).length=(xs.filter tX).length/\
   ∀s,WG nO s (cs.map lI)=run s xs
 |[],_,_=>⟨[],rfl,by simp,rfl,rfl,fun _=>rfl⟩
 |c::cs,h,ha=>by
  rw[bL,jP,bJ]at ha;obtain⟨x,e1,e2,e3,e4⟩:=QH (h c aF) ha.1;obtain⟨xs,a1,a2,a3,a4,a5⟩:=Sh (fun d hd=>h d (aD _ hd)) ha.2;refine⟨x::xs,?_,?_,?_,?_,?_⟩
  .show Je c++PyFlat.put cs=_;rw[e2,a1];rfl
  .intro y hy;rcases aW.mp hy with rfl|hy
   .exact e3
   .exact a2 y hy
  .simp[a3]
  .rw[bL,fV,fV,e4];cases tX x
   .exact a4
   .exact gL (fun n=>n+1) a4
  .intro s;have es:nO s (lI c)=((does s x).1,Js (does s x).2):=by unfold nO;rw[e1];rfl
   show(nO s (lI c)).2::WG nO (nO s (lI c)).1 (cs.map lI)=_;rw[es,a5];rfl
theorem VT{l:List Int}(h:AK l=true):∃xs:List Call,l=xs.flatMap pJ/\(∀x∈xs,fi x)/\xs.length<=60/\(xs.filter tX).length<=8/\
  UX l=(run {} xs).flatMap fun a=>(a.length:Int)::a:=by
 unfold AK at h
 unfold UX
 cases e:PyRc14.calls l with
 |none=>rw[e]at h;cases h
 |some ds=>
  rw[e]at h;unfold PyRc14.calls at e;cases e2:PyFlat.calls Gg l.length l with
  |none=>rw[e2]at e;cases e
  |some cs=>
   rw[e2]at e;have e:=bC e;subst e;obtain⟨p1,p2⟩:=PyFlat.put_calls _ _ _ e2;dsimp only at h ⊢;rw[bJ]at h;have h1:=aR h.1;have h2:=h.2;unfold Rc14Neutral.asked at h2;rw[bJ,bJ,bJ]at h2;obtain⟨xs,a1,a2,a3,a4,a5⟩:=Sh p2 h2.1.1;refine⟨xs,by rw[<-a1];exact p1,a2,?_,?_,?_⟩
   .rw[a3];simpa using h1
   .rw[<-a4];exact aR h2.1.2.2
   .unfold PyFlat.told;rw[a5];rfl
structure EW(s:Abs):Prop where
 small:jS s.rules s.text
 tl:s.text.length<=6
 st:s.start<256
theorem EW.init:EW {}:=⟨⟨fun r hr=>(by cases hr),by decide,by decide⟩,by decide,by decide⟩
theorem ag{s:Abs}{c:Call}{n:Nat}(h:EW s)(hn:s.rules.length+n+(if tX c=true then 1 else 0)<=8)(hc:fi c):EW (does s c).1/\(does s c).1.rules.length+n<=8:=by
 cases c with
 |init=>exact⟨.init,by show 0+n<=8;lia⟩
 |rule l r k=>
  unfold does;dsimp only;split
  .exact⟨h,by show s.rules.length+n<=8;lia⟩
  .rename_i q1;split
   .exact⟨h,by show s.rules.length+n<=8;lia⟩
   .have Uz:s.rules.length+n+1<=8:=hn;refine⟨⟨⟨?_,?_,by show 0<=7;decide⟩,by show 0<=6;decide,h.st⟩,?_⟩
    .intro x hx;rcases aN.mp hx with hx|hx
     .exact h.small.wf x hx
     .have:x=⟨l.toNat,r.map Dn⟩:=(by simpa using hx);subst this;rw[not_or,not_or,not_or]at q1;obtain⟨q1,q2,q3,q4⟩:=q1;have hl:isName l=true:=(by simpa using q1);unfold isName at hl;rw[bJ]at hl;have l1:=aR hl.1;have l2:=aR hl.2;refine⟨by show l.toNat<256;lia,fun z hz=>?_⟩;obtain⟨y,hy,rfl⟩:=aE.mp hz
      have:isSymbol y=true:=by
       cases e:isSymbol y with
       |true=>rfl
       |false=>exact absurd (dI.mpr ⟨y,hy,by rw[e];rfl⟩) q4
      unfold isSymbol at this;rw[bJ]at this;have l1:=aR this.1;have l2:=aR this.2;lia
    .show(s.rules++_).length<=8;simp;lia
    .show(s.rules++_).length+n<=8;simp;lia
 |text st b k=>
  unfold does;dsimp only;split
  .exact⟨h,by show s.rules.length+n<=8;lia⟩
  .rename_i q1;rw[not_or]at q1;have hl:isName st=true:=by simpa using q1.1
   unfold isName at hl;rw[bJ]at hl;have l1:=aR hl.1;have l2:=aR hl.2;have hb:b.length<=6:=hc.2.1;exact⟨⟨⟨h.small.wf,h.small.gl,by show b.length<=7;lia⟩,hb,by show st.toNat<256;lia⟩,by show s.rules.length+n<=8;lia⟩
 |count x i j=>exact⟨h,by show s.rules.length+n<=8;lia⟩
 |tree k m=>exact⟨h,by show s.rules.length+n<=8;lia⟩
 |next=>exact⟨h,by show s.rules.length+n<=8;lia⟩
 |short x m=>exact⟨h,by show s.rules.length+n<=8;lia⟩
 |kind x=>exact⟨h,by show s.rules.length+n<=8;lia⟩
theorem Jr{g t s i j}(h:jS g t)(Bq:i<=j)(hj:j<=t.length):endless g (cW g (dS t i j)) (dS t i j) (s,0,(dS t i j).length)=true↔s<256/\¬Acc (nB g t) (s,i,j):=by
 have hS:=h.stretch i j;rw[Zm hS,fG hj,Iz hj Bq (by lia)];have e:i+(j-i)=j:=by lia
 rw[Ji,e];constructor
 .rintro⟨a,b⟩;exact⟨((mO hS).mp a).1,b⟩
 .rintro⟨hs,b⟩;refine⟨?_,b⟩;rw[mO hS];refine⟨hs,?_⟩;apply bQ;intro hn;apply b;refine⟨_,fun y p=>?_⟩;exfalso;apply hn;obtain⟨_,r,hr,e2,l1,l2,e3,c1,c2,c3⟩:=p;dsimp only at e2 c1 c3;have hc:iZ g t [s] i j:=by rw[wQ h.wf hs];refine⟨r,hr,e2,?_⟩;rw[e3,mU];exact⟨_,c1,kE.mpr ⟨_,c2,c3⟩⟩
  have:=(oC (g:=g) (l:=[s]) (a:=0) (b:=j-i) hj Bq (by lia)).mpr (by rw[Ji,e];exact hc);exact this
theorem Yf{g t s i j n}(h:jS g t)(Bq:i<=j)(hj:j<=t.length)(hn:jC g t [s] i j n)(ha:256<=s∨Acc (nB g t) (s,i,j)):(yV g (dS t i j) s).length=n:=by
 have hS:=h.stretch i j
 have e:i+(j-i)=j:=by lia
 have h1:=Ww hS (s:=s) (by
  rw[fG hj]
  refine ha.imp id fun q=>(Iz hj Bq (by lia)).mpr ?_
  rw[Ji,e];exact q)
 refine jC.uniq h1 ?_
 obtain⟨L,a,b,c⟩:=hn
 refine⟨L,a,fun rs=>?_,c⟩
 rw[b,fG hj,De hj Bq (by lia),Ji,e]
end Tw
namespace Tw
open Rc14
theorem GR{g t i}(h:i<=t.length):jC g t [] i i 1:=⟨[[]],by simp,fun rs=>by
 rw[aO]
 exact⟨fun e=>by subst e;exact .nil h,fun d=>d.nil_inv.2⟩,rfl⟩
theorem Ye{g t l i j}(h:¬iZ g t l i j):jC g t l i j 0:=⟨[],by simp,fun rs=>by
 constructor
 .intro q;simp at q
 .intro d;exact absurd ⟨rs,d⟩ h,rfl⟩
theorem jC.pos{g t l i j n}(h:jC g t l i j n):0<n↔iZ g t l i j:=by
 obtain⟨L,a,b,rfl⟩:=h;constructor
 .intro q;obtain⟨x,hx⟩:=List.exists_mem_of_length_pos q;exact⟨x,(b x).mp hx⟩
 .rintro⟨rs,d⟩;exact List.length_pos_of_mem ((b rs).mpr d)
theorem Mc{g t s i j}(hs:256<=s)(h:iZ g t [s] i j):jC g t [s] i j 1:=by
 obtain⟨rs,d⟩:=h;refine⟨[[]],by simp,fun Ig=>?_,rfl⟩;rw[aO];obtain⟨a,b,c⟩:=(mS hs).mp d;constructor
 .rintro rfl;rw[b]at d;exact d
 .intro d';exact((mS hs).mp d').2.1
theorem rP{α:Type}{f h:α->Nat}{l:List α}(e:∀x∈l,f x=h x):(l.map f).sum=(l.map h).sum:=by rw[eJ e]
theorem Md{g t l1 l2 i j}(ks:Ln)(a b:Nat->Nat)(hn:ks.Nodup)(hk:∀k,iZ g t l1 i k->iZ g t l2 k j->k∈ks)
  (ha:∀k∈ks,jC g t l1 i k (a k)) (hb:∀k∈ks,jC g t l2 k j (b k)):jC g t (l1++l2) i j ((ks.map fun k=>a k*b k).sum):=by
 have hA:∀k,∃L:List (Ln),k∈ks->L.Nodup/\(∀rs,rs∈L↔DP g t l1 i k rs)/\L.length=a k:=fun k=>by
  by_cases h:k∈ks
  .obtain⟨L,q⟩:=ha k h;exact⟨L,fun _=>q⟩
  .exact⟨[],fun q=>absurd q h⟩
 have hB:∀k,∃L:List (Ln),k∈ks->L.Nodup/\(∀rs,rs∈L↔DP g t l2 k j rs)/\L.length=b k:=fun k=>by
  by_cases h:k∈ks
  .obtain⟨L,q⟩:=hb k h;exact⟨L,fun _=>q⟩
  .exact⟨[],fun q=>absurd q h⟩
 obtain⟨A,hA⟩:=cP hA
 obtain⟨B,hB⟩:=cP hB
 refine⟨ks.flatMap fun k=>(A k).flatMap fun x=>(B k).map fun y=>x++y,?_,?_,?_⟩
 .refine jG (fun k hk=>jG (fun x _=>mC (hB k hk).1 fun y _ z _ e=>gH e) (fW (hA k hk).1 ?_)) (fW hn ?_)
  .intro x hx y hy ne z hz Rm;obtain⟨u,_,rfl⟩:=aE.mp hz;obtain⟨v,_,e⟩:=aE.mp Rm;exact ne ((((hA k hk).2.1 x).mp hx).det (((hA k hk).2.1 y).mp hy) e.symm).1
  .intro k hk k' Hl ne z hz Rm;obtain⟨x,hx,hz⟩:=bG.mp hz;obtain⟨u,_,rfl⟩:=aE.mp hz;obtain⟨y,hy,Rm⟩:=bG.mp Rm;obtain⟨v,_,e⟩:=aE.mp Rm;exact ne ((((hA k hk).2.1 x).mp hx).det (((hA k' Hl).2.1 y).mp hy) e.symm).2
 .intro rs;rw[bG];constructor
  .rintro⟨k,Hl,h⟩;obtain⟨x,hx,h⟩:=bG.mp h;obtain⟨y,hy,rfl⟩:=aE.mp h;exact(((hA k Hl).2.1 x).mp hx).append (((hB k Hl).2.1 y).mp hy)
  .intro d;obtain⟨m,nJ,rs2,rfl,d1,d2⟩:=d.split;have hm:=hk m ⟨_,d1⟩ ⟨_,d2⟩;exact⟨m,hm,bG.mpr ⟨nJ,((hA m hm).2.1 _).mpr d1,aE.mpr ⟨rs2,((hB m hm).2.1 _).mpr d2,rfl⟩⟩⟩
 .rw[fH];refine rP fun k hk=>?_;rw[fH];have:(fun x:Ln=>((B k).map fun y=>x++y).length)=fun _=>b k:=by funext x;rw[aA,(hB k hk).2.2]
  rw[this,oJ,(hA k hk).2.2]
theorem Yg{g:Lr}{t s i j}(hs:s<256)(ks:Ln)(c:Nat->Nat)(hn:ks.Nodup)(hk:∀(k:Nat) r,g[k]? =some r->r.left=s->iZ g t r.right i j->k∈ks)
  (hc:∀k∈ks,∃r,g[k]? =some r/\r.left=s/\jC g t r.right i j (c k)):jC g t [s] i j ((ks.map c).sum):=by
 have hA:∀k,∃L:List (Ln),k∈ks->L.Nodup/\(∀rs,rs∈L↔∃r,g[k]? =some r/\r.left=s/\DP g t r.right i j rs)/\L.length=c k:=fun k=>by
  by_cases h:k∈ks
  .obtain⟨r,e1,e2,L,q1,q2,q3⟩:=hc k h;refine⟨L,fun _=>⟨q1,fun rs=>?_,q3⟩⟩;rw[q2];constructor
   .exact fun d=>⟨r,e1,e2,d⟩
   .rintro⟨r',P6,_,d⟩;rw[e1]at P6;cases P6;exact d
  .exact⟨[],fun q=>absurd q h⟩
 obtain⟨A,hA⟩:=cP hA
 refine⟨ks.flatMap fun k=>(A k).map fun x=>k::x,?_,?_,?_⟩
 .refine jG (fun k hk=>mC (hA k hk).1 fun x _ y _ e=>(eK e).2) (fW hn ?_);intro k _ k' _ ne z hz Rm;obtain⟨x,_,rfl⟩:=aE.mp hz;obtain⟨y,_,e⟩:=aE.mp Rm;exact ne (eK e).1.symm
 .intro rs;rw[bG];constructor
  .rintro⟨k,Hl,h⟩;obtain⟨x,hx,rfl⟩:=aE.mp h;obtain⟨r,e1,e2,d⟩:=((hA k Hl).2.1 x).mp hx;rw[<-e2];exact DP.nN e1 (by lia) d
  .intro d;obtain⟨k,r,nJ,rfl,e1,e2,d'⟩:=d.jN hs;have hm:=hk k r e1 e2 ⟨_,d'⟩;exact⟨k,hm,aE.mpr ⟨nJ,((hA k hm).2.1 _).mpr ⟨r,e1,e2,d'⟩,rfl⟩⟩
 .rw[fH];refine rP fun k hk=>?_;rw[aA,(hA k hk).2.2]
end Tw
namespace Tw
open Rc14
theorem Fs{g t s l i j rs}(hs:256<=s):DP g t (s::l) i j rs↔∃c,t[i]? =some c/\s=c.toNat+256/\DP g t l (i+1) j rs:=by
 constructor
 .intro h;cases h with
  |byte a b c=>exact⟨_,a,b,c⟩
  |name a _ _ _ _=>lia
 .rintro⟨c,a,b,d⟩;exact .byte a b d
theorem Fq{g t s l i j rs}(hs:s<256):DP g t (s::l) i j rs↔∃k r Ig,rs=k::Ig/\g[k]? =some r/\r.left=s/\DP g t (r.right++l) i j Ig:=by
 constructor
 .intro h;cases h with
  |byte a b c=>lia
  |name a b c d e=>exact⟨_,_,_,rfl,b,c,d.append e⟩
 .rintro⟨k,r,Ig,rfl,a,b,d⟩;obtain⟨m,nJ,rs2,rfl,d1,d2⟩:=d.split;exact .name hs a b d1 d2
def qS(g:Lr)(t:T)(l:Ln)(i j:Nat)(L:List (Ln)):Prop:=(∀rs,rs∈L↔DP g t l i j rs)/\L.Pairwise (fun a b=>less a b=true)
theorem Tj{L:List (Ln)}(h:L.Pairwise (fun a b=>less a b=true)):L.Nodup:=h.imp fun{a b} q e=>by subst e;rw[oA]at q;cases q
theorem qS.uniq{g t l i j L L'}(h:qS g t l i j L)(k:qS g t l i j L'):L=L':=Ie h.2 k.2 fun x=>by rw[h.1,k.1]
theorem jC.all{g t l i j n}(h:jC g t l i j n):∃L,qS g t l i j L/\L.length=n:=by
 obtain⟨L,a,b,c⟩:=h;have hp:(L.mergeSort VH).Perm L:=IY _ _;refine⟨L.mergeSort VH,⟨fun rs=>by rw[hp.mem_iff,b],?_⟩,by rw[hp.length_eq,c]⟩
 have hs:(L.mergeSort VH).Pairwise (fun a b=>VH a b=true):=by
  refine Wq (le:=VH) (fun a b c h1 h2=>?_) (fun a b=>?_) _
  .rw[uZ]at*;rcases h1 with rfl|h1
   .exact h2
   .rcases h2 with rfl|h2
    .exact .inr h1
    .exact .inr (rL h1 h2)
  .rw[eI,uZ,uZ];rcases tV a b with e|e|e
   .exact .inl (.inl e)
   .exact .inl (.inr e)
   .exact .inr (.inr e)
 have hn:(L.mergeSort VH).Nodup:=hp.nodup_iff.mpr a;exact(Qb hs hn).imp fun⟨a,b⟩=>(uZ.mp a).resolve_left b
theorem qS.byte{g t s l i j L c}(hs:s=c.toNat+256)(hc:t[i]? =some c)(h:qS g t (s::l) i j L):qS g t l (i+1) j L:=by
 refine⟨fun rs=>?_,h.2⟩;rw[h.1,Fs (by lia)];constructor
 .rintro⟨c',a,b,d⟩;exact d
 .intro d;exact⟨c,hc,hs,d⟩
theorem Ri{k:Nat}{a b:Ln}:less (k::a) (k::b)=less a b:=by simp[less]
theorem CY{k m:Nat}{a b:Ln}(h:k<m):less (k::a) (m::b)=true:=by simp[less,h]
def xD(f:Nat->List (Ln))(ks:Ln):List (Ln):=ks.flatMap fun k=>(f k).map fun a=>k::a
theorem EU{g t s l i j}(hs:s<256)(ks:Ln)(f:Nat->List (Ln))(hk:ks.Pairwise (· < ·))
  (hc:∀(k:Nat) r,g[k]? =some r->r.left=s->iZ g t (r.right++l) i j->k∈ks)
  (hf:∀k∈ks,∃r,g[k]? =some r/\r.left=s/\qS g t (r.right++l) i j (f k)):qS g t (s::l) i j (xD f ks):=by
 constructor
 .intro rs;unfold xD;rw[bG,Fq hs];constructor
  .rintro⟨k,Hl,h⟩;obtain⟨a,ha,rfl⟩:=aE.mp h;obtain⟨r,e1,e2,h⟩:=hf k Hl;exact⟨k,r,a,rfl,e1,e2,(h.1 a).mp ha⟩
  .rintro⟨k,r,a,rfl,e1,e2,d⟩;have hm:=hc k r e1 e2 ⟨a,d⟩;obtain⟨r',P6,e2',h⟩:=hf k hm;rw[e1]at P6;cases P6;exact⟨k,hm,aE.mpr ⟨a,(h.1 a).mpr d,rfl⟩⟩
 .unfold xD;rw[BG];refine⟨fun k Hl=>?_,hk.imp ?_⟩
  .obtain⟨r,_,_,h⟩:=hf k Hl;exact NH.mpr (h.2.imp fun q=>by rw[Ri];exact q)
  .intro a b Vd x hx y hy;obtain⟨u,_,rfl⟩:=aE.mp hx;obtain⟨v,_,rfl⟩:=aE.mp hy;exact CY Vd
theorem Iw(f:Nat->List (Ln))(k:Nat)(ks:Ln)(x:Nat):(xD f (k::ks))[x]? =if x<(f k).length then ((f k)[x]?).map (fun a=>k::a)else (xD f ks)[x-(f k).length]? :=by
 show(((f k).map fun a=>k::a)++xD f ks)[x]? =_;by_cases h:x<(f k).length
 .rw[if_pos h,jB (by simpa using h),bT]
 .rw[if_neg h,fJ (by simpa using h),aA]
theorem Wx{g t s}(h:jS g t)(ha:256<=s∨Acc (nB g t) (s,0,t.length)):qS g t [s] 0 t.length (yV g t s):=by obtain⟨a,b⟩:=Dx h ha;exact⟨fun rs=>by rw[a,Nj],b⟩
end Tw
namespace Tw
open Rc14
abbrev Cn:=Option Nat
def iT:Cn->Cn->Cn
 |some a,some b=>some (a+b)
 |_,_=>none
def iB(a b:Cn):Cn:=if a=some 0∨b=some 0 then some 0 else match a,b with
 |some a,some b=>some (a*b)
 |_,_=>none
def jZ(l:List Cn):Cn:=l.foldr iT (some 0)
theorem mZ(a:Cn):iT a (some 0)=a:=by cases a<;>simp[iT]
theorem Qh(a:Cn):iT (some 0) a=a:=by cases a<;>simp[iT]
theorem LP(a b:Cn):iT a b=iT b a:=by cases a<;>cases b<;>simp[iT,Nat.add_comm]
theorem Dg(a b c:Cn):iT (iT a b) c=iT a (iT b c):=by cases a<;>cases b<;>cases c<;>simp[iT,Nat.add_assoc]
theorem wR{a b:Cn}:iT a b=none↔a=none∨b=none:=by cases a<;>cases b<;>simp[iT]
theorem Aj{a b:Cn}:iT a b=some 0↔a=some 0/\b=some 0:=by cases a<;>cases b<;>simp[iT]
theorem wN(a b:Nat):iB (some a) (some b)=some (a*b):=by
 unfold iB;split
 .rename_i h;rcases h with h|h<;>(cases h;simp)
 .rfl
theorem fX{a b:Cn}:iB a b=some 0↔a=some 0∨b=some 0:=by
 unfold iB;split
 .rename_i h;simp[h]
 .rename_i h;cases a with
  |none=>cases b<;>simp_all
  |some a=>
   cases b with
   |none=>simp_all
   |some b=>simp only[Bo,Nat.mul_eq_zero]
theorem tI{a b:Cn}:iB a b=none↔(a=none/\b≠some 0)∨(b=none/\a≠some 0):=by
 unfold iB;split
 .rename_i h;rcases h with h|h<;>subst h<;>simp
 .rename_i h;cases a<;>cases b<;>simp_all
theorem Yb(a:Cn):iB (some 1) a=a:=by
 cases a with
 |none=>simp[iB]
 |some a=>rw[wN,Nat.one_mul]
theorem uC:jZ []=some 0:=rfl
theorem gW(a:Cn)(l:List Cn):jZ (a::l)=iT a (jZ l):=rfl
theorem wM:∀{l:List Cn},jZ l=none↔none∈l
 |[]=>by simp[jZ]
 |a::l=>by rw[gW,wR,wM,aW,eq_comm]
theorem Zx:∀{l:List Cn},jZ l=some 0↔∀x∈l,x=some 0
 |[]=>by simp[jZ]
 |a::l=>by rw[gW,Aj,Zx];simp
theorem wL{α:Type}(f:α->Nat):∀l:List α,jZ (l.map fun x=>some (f x))=some ((l.map f).sum)
 |[]=>rfl
 |a::l=>by rw[bL,gW,wL f l];simp[iT]
theorem sA:∀l m:List Cn,jZ (l++m)=iT (jZ l) (jZ m)
 |[],m=>by rw[WL,uC,Qh]
 |a::l,m=>by rw[kU,gW,gW,sA l m,Dg]
theorem LN{l m:List Cn}(h:l.Perm m):jZ l=jZ m:=by
 induction h with
 |nil=>rfl
 |cons x _ ih=>rw[gW,gW,ih]
 |swap x y l=>rw[gW,gW,gW,gW,<-Dg,LP y x,Dg]
 |trans _ _ a b=>rw[a,b]
theorem rN{α:Type}{f h:α->Cn}{l:List α}(e:∀x∈l,f x=h x):jZ (l.map f)=jZ (l.map h):=by rw[eJ e]
theorem Ae{α:Type}(p:α->Bool)(f:α->Cn):∀l:List α,(∀x∈l,p x=false->f x=some 0)->jZ ((l.filter p).map f)=jZ (l.map f)
 |[],_=>rfl
 |a::l,h=>by
  have ih:=Ae p f l fun x hx=>h x (aD _ hx);by_cases q:p a=true
  .rw[yG q,bL,bL,gW,gW,ih]
  .rw[yH q,ih,bL,gW,h a aF (by simpa using q),Qh]
theorem LM{α:Type}[DecidableEq α]{f:α->Cn}{l m:List α}(hl:l.Nodup)(hm:m.Nodup)(h1:∀x∈l,x∉m->f x=some 0)(h2:∀x∈m,x∉l->f x=some 0):jZ (l.map f)=jZ (m.map f):=by rw[<-Ae (fun x=>decide (x∈m)) f l (fun x hx q=>h1 x hx (by simpa using q)),<-Ae (fun x=>decide (x∈l)) f m (fun x hx q=>h2 x hx (by simpa using q))];refine LN (List.Perm.map _ ?_);refine(kY (jH hl) (jH hm)).mpr fun x=>?_;rw[aM,aM];simp only[decide_eq_true_eq];exact And.comm
def RA(g:Lr)(t:T)(l:Ln)(i j:Nat):Prop:=
 ∀l1 s l2 a b,l=l1++s::l2->s<256->iZ g t l1 i a->iZ g t [s] a b->iZ g t l2 b j->Acc (nB g t) (s,a,b)
theorem Dh{g t s i j}:Acc (nB g t) (s,i,j)↔∀r∈g,r.left=s->RA g t r.right i j:=by
 constructor
 .intro h r hr e l1 s' l2 a b el hs c1 c2 c3;exact h.inv ⟨hs,r,hr,e,l1,l2,el,c1,c2,c3⟩
 .intro h;refine Acc.intro _ ?_;rintro⟨s',a,b⟩ ⟨hs,r,hr,e,l1,l2,el,c1,c2,c3⟩;exact h r hr e l1 s' l2 a b el hs c1 c2 c3
theorem RA.Hd{g t l i j}(h:¬iZ g t l i j):RA g t l i j:=by intro l1 s l2 a b e _ c1 c2 c3;subst e;exact absurd (mU.mpr ⟨a,c1,kE.mpr ⟨b,c2,c3⟩⟩) h
theorem RA.nil{g t i j}:RA g t [] i j:=by intro l1 s l2 a b e;simp at e
theorem RA.byte{g t s i j}(h:256<=s):RA g t [s] i j:=by
 intro l1 s' l2 a b e hs;have:s'∈[s]:=by rw[e];simp
 simp at this;lia
theorem sU{g t s i j}(wf:WF g)(hs:s<256):RA g t [s] i j↔Acc (nB g t) (s,i,j):=by
 constructor
 .intro h;rw[Dh];intro r hr e;by_cases c:iZ g t r.right i j
  .have cs:iZ g t [s] i j:=(wQ wf hs).mpr ⟨r,hr,e,c⟩;exact Dh.mp (h [] s [] i j rfl hs (lX.mpr ⟨rfl,by have:=cs.le;lia⟩) cs (lX.mpr ⟨rfl,cs.le.2⟩)) r hr e
  .exact RA.Hd c
 .intro h l1 s' l2 a b e _ c1 c2 c3;cases l1 with
  |nil=>
   simp at e;obtain⟨e1,e2⟩:=e;subst e1 e2;have:=(lX.mp c1).1;have:=(lX.mp c3).1;subst_vars
   exact h
  |cons x l1=>simp at e
theorem pU{g t l1 l2 i j}:RA g t (l1++l2) i j↔∀k,iZ g t l1 i k->iZ g t l2 k j->RA g t l1 i k/\RA g t l2 k j:=by
 constructor
 .intro h k c1 c2;constructor
  .intro p s q a b e hs d1 d2 d3;exact h p s (q++l2) a b (by rw[e];simp) hs d1 d2 (mU.mpr ⟨k,d3,c2⟩)
  .intro p s q a b e hs d1 d2 d3;exact h (l1++p) s q a b (by rw[e];simp) hs (mU.mpr ⟨k,c1,d1⟩) d2 d3
 .intro h p s q a b e hs d1 d2 d3;rcases Ta.mp e with ⟨u,e1,e2⟩|⟨u,e1,e2⟩
  .
   subst e1;obtain⟨k,c1,c2⟩:=mU.mp d1;have c3:iZ g t l2 k j:=by rw[e2];exact mU.mpr ⟨a,c2,kE.mpr ⟨b,d2,d3⟩⟩
   exact(h k c1 c3).2 u s q a b e2 hs c2 d2 d3
  .
   cases u with
   |nil=>simp at e1 e2;subst e1;have c3:iZ g t l2 a j:=(by rw[<-e2];exact kE.mpr ⟨b,d2,d3⟩);have c0:iZ g t [] a a:=lX.mpr ⟨rfl,by have:=d1.le;lia⟩;exact(h a d1 c3).2 [] s q a b (by simp[e2]) hs c0 d2 d3
   |cons x u=>simp at e2;obtain⟨e3,e4⟩:=e2;subst e3 e4;obtain⟨k,c1,c2⟩:=mU.mp d3;have c3:iZ g t l1 i k:=(by rw[e1];exact mU.mpr ⟨a,d1,kE.mpr ⟨b,d2,c1⟩⟩);exact(h k c3 c2).1 p s u a b e1 hs d1 d2 c1
theorem tK{α:Type}(p:α->Bool)(f:α->Nat):∀l:List α,((l.filter p).map f).sum=(l.map fun x=>if p x=true then f x else 0).sum
 |[]=>rfl
 |a::l=>by
  by_cases q:p a=true
  .rw[yG q,bL,bL,iC,iC,tK p f l,if_pos q]
  .rw[yH q,tK p f l,bL,iC,if_neg q,Nat.zero_add]
theorem jC.row{g t l1 l2 i j}(h1:∀k,iZ g t l1 i k->iZ g t l2 k j->∃n,jC g t l1 i k n)(h2:∀k,iZ g t l1 i k->iZ g t l2 k j->∃n,jC g t l2 k j n):∃n,jC g t (l1++l2) i j n:=by
 classical
 have hA:∀k,∃n,iZ g t l1 i k->iZ g t l2 k j->jC g t l1 i k n:=fun k=>by
  by_cases c:iZ g t l1 i k/\iZ g t l2 k j
  .obtain⟨n,hn⟩:=h1 k c.1 c.2;exact⟨n,fun _ _=>hn⟩
  .exact⟨0,fun a b=>absurd ⟨a,b⟩ c⟩
 have hB:∀k,∃n,iZ g t l1 i k->iZ g t l2 k j->jC g t l2 k j n:=fun k=>by
  by_cases c:iZ g t l1 i k/\iZ g t l2 k j
  .obtain⟨n,hn⟩:=h2 k c.1 c.2;exact⟨n,fun _ _=>hn⟩
  .exact⟨0,fun a b=>absurd ⟨a,b⟩ c⟩
 obtain⟨a,ha⟩:=cP hA;obtain⟨b,hb⟩:=cP hB;refine⟨_,Md ((bD (t.length+1)).filter fun k=>decide (iZ g t l1 i k/\iZ g t l2 k j)) a b (jH (nodup_range _)) (fun k c1 c2=>?_) (fun k hk=>?_) fun k hk=>?_⟩
 .rw[aM,bS];exact⟨by have:=c1.le;lia,by simp[c1,c2]⟩
 .have:=(aM.mp hk).2;simp at this;exact ha k this.1 this.2
 .have:=(aM.mp hk).2;simp at this;exact hb k this.1 this.2
theorem Ue{g t}:∀{l i j},(∀l1 s l2 a b,l=l1++s::l2->iZ g t l1 i a->iZ g t [s] a b->iZ g t l2 b j->∃n,jC g t [s] a b n)->∃n,jC g t l i j n
 |[],i,j,_=>by
  by_cases h:i=j/\i<=t.length
  .obtain⟨rfl,h⟩:=h;exact⟨1,GR h⟩
  .exact⟨0,Ye fun c=>h (lX.mp c)⟩
 |s::l,i,j,h=>by refine jC.row (l1:=[s]) (fun k c1 c2=>h [] s l i k rfl (lX.mpr ⟨rfl,by have:=c1.le;lia⟩) c1 c2) fun k c1 c2=>Ue fun l1 s' l2 a b e d1 d2 d3=>?_;exact h (s::l1) s' l2 a b (by rw[e];rfl) (kE.mpr ⟨k,c1,d1⟩) d2 d3
theorem YM{g t}{x:Item}(h:Acc (nB g t) x):x.1<256->∃n,jC g t [x.1] x.2.1 x.2.2 n:=by
 classical
 induction h with
 |intro x _ ih=>
  intro hs
  have hr:∀k:Nat,∃n,∀r,g[k]? =some r->r.left=x.1->jC g t r.right x.2.1 x.2.2 n:=fun k=>by
   cases e:g[k]? with
   |none=>exact⟨0,fun r e'=>by cases e'⟩
   |some r=>
    by_cases q:r.left=x.1
    .obtain⟨n,hn⟩:∃n,jC g t r.right x.2.1 x.2.2 n:=Ue fun l1 s l2 a b el c1 c2 c3=>by
      by_cases hs:s<256
      .exact ih (s,a,b) ⟨hs,r,aG e,q,l1,l2,el,c1,c2,c3⟩ hs
      .exact⟨1,Mc (by lia) c2⟩
     exact⟨n,fun r' e' _=>by cases e';exact hn⟩
    .exact⟨0,fun r' e' q'=>by cases e';exact absurd q' q⟩
  obtain⟨c,hc⟩:=cP hr;refine⟨_,Yg hs ((bD g.length).filter fun k=>decide (∃r,g[k]? =some r/\r.left=x.1)) c (jH (nodup_range _)) (fun k r e q _=>?_) fun k hk=>?_⟩
  .rw[aM,bS];exact⟨(aL.mp e).1,by simp only[decide_eq_true_eq];exact⟨r,e,q⟩⟩
  .have:=(aM.mp hk).2;simp only[decide_eq_true_eq]at this;obtain⟨r,e,q⟩:=this;exact⟨r,e,q,hc k r e q⟩
theorem QJ{g t l i j}(h:RA g t l i j):∃n,jC g t l i j n:=Ue fun l1 s l2 a b e c1 c2 c3=>by
 by_cases hs:s<256
 .exact YM (h l1 s l2 a b e hs c1 c2 c3) hs
 .exact⟨1,Mc (by lia) c2⟩
open Classical in
noncomputable def iL(g:Lr)(t:T)(l:Ln)(i j:Nat):Cn:=if h:RA g t l i j then some (Classical.choose (QJ h))else none
theorem kD{g t l i j n}:iL g t l i j=some n↔RA g t l i j/\jC g t l i j n:=by
 unfold iL;split
 .rename_i h;have:=Classical.choose_spec (QJ h);constructor
  .intro e;cases e;exact⟨h,this⟩
  .rintro⟨_,k⟩;rw[this.uniq k]
 .rename_i h;simp[h]
theorem qJ{g t l i j}:iL g t l i j=none↔¬RA g t l i j:=by unfold iL;split<;>rename_i h<;>simp[h]
theorem kC{g t l i j}:iL g t l i j=some 0↔¬iZ g t l i j:=by
 rw[kD];constructor
 .rintro⟨_,h⟩ c;exact absurd (h.pos.mpr c) (by lia)
 .intro h;exact⟨RA.Hd h,Ye h⟩
theorem Af{g t l i j}(h:RA g t l i j):∃n,iL g t l i j=some n:=by
 cases e:iL g t l i j with
 |none=>exact absurd h (qJ.mp e)
 |some n=>exact⟨n,rfl⟩
theorem Sm{g t i j}:iL g t [] i j=if i=j/\i<=t.length then some 1 else some 0:=by
 split
 .rename_i h;obtain⟨rfl,h⟩:=h;exact kD.mpr ⟨RA.nil,GR h⟩
 .rename_i h;exact kC.mpr fun c=>h (lX.mp c)
theorem UH{g t s i j}(hs:256<=s):iL g t [s] i j=if j=i+1/\(t[i]?).map (fun c=>c.toNat+256)=some s then some 1 else some 0:=by
 have hc:iZ g t [s] i j↔j=i+1/\(t[i]?).map (fun c=>c.toNat+256)=some s:=by
  constructor
  .rintro⟨rs,d⟩;obtain⟨e1,_,c,e2,e3⟩:=(mS hs).mp d;exact⟨e1,by rw[e2,e3];rfl⟩
  .rintro⟨e1,e2⟩;cases e:t[i]? with
   |none=>rw[e]at e2;cases e2
   |some c=>rw[e]at e2;exact⟨[],(mS hs).mpr ⟨e1,rfl,c,e,(bC e2).symm⟩⟩
 split
 .rename_i h;exact kD.mpr ⟨RA.byte hs,Mc hs (hc.mpr h)⟩
 .rename_i h;exact kC.mpr fun c=>h (hc.mp c)
theorem xC{g t l1 l2 i j}:iL g t (l1++l2) i j=jZ ((bD (t.length+1)).map fun k=>iB (iL g t l1 i k) (iL g t l2 k j)):=by
 classical
 by_cases h:RA g t (l1++l2) i j
 .have hk:=pU.mp h
  have hF:∀k,∃a b:Nat,(iZ g t l1 i k->iZ g t l2 k j->jC g t l1 i k a/\jC g t l2 k j b)/\iB (iL g t l1 i k) (iL g t l2 k j)=some (if iZ g t l1 i k/\iZ g t l2 k j then a*b else 0):=fun k=>by
   by_cases c:iZ g t l1 i k/\iZ g t l2 k j
   .obtain⟨r1,r2⟩:=hk k c.1 c.2;obtain⟨a,ea⟩:=Af r1;obtain⟨b,eb⟩:=Af r2;exact⟨a,b,fun _ _=>⟨(kD.mp ea).2,(kD.mp eb).2⟩,by rw[ea,eb,wN,if_pos c]⟩
   .refine⟨0,0,fun x y=>absurd ⟨x,y⟩ c,?_⟩;rw[if_neg c,fX,kC,kC];by_cases c1:iZ g t l1 i k
    .exact .inr fun c2=>c ⟨c1,c2⟩
    .exact .inl c1
  obtain⟨a,hF⟩:=cP hF;obtain⟨b,hF⟩:=cP hF;rw[rN fun k _=>(hF k).2,wL];refine kD.mpr ⟨h,?_⟩
  have:=Md (g:=g) (t:=t) (l1:=l1) (l2:=l2) (i:=i) (j:=j) ((bD (t.length+1)).filter fun k=>decide (iZ g t l1 i k/\iZ g t l2 k j)) a b (jH (nodup_range _))
   (fun k c1 c2=>by rw[aM,bS];exact⟨by have:=c1.le;lia,by simp[c1,c2]⟩)
   (fun k hk=>by have:=(aM.mp hk).2;simp at this;exact((hF k).1 this.1 this.2).1)
   (fun k hk=>by have:=(aM.mp hk).2;simp at this;exact((hF k).1 this.1 this.2).2)
  rw[tK]at this;simpa using this
 .have hn:∃k,iZ g t l1 i k/\iZ g t l2 k j/\¬(RA g t l1 i k/\RA g t l2 k j):=by refine bQ fun q=>h (pU.mpr fun k c1 c2=>?_);exact bQ fun z=>q ⟨k,c1,c2,z⟩
  obtain⟨k,c1,c2,q⟩:=hn;rw[qJ.mpr h,eq_comm,wM,aE];refine⟨k,bS.mpr (by have:=c1.le;lia),?_⟩;rw[tI,qJ,qJ,Ne,Ne,kC,kC];by_cases r1:RA g t l1 i k
  .exact .inr ⟨fun r2=>q ⟨r1,r2⟩,fun z=>z c1⟩
  .exact .inl ⟨r1,fun z=>z c2⟩
theorem MW{g t s l i j}:iL g t (s::l) i j=jZ ((bD (t.length+1)).map fun k=>iB (iL g t [s] i k) (iL g t l k j)):=xC (l1:=[s])
theorem JR{α:Type}(g:List α)(f:Option α->Nat):((bD g.length).map fun k=>f g[k]?)=g.map fun r=>f (some r):=by
 refine Hy fun k=>?_;rw[bT,bT];by_cases h:k<g.length
 .simp[h]
 .simp[h]
theorem UG{g:Lr}{t s i j}(wf:WF g)(hs:s<256):iL g t [s] i j=jZ ((g.filter fun r=>r.left==s).map fun r=>iL g t r.right i j):=by
 classical
 by_cases h:Acc (nB g t) (s,i,j)
 .have hr:=Dh.mp h
  have hF:∀r:Rule,∃n:Nat,r∈g->r.left=s->iL g t r.right i j=some n/\jC g t r.right i j n:=fun r=>by
   by_cases q:r∈g/\r.left=s
   .obtain⟨n,e⟩:=Af (hr r q.1 q.2)
    exact⟨n,fun _ _=>⟨e,(kD.mp e).2⟩⟩
   .exact⟨0,fun a b=>absurd ⟨a,b⟩ q⟩
  obtain⟨c,hc⟩:=cP hF
  rw[rN (h:=fun r=>some (c r)) fun r MG=>by have:=aM.mp MG;exact(hc r this.1 (by simpa using this.2)).1,wL]
  refine kD.mpr ⟨(sU wf hs).mpr h,?_⟩
  have:=Yg (g:=g) (t:=t) (s:=s) (i:=i) (j:=j) hs ((bD g.length).filter fun k=>decide (∃r,g[k]? =some r/\r.left=s)) (fun k=>match g[k]? with|some r=>c r|none=>0) (jH (nodup_range _))
   (fun k r e q _=>by
    rw[aM,bS]
    exact⟨(aL.mp e).1,by simp only[decide_eq_true_eq];exact⟨r,e,q⟩⟩)
   (fun k hk=>by
    have:=(aM.mp hk).2
    simp only[decide_eq_true_eq]at this
    obtain⟨r,e,q⟩:=this
    exact⟨r,e,q,by simp only[e];exact(hc r (aG e) q).2⟩)
  rw[tK]at this
  rw[tK]
  have e:=JR g (fun o=>if decide (∃r,o=some r/\r.left=s)=true then (match o with|some r=>c r|none=>0)else 0)
  rw[e]at this
  refine(gL (jC g t [s] i j) ?_).mp this
  refine rP fun r _=>?_
  by_cases q:r.left=s<;>simp[q]
 .rw[qJ.mpr (fun z=>h ((sU wf hs).mp z)),eq_comm,wM,aE];have:∃r,r∈g/\r.left=s/\¬RA g t r.right i j:=by refine bQ fun q=>h (Dh.mpr fun r hr e=>?_);exact bQ fun z=>q ⟨r,hr,e,z⟩
  obtain⟨r,hr,e,q⟩:=this;exact⟨r,aM.mpr ⟨hr,by simp[e]⟩,qJ.mpr q⟩
end Tw
namespace Tw
open Rc14
def ext(n:Nat)(c:Nat->Nat->Nat->Cn)(w:Nat->Cn)(s:Nat):Nat->Cn:=fun j=>jZ ((bD (n+1)).map fun p=>iB (w p) (c s p j))
def oR(i:Nat):Nat->Cn:=fun j=>if j=i then some 1 else some 0
def wr(n:Nat)(c:Nat->Nat->Nat->Cn)(l:Ln)(i:Nat):Nat->Cn:=l.foldl (ext n c) (oR i)
def vU(n:Nat)(c:Nat->Nat->Nat->Cn)(rs:List (Ln))(i:Nat):Nat->Cn:=fun j=>jZ (rs.map fun l=>wr n c l i j)
section
variable (R:Cn->Cn->Prop) (h0:R (some 0) (some 0)) (Vc:∀a b a' b',R a b->R a' b'->R (iT a a') (iT b b')) (hmul:∀a b a' b',R a b->R a' b'->R (iB a a') (iB b b'))
include h0 Vc in
theorem Jv{α:Type}{f h:α->Cn}:∀{l:List α},(∀x∈l,R (f x) (h x))->R (jZ (l.map f)) (jZ (l.map h))
 |[],_=>h0
 |a::l,e=>by rw[bL,bL,gW,gW];exact Vc _ _ _ _ (e a aF) (Jv fun x hx=>e x (aD _ hx))
include h0 Vc hmul in
theorem Xp{n:Nat}{c c':Nat->Nat->Nat->Cn}(hc:∀s p j,R (c s p j) (c' s p j)):∀(l:Ln) (w w':Nat->Cn),(∀j,R (w j) (w' j))->∀j,R (l.foldl (ext n c) w j) (l.foldl (ext n c') w' j)
 |[],_,_,h,j=>h j
 |s::l,w,w',h,j=>Xp hc l (ext n c w s) (ext n c' w' s) (fun q=>Jv R h0 Vc fun p _=>hmul _ _ _ _ (h p) (hc s p q)) j
include h0 Vc hmul in
theorem PF(h1:R (some 1) (some 1)){n:Nat}{c c':Nat->Nat->Nat->Cn}(hc:∀s p j,R (c s p j) (c' s p j))(l:Ln)(i j:Nat):R (wr n c l i j) (wr n c' l i j):=
 Xp R h0 Vc hmul hc l _ _ (fun q=>by unfold oR;split;exact h1;exact h0) j
end
def Ap(a b:Cn):Prop:=a=b∨(a=none/\b≠some 0)
theorem Ap.refl(a:Cn):Ap a a:=.inl rfl
theorem Ap.zero{a b:Cn}(h:Ap a b):a=some 0↔b=some 0:=by
 rcases h with rfl|⟨rfl,h⟩
 .exact Iff.rfl
 .simp[h]
theorem Ap.trans{a b c:Cn}(h:Ap a b)(k:Ap b c):Ap a c:=by
 rcases h with rfl|⟨rfl,h⟩
 .exact k
 .exact .inr ⟨rfl,fun e=>h (k.zero.mpr e)⟩
theorem Ap.add(a b a' b':Cn)(h:Ap a b)(k:Ap a' b'):Ap (iT a a') (iT b b'):=by
 rcases h with rfl|⟨rfl,h⟩
 .rcases k with rfl|⟨rfl,k⟩
  .exact .refl _
  .refine .inr ⟨wR.mpr (.inr rfl),fun e=>k (Aj.mp e).2⟩
 .exact .inr ⟨wR.mpr (.inl rfl),fun e=>h (Aj.mp e).1⟩
theorem Ap.mul(a b a' b':Cn)(h:Ap a b)(k:Ap a' b'):Ap (iB a a') (iB b b'):=by
 by_cases z:a=some 0∨a'=some 0
 .have z':b=some 0∨b'=some 0:=z.imp h.zero.mp k.zero.mp;rw[fX.mpr z,fX.mpr z'];exact .refl _
 .have z':¬(b=some 0∨b'=some 0):=fun q=>z (q.imp h.zero.mpr k.zero.mpr);rcases h with rfl|⟨rfl,h⟩
  .rcases k with rfl|⟨rfl,k⟩
   .exact .refl _
   .exact .inr ⟨tI.mpr (.inr ⟨rfl,fun q=>z (.inl q)⟩),fun e=>z' (fX.mp e)⟩
  .exact .inr ⟨tI.mpr (.inl ⟨rfl,fun q=>z (.inr q)⟩),fun e=>z' (fX.mp e)⟩
def Su(a b:Cn):Prop:=b=some 0->a=some 0
theorem Su.add(a b a' b':Cn)(h:Su a b)(k:Su a' b'):Su (iT a a') (iT b b'):=fun e=>by rw[Aj]at*;exact⟨h e.1,k e.2⟩
theorem Su.mul(a b a' b':Cn)(h:Su a b)(k:Su a' b'):Su (iB a a') (iB b b'):=fun e=>by rw[fX]at*;exact e.imp h k
theorem Q2{n c c'}(hc:∀s p j,Ap (c s p j) (c' s p j))(l:Ln)(i j:Nat):Ap (wr n c l i j) (wr n c' l i j):=PF Ap (.refl _) Ap.add Ap.mul (.refl _) hc l i j
theorem EV{n c c'}(hc:∀s p j,Ap (c s p j) (c' s p j))(rs:List (Ln))(i j:Nat):Ap (vU n c rs i j) (vU n c' rs i j):=Jv Ap (.refl _) Ap.add fun l _=>Q2 hc l i j
theorem wb{n c c'}(hc:∀s p j,Su (c s p j) (c' s p j))(l:Ln)(i j:Nat):Su (wr n c l i j) (wr n c' l i j):=PF Su (fun e=>e) Su.add Su.mul (fun e=>e) hc l i j
theorem ib{n c c'}(hc:∀s p j,Su (c s p j) (c' s p j))(rs:List (Ln))(i j:Nat):Su (vU n c rs i j) (vU n c' rs i j):=Jv Su (fun e=>e) Su.add fun l _=>wb hc l i j
def RP(c:Nat->Nat->Nat->Cn):Ln->Nat->Nat->Prop
 |[],i,j=>i=j
 |s::l,i,j=>∃k,c s i k≠some 0/\RP c l k j
def bo(n:Nat)(c:Nat->Nat->Nat->Cn):Prop:=∀s p j,c s p j≠some 0->j<=n
theorem Fv{α:Type}{f:α->Cn}{l:List α}:jZ (l.map f)≠some 0↔∃x∈l,f x≠some 0:=by
 rw[Ne,Zx];constructor
 .intro h;refine bQ fun q=>h fun y hy=>?_;obtain⟨x,hx,rfl⟩:=aE.mp hy;exact bQ fun z=>q ⟨x,hx,z⟩
 .rintro⟨x,hx,h⟩ q;exact h (q _ (List.mem_map_of_mem hx))
theorem Fo{n c w s j}(hw:∀p,w p≠some 0->p<=n):ext n c w s j≠some 0↔∃p,w p≠some 0/\c s p j≠some 0:=by
 unfold ext;rw[Fv];constructor
 .rintro⟨p,_,h⟩;rw[Ne,fX]at h;exact⟨p,fun e=>h (.inl e),fun e=>h (.inr e)⟩
 .rintro⟨p,h1,h2⟩;refine⟨p,bS.mpr (by have:=hw p h1;lia),fun e=>?_⟩;rcases fX.mp e with e|e
  .exact h1 e
  .exact h2 e
theorem Zh{n c}(hl:bo n c):∀(l:Ln) (w:Nat->Cn),(∀p,w p≠some 0->p<=n)->∀j,l.foldl (ext n c) w j≠some 0↔∃p,w p≠some 0/\RP c l p j
 |[],w,hw,j=>⟨fun h=>⟨j,h,rfl⟩,fun⟨p,h,e⟩=>by cases e;exact h⟩
 |s::l,w,hw,j=>by
  have p9:∀p,ext n c w s p≠some 0->p<=n:=fun p h=>by obtain⟨q,_,h2⟩:=(Fo hw).mp h;exact hl _ _ _ h2
  show l.foldl (ext n c) (ext n c w s) j≠some 0↔_;rw[Zh hl l _ p9 j];constructor
  .rintro⟨k,h1,h2⟩;obtain⟨p,h3,h4⟩:=(Fo hw).mp h1;exact⟨p,h3,k,h4,h2⟩
  .rintro⟨p,h3,k,h4,h2⟩;exact⟨k,(Fo hw).mpr ⟨p,h3,h4⟩,h2⟩
theorem vX{i p:Nat}:oR i p≠some 0↔p=i:=by unfold oR;split<;>simp_all
theorem NN{n c l i j}(hl:bo n c)(hi:i<=n):wr n c l i j≠some 0↔RP c l i j:=by
 unfold wr;rw[Zh hl l _ (fun p h=>by rw[vX]at h;lia) j];constructor
 .rintro⟨p,h1,h2⟩;rw[vX]at h1;subst h1;exact h2
 .intro h;exact⟨i,vX.mpr rfl,h⟩
theorem Rw{n c}(hl:bo n c):∀(l:Ln) (w:Nat->Cn),(∀p,w p≠some 0->p<=n)->∀j,l.foldl (ext n c) w j=none->(∃p,w p=none/\RP c l p j)∨∃l1 s l2 p a b,l=l1++s::l2/\w p≠some 0/\RP c l1 p a/\c s a b=none/\RP c l2 b j
 |[],w,hw,j,h=>.inl ⟨j,h,rfl⟩
 |s::l,w,hw,j,h=>by
  have p9:∀p,ext n c w s p≠some 0->p<=n:=fun p h=>by obtain⟨q,_,h2⟩:=(Fo hw).mp h;exact hl _ _ _ h2
  rcases Rw hl l (ext n c w s) p9 j h with ⟨p,h1,h2⟩|⟨l1,s',l2,p,a,b,e,h1,h2,h3,h4⟩
  .unfold ext at h1;rw[wM]at h1;obtain⟨q,_,h1⟩:=aE.mp h1;rcases tI.mp h1 with ⟨x,y⟩|⟨x,y⟩
   .exact .inl ⟨q,x,p,y,h2⟩
   .exact .inr ⟨[],s,l,q,q,p,rfl,y,rfl,x,h2⟩
  .obtain⟨q,x,y⟩:=(Fo hw).mp h1;exact .inr ⟨s::l1,s',l2,q,a,b,by rw[e];rfl,x,⟨p,y,h2⟩,h3,h4⟩
theorem WO{n c l i j}(hl:bo n c)(hi:i<=n)(h:wr n c l i j=none):∃l1 s l2 a b,l=l1++s::l2/\RP c l1 i a/\c s a b=none/\RP c l2 b j:=by
 rcases Rw hl l (oR i) (fun p h=>by rw[vX]at h;lia) j h with ⟨p,h1,_⟩|⟨l1,s,l2,p,a,b,e,h1,h2,h3,h4⟩
 .unfold oR at h1;split at h1<;>cases h1
 .rw[vX]at h1;subst h1;exact⟨l1,s,l2,a,b,e,h2,h3,h4⟩
noncomputable def mJ(g:Lr)(t:T)(p0:Nat)(s p j:Nat):Cn:=open Classical in if p0<=p∨256<=s then iL g t [s] p j else some 0
theorem oQ{g t p0 s p j}(h:p0<=p):mJ g t p0 s p j=iL g t [s] p j:=by unfold mJ;rw[if_pos (.inl h)]
theorem Sb{g t p0 s p j}(h:256<=s):mJ g t p0 s p j=iL g t [s] p j:=by unfold mJ;rw[if_pos (.inr h)]
theorem Nm{g t p0 s p j}(h:mJ g t p0 s p j≠some 0):iZ g t [s] p j:=by
 unfold mJ at h;split at h
 .exact bQ fun q=>h (kC.mpr q)
 .exact absurd rfl h
theorem Bj{g t l p j}:iL g t l p j≠some 0↔iZ g t l p j:=by rw[Ne,kC,qC]
theorem Zy{g:Lr}{t:T}{p0:Nat}:bo t.length (mJ g t p0):=fun _ _ _ h=>(Nm h).le.2
theorem Rx{g t p0}{i:Nat}(hi:p0<=i):∀(l2 l1:Ln),l2.foldl (ext t.length (mJ g t p0)) (iL g t l1 i)=iL g t (l1++l2) i
 |[],l1=>by rw[dN];rfl
 |s::l2,l1=>by
  have e:ext t.length (mJ g t p0) (iL g t l1 i) s=iL g t (l1++[s]) i:=by
   funext j;unfold ext;rw[xC];refine rN fun p _=>?_;by_cases h:p0<=p
   .rw[oQ h]
   .have:iL g t l1 i p=some 0:=kC.mpr fun c=>by have:=c.le;lia
    rw[this,fX.mpr (.inl rfl),fX.mpr (.inl rfl)]
  show l2.foldl _ (ext t.length (mJ g t p0) (iL g t l1 i) s)=_;rw[e,Rx hi l2 (l1++[s]),eV];rfl
theorem FR{g t p0 i}(hi:p0<=i)(hn:i<=t.length)(l:Ln):wr t.length (mJ g t p0) l i=iL g t l i:=by
 have e:oR i=iL g t [] i:=by
  funext j;unfold oR;rw[Sm];by_cases h:j=i
  .subst h;simp[hn]
  .rw[if_neg h,if_neg (fun q=>h q.1.symm)]
 unfold wr;rw[e,Rx hi l []];rfl
def cR(g:Lr)(s:Nat):List (Ln):=(g.filter fun r=>r.left==s).map fun r=>r.right
theorem Kt{g t p0 i}(wf:WF g)(hi:p0<=i)(hn:i<=t.length){s:Nat}(hs:s<256)(j:Nat):vU t.length (mJ g t p0) (cR g s) i j=iL g t [s] i j:=by unfold vU cR;rw[dG,UG wf hs];refine rN fun r _=>?_;show wr _ _ _ _ _=_;rw[FR hi hn]
theorem FP{n c rs i j}(hl:bo n c)(hi:i<=n):vU n c rs i j≠some 0↔∃l∈rs,RP c l i j:=by
 unfold vU;rw[Fv];constructor
 .rintro⟨l,h1,h2⟩;exact⟨l,h1,(NN hl hi).mp h2⟩
 .rintro⟨l,h1,h2⟩;exact⟨l,h1,(NN hl hi).mpr h2⟩
theorem xN{g:Lr}{s l}:l∈cR g s↔∃r∈g,r.left=s/\r.right=l:=by
 unfold cR;rw[aE];constructor
 .rintro⟨r,h,e⟩;have:=aM.mp h;exact⟨r,this.1,by simpa using this.2,e⟩
 .rintro⟨r,h,e,e2⟩;exact⟨r,aM.mpr ⟨h,by simp[e]⟩,e2⟩
structure vP(g:Lr)(t:T)(p:Nat)(c:Nat->Nat->Nat->Cn):Prop where
 su:∀s i j,Su (c s i j) (mJ g t p s i j)
 HX:∀s i j,p<i∨256<=s->c s i j=mJ g t p s i j
 here:∀s j,s<256->c s p j=none∨c s p j=some 0
theorem vP.lid{g t p c}(h:vP g t p c):bo t.length c:=fun s i j q=>Zy (g:=g) (p0:=p) s i j fun e=>q (h.su s i j e)
theorem LO{g:Lr}{t:T}{p:Nat}:vP g t p (mJ g t (p+1)):=by
 refine⟨fun s i j e=>?_,fun s i j h=>?_,fun s j hs=>?_⟩
 .unfold mJ at*;split at e
  .split
   .exact e
   .rfl
  .rename_i h;rw[if_neg fun q=>h (q.imp (fun z=>by lia) id)]
 .unfold mJ;rcases h with h|h
  .rw[if_pos (.inl (by lia)),if_pos (.inl (by lia))]
  .rw[if_pos (.inr h),if_pos (.inr h)]
 .right;unfold mJ;rw[if_neg fun q=>by lia]
theorem vP.put{g t p c}(wf:WF g)(hp:p<=t.length)(h:vP g t p c){c0:Nat->Nat->Nat->Cn}(h0:vP g t p c0){s j:Nat}(hs:s<256)(hj:vU t.length c0 (cR g s) p j≠some 0):vP g t p (fun s' i j'=>if s'=s/\i=p/\j'=j then none else c s' i j'):=by
 have hc:iL g t [s] p j≠some 0:=fun e=>hj (ib h0.su (cR g s) p j (by rw[Kt wf (aY _) hp hs];exact e));refine⟨fun s' i j' e=>?_,fun s' i j' q=>?_,fun s' j' KR=>?_⟩
 .try dsimp only
  split
  .rename_i q;obtain⟨rfl,rfl,rfl⟩:=q;rw[oQ (aY _)]at e;exact absurd e hc
  .exact h.su s' i j' e
 .try dsimp only
  rw[if_neg (by rintro⟨rfl,rfl,_⟩;lia)];exact h.HX s' i j' q
 .try dsimp only
  split
  .exact .inl rfl
  .exact h.here s' j' KR
theorem vP.done{g t p c}(h:vP g t p c)(hp:p<=t.length)(cl:∀s j,s<256->vU t.length c (cR g s) p j≠some 0->c s p j≠some 0):∀s i j,Ap (c s i j) (mJ g t p s i j):=by
 have dp:∀{l i j rs},DP g t l i j rs->p<=i->RP c l i j:=by
  intro l i j rs d;induction d with
  |nil _=>intro _;rfl
  |byte a b d ih=>intro hi;rename_i s l ch i j rs;refine⟨i+1,?_,ih (by lia)⟩;rw[h.HX s i (i+1) (.inr (by lia)),oQ hi,Bj];exact⟨[],(mS (by lia)).mpr ⟨rfl,rfl,ch,a,b⟩⟩
  |name hs a b d1 d2 yQ xQ=>
   intro hi;rename_i s l k r i m j nJ rs2;have hm:i<=m:=d1.le.1;refine⟨m,?_,xQ (by lia)⟩;by_cases q:p<i
   .rw[h.HX s i m (.inl q),oQ hi,Bj];exact⟨_,by rw[<-b];exact DP.nN a (by lia) d1⟩
   .have e:i=p:=(by lia);subst e;exact cl s m hs ((FP h.lid hp).mpr ⟨r.right,xN.mpr ⟨r,aG a,b,rfl⟩,yQ hi⟩)
 intro s i j;by_cases q:p<i∨256<=s
 .rw[h.HX s i j q];exact .refl _
 .by_cases e:i=p
  .subst e;have hs:s<256:=by lia
   rcases h.here s j hs with z|z
   .exact .inr ⟨z,fun e=>by rw[h.su s i j e]at z;cases z⟩
   .refine .inl (z.trans ?_);rw[oQ (aY _),eq_comm,kC];rintro⟨rs,d⟩;obtain⟨k,dr,Ir⟩:=dp d (aY _);cases Ir;exact dr z
  .have e2:mJ g t p s i j=some 0:=by unfold mJ;rw[if_neg (by lia)]
   rw[e2,h.su s i j e2];exact .refl _
structure pI(g:Lr)(t:T)(p:Nat)(c:Nat->Nat->Nat->Cn):Prop where
 ap:∀s i j,Ap (c s i j) (mJ g t p s i j)
 HX:∀s i j,p<i∨256<=s->c s i j=mJ g t p s i j
 up:∀s j,s<256->Ap (c s p j) (vU t.length c (cR g s) p j)
theorem pI.lid{g t p c}(h:pI g t p c):bo t.length c:=fun s i j q=>Zy (g:=g) (p0:=p) s i j fun e=>q ((h.ap s i j).zero.mpr e)
theorem vP.ao{g t p c}(wf:WF g)(hp:p<=t.length)(h:vP g t p c)(ap:∀s i j,Ap (c s i j) (mJ g t p s i j)):pI g t p c:=by
 refine⟨ap,h.HX,fun s j hs=>?_⟩;have e:=EV (n:=t.length) ap (cR g s) p j;rw[Kt wf (aY _) hp hs]at e;have a:=ap s p j;rw[oQ (aY _)]at a;rcases h.here s j hs with z|z
 .exact .inr ⟨z,fun q=>by rw[a.zero.mpr (e.zero.mp q)]at z;cases z⟩
 .exact .inl (z.trans (e.zero.mpr (a.zero.mp z)).symm)
theorem pI.put{g t p c}(wf:WF g)(hp:p<=t.length)(h:pI g t p c){s:Nat}(hs:s<256):pI g t p (fun s' i j=>if s'=s/\i=p then vU t.length c (cR g s) p j else c s' i j):=by
 have hc:∀s' i j,Ap (c s' i j) ((fun s' i j=>if s'=s/\i=p then vU t.length c (cR g s) p j else c s' i j) s' i j):=fun s' i j=>by
  try dsimp only
  split
  .rename_i q;obtain⟨rfl,rfl⟩:=q;exact h.up s' j hs
  .exact .refl _
 refine⟨fun s' i j=>?_,fun s' i j q=>?_,fun s' j KR=>?_⟩
 .try dsimp only
  split
  .rename_i q;obtain⟨rfl,rfl⟩:=q;have e:=EV (n:=t.length) h.ap (cR g s') i j;rw[Kt wf (aY _) hp hs]at e;rw[oQ (aY _)];exact e
  .exact h.ap s' i j
 .try dsimp only
  rw[if_neg (by rintro⟨rfl,rfl⟩;lia)];exact h.HX s' i j q
 .have e:=EV (n:=t.length) hc (cR g s') p j;try dsimp only
  split
  .rename_i q;obtain⟨rfl,_⟩:=q;exact e
  .exact(h.up s' j KR).trans e
theorem pI.done{g t p c}(wf:WF g)(h:pI g t p c)(hp:p<=t.length)(fx:∀s j,s<256->c s p j=vU t.length c (cR g s) p j):c=mJ g t p:=by
 have rc:∀{l i j},j<=t.length->RP c l i j->iZ g t l i j:=by
  intro l;induction l with
  |nil=>intro i j hj e;exact lX.mpr ⟨e,by cases e;exact hj⟩
  |cons s l ih=>rintro i j hj ⟨k,h1,h2⟩;exact kE.mpr ⟨k,Nm fun e=>h1 ((h.ap s i k).zero.mpr e),ih hj h2⟩
 have fin:∀x:Item,Acc (nB g t) x->x.1<256->p<=x.2.1->c x.1 x.2.1 x.2.2≠none:=by
  intro x hx;induction hx with
  |intro x qb ih=>
   intro hs hi e;by_cases q:p<x.2.1
   .rw[h.HX _ _ _ (.inl q),oQ hi,qJ,sU wf hs]at e;exact e (Acc.intro x qb)
   .have eq:x.2.1=p:=(by lia);rw[eq]at e;have hz:c x.1 p x.2.2≠some 0:=(by rw[e];simp);have hj:x.2.2<=t.length:=h.lid _ _ _ hz;rw[fx _ _ hs]at e;unfold vU at e;rw[wM]at e;obtain⟨l,hl,e⟩:=aE.mp e;obtain⟨r,hr,el,rfl⟩:=xN.mp hl;obtain⟨l1,s',l2,a,b,e1,r1,z,r2⟩:=WO h.lid hp e;have ha:iZ g t [s'] a b:=Nm (p0:=p) fun q=>by rw[(h.ap s' a b).zero.mpr q]at z;cases z
    have c1:=rc (by have:=ha.le;lia) r1;have c2:=rc hj r2;have KR:s'<256:=bQ fun q=>by rw[h.HX s' a b (.inr (by lia)),Sb (by lia),qJ]at z;exact z (RA.byte (by lia))
    exact ih (s',a,b) ⟨KR,r,hr,el,l1,l2,e1,by rw[eq];exact c1,ha,c2⟩ KR c1.le.1 z
 funext s i j;rcases h.ap s i j with e|⟨e,hz⟩
 .exact e
 .by_cases q:p<i∨256<=s
  .exact h.HX s i j q
  .have hs:s<256:=by lia
   have hi:p<=i:=bQ fun z=>hz (by unfold mJ;rw[if_neg (by lia)]);rw[oQ hi]at hz ⊢;cases ec:iL g t [s] i j with
   |none=>exact e
   |some n=>have:=(sU wf hs).mp (kD.mp ec).1;exact absurd e (fin (s,i,j) this hs hi)
end Tw
namespace Tw
open Rc14
def Lx:Ln->Ln->Prop
 |x::a,y::b=>x<y∨(x=y/\Lx a b)
 |_,_=>False
theorem Lx.app:∀{a b:Ln},Lx a b->∀u w,Lx (a++u) (b++w)
 |x::a,y::b,h,u,w=>h.imp id fun⟨e,k⟩=>⟨e,k.app u w⟩
theorem RB:∀{s x y:Ln},Lx s (x++y)↔Lx s x∨∃r,s=x++r/\Lx r y
 |s,[],y=>by
  constructor
  .intro h;exact .inr ⟨s,rfl,h⟩
  .rintro(h|⟨r,rfl,h⟩)
   .cases s<;>exact h.elim
   .exact h
 |[],b::x,y=>by
  constructor
  .intro h;exact h.elim
  .rintro(h|⟨r,e,_⟩)
   .exact h.elim
   .simp at e
 |a::s,b::x,y=>by
  show(a<b∨(a=b/\Lx s (x++y)))↔(a<b∨(a=b/\Lx s x))∨_;rw[RB];constructor
  .rintro(h|⟨rfl,h|⟨r,rfl,h⟩⟩)
   .exact .inl (.inl h)
   .exact .inl (.inr ⟨rfl,h⟩)
   .exact .inr ⟨r,rfl,h⟩
  .rintro((h|⟨rfl,h⟩)|⟨r,e,h⟩)
   .exact .inl h
   .exact .inr ⟨rfl,.inl h⟩
   .simp at e;exact .inr ⟨e.1,.inr ⟨r,e.2,h⟩⟩
theorem Lx.less:∀{a b:Ln},Lx a b->less a b=true
 |x::a,y::b,h=>by
  rcases h with h|⟨rfl,h⟩
  .simp[uL,h]
  .rw[Ri];exact h.less
theorem Us:∀{a b:Ln},less a b=true->Lx a b∨∃z,b=a++z
 |[],b,_=>.inr ⟨b,rfl⟩
 |x::a,[],h=>by simp[uL]at h
 |x::a,y::b,h=>by
  simp only[uL,eI,bJ,decide_eq_true_eq,beq_iff_eq]at h;rcases h with h|⟨rfl,h⟩
  .exact .inl (.inl h)
  .rcases Us h with k|⟨z,rfl⟩
   .exact .inl (.inr ⟨rfl,k⟩)
   .exact .inr ⟨z,rfl⟩
theorem QZ:∀{a u b:Ln},Lx (a++u) b->Lx a b∨∃z,b=a++z
 |[],u,b,_=>.inr ⟨b,rfl⟩
 |x::a,u,[],h=>h.elim
 |x::a,u,y::b,h=>by
  have h:x<y∨(x=y/\Lx (a++u) b):=h;rcases h with h|⟨e,h⟩
  .exact .inl (.inl h)
  .rcases QZ h with k|⟨z,k⟩
   .exact .inl (.inr ⟨e,k⟩)
   .exact .inr ⟨z,by rw[e,k];rfl⟩
theorem Up:∀x y:Ln,¬Lx (x++y) x
 |[],y,h=>by cases y<;>exact h.elim
 |c::x,y,h=>by
  have h:c<c∨(c=c/\Lx (x++y) x):=h;rcases h with h|⟨_,h⟩
  .lia
  .exact Up x y h
theorem DP.Uq{g t l i j j' a b u}(h:DP g t l i j a)(k:DP g t l i j' b):Lx (a++u) b↔Lx a b:=by
 constructor
 .intro q;rcases QZ q with q|⟨z,rfl⟩
  .exact q
  .have e:=(h.det k (x:=z) (y:=[]) (by simp)).1;rw[<-e]at q;exact absurd q (Up a u)
 .intro q;have:=q.app u [];rwa[dN]at this
def pQ(P:Ln->Prop)(n:Nat):Prop:=∃L:List (Ln),L.Nodup/\(∀x,x∈L↔P x)/\L.length=n
theorem pQ.uniq{P n n'}(h:pQ P n)(k:pQ P n'):n=n':=by obtain⟨L,a,b,c⟩:=h;obtain⟨M,a',b',c'⟩:=k;rw[<-c,<-c'];exact((kY a a').mpr fun x=>by rw[b,b']).length_eq
theorem pQ.congr{P Q:Ln->Prop}{n}(h:pQ P n)(e:∀x,P x↔Q x):pQ Q n:=by obtain⟨L,a,b,c⟩:=h;exact⟨L,a,fun x=>by rw[b,e],c⟩
theorem pQ.none{P:Ln->Prop}(h:∀x,¬P x):pQ P 0:=⟨[],by simp,fun x=>by simp[h x],rfl⟩
theorem pQ.or{P Q:Ln->Prop}{n m}(h:pQ P n)(k:pQ Q m)(d:∀x,P x->Q x->False):pQ (fun x=>P x∨Q x) (n+m):=by obtain⟨L,a,b,rfl⟩:=h;obtain⟨M,a',b',rfl⟩:=k;refine⟨L++M,NI.mpr ⟨a,a',fun x hx y hy e=>?_⟩,fun x=>by rw[aN,b,b'],by rw[bA]⟩;subst e;exact d x ((b x).mp hx) ((b' x).mp hy)
theorem pQ.prod{A B:Nat->Ln->Prop}(ks:Ln)(a b:Nat->Nat)(hn:ks.Nodup)(ha:∀k∈ks,pQ (A k) (a k))(hb:∀k∈ks,pQ (B k) (b k))
  (det:∀k k' x y u v,A k x->A k' y->x++u=y++v->x=y/\k=k'):pQ (fun z=>∃k∈ks,∃x y,A k x/\B k y/\z=x++y) ((ks.map fun k=>a k*b k).sum):=by
 have hA:∀k,∃L:List (Ln),k∈ks->L.Nodup/\(∀x,x∈L↔A k x)/\L.length=a k:=fun k=>by
  by_cases h:k∈ks
  .obtain⟨L,q⟩:=ha k h;exact⟨L,fun _=>q⟩
  .exact⟨[],fun q=>absurd q h⟩
 have hB:∀k,∃L:List (Ln),k∈ks->L.Nodup/\(∀x,x∈L↔B k x)/\L.length=b k:=fun k=>by
  by_cases h:k∈ks
  .obtain⟨L,q⟩:=hb k h;exact⟨L,fun _=>q⟩
  .exact⟨[],fun q=>absurd q h⟩
 obtain⟨X,hX⟩:=cP hA
 obtain⟨Y,hY⟩:=cP hB
 refine⟨ks.flatMap fun k=>(X k).flatMap fun x=>(Y k).map fun y=>x++y,?_,?_,?_⟩
 .refine jG (fun k hk=>jG (fun x _=>mC (hY k hk).1 fun y _ z _ e=>gH e) (fW (hX k hk).1 ?_)) (fW hn ?_)
  .intro x hx y hy ne z hz Rm;obtain⟨u,_,rfl⟩:=aE.mp hz;obtain⟨v,_,e⟩:=aE.mp Rm;exact ne (det k k x y u v (((hX k hk).2.1 x).mp hx) (((hX k hk).2.1 y).mp hy) e.symm).1
  .intro k hk k' Hl ne z hz Rm;obtain⟨x,hx,hz⟩:=bG.mp hz;obtain⟨u,_,rfl⟩:=aE.mp hz;obtain⟨y,hy,Rm⟩:=bG.mp Rm;obtain⟨v,_,e⟩:=aE.mp Rm;exact ne (det k k' x y u v (((hX k hk).2.1 x).mp hx) (((hX k' Hl).2.1 y).mp hy) e.symm).2
 .intro z;rw[bG];constructor
  .rintro⟨k,Hl,h⟩;obtain⟨x,hx,h⟩:=bG.mp h;obtain⟨y,hy,rfl⟩:=aE.mp h;exact⟨k,Hl,x,y,((hX k Hl).2.1 x).mp hx,((hY k Hl).2.1 y).mp hy,rfl⟩
  .rintro⟨k,Hl,x,y,h1,h2,rfl⟩;exact⟨k,Hl,bG.mpr ⟨x,((hX k Hl).2.1 x).mpr h1,aE.mpr ⟨y,((hY k Hl).2.1 y).mpr h2,rfl⟩⟩⟩
 .rw[fH];refine rP fun k hk=>?_;rw[fH];have:(fun x:Ln=>((Y k).map fun y=>x++y).length)=fun _=>b k:=by funext x;rw[aA,(hY k hk).2.2]
  rw[this,oJ,(hX k hk).2.2]
def yB(g:Lr)(t:T)(s p:Nat)(q:Ln)(ah:Nat->Cn):Prop:=
 ∀e,(ah e≠some 0->iZ g t [s] p e)/\(Acc (nB g t) (s,p,e)->∃m,ah e=some m/\pQ (fun x=>DP g t [s] p e x/\Lx x q) m)
noncomputable def nA(g:Lr)(t:T)(s p k:Nat):Nat->Cn:=fun e=>jZ (((g.take k).filter fun r=>r.left==s).map fun r=>iL g t r.right p e)
theorem aq{g g':Lr}{t:T}{s p e k}(hs:s<256)(hg:g'=g.take k)(ha:Acc (nB g t) (s,p,e)):∃m,jZ ((g'.filter fun r=>r.left==s).map fun r=>iL g t r.right p e)=some m/\pQ (fun x=>DP g t [s] p e x/\Lx x [k]) m:=by
 subst hg;have hr:=Dh.mp ha;induction k with
 |zero=>
  refine⟨0,by simp[uC],.none fun x ⟨d,h⟩=>?_⟩;obtain⟨k,r,rs,rfl,_⟩:=d.jN hs;have h:k<0∨(k=0/\Lx rs []):=h;rcases h with h|⟨_,h⟩
  .lia
  .cases rs<;>exact h.elim
 |succ k ih=>
  obtain⟨m,e1,h1⟩:=ih;cases ek:g[k]? with
  |none=>
   have:g.take (k+1)=g.take k:=by have:=vM.mp ek;rw[eU (by lia),eU (by lia)]
   rw[this];refine⟨m,e1,h1.congr fun x=>?_⟩;constructor
   .rintro⟨d,h⟩;refine⟨d,?_⟩;obtain⟨k',r,rs,rfl,_⟩:=d.jN hs;have h:k'<k∨(k'=k/\Lx rs []):=h;rcases h with h|⟨_,h⟩
    .exact .inl (by lia)
    .cases rs<;>exact h.elim
   .rintro⟨d,h⟩;refine⟨d,?_⟩;obtain⟨k',r,rs,rfl,e,_⟩:=d.jN hs;have h:k'<k+1∨(k'=k+1/\Lx rs []):=h;rcases h with h|⟨_,h⟩
    .have:=(aL.mp e).1;have:=vM.mp ek;exact .inl (by lia)
    .cases rs<;>exact h.elim
  |some r=>
   have et:g.take (k+1)=g.take k++[r]:=by rw[vR,ek];rfl
   rw[et,qH,aQ,sA,e1]
   have cx:∀x,DP g t [s] p e x->(Lx x [k+1]↔Lx x [k]∨∃rs,x=k::rs):=by
    intro x d;obtain⟨k',r',rs,rfl,_⟩:=d.jN hs;constructor
    .intro h;have h:k'<k+1∨(k'=k+1/\Lx rs []):=h;rcases h with h|⟨_,h⟩
     .by_cases q:k'=k
      .subst q;exact .inr ⟨rs,rfl⟩
      .exact .inl (.inl (by lia))
     .cases rs<;>exact h.elim
    .rintro(h|⟨Ig,h⟩)
     .have h:k'<k∨(k'=k/\Lx rs []):=h;rcases h with h|⟨_,h⟩
      .exact .inl (by lia)
      .cases rs<;>exact h.elim
     .cases h;exact .inl (by lia)
   by_cases q:r.left=s
   .obtain⟨n,en⟩:=Af (hr r (aG ek) q);have hf:[r].filter (fun r=>r.left==s)=[r]:=(by simp[q]);rw[hf];refine⟨m+n,by rw[bL,gW,lS,uC,mZ,en];rfl,?_⟩;obtain⟨L,l1,l2,l3⟩:=(kD.mp en).2
    have hn:pQ (fun x=>∃rs,x=k::rs/\DP g t r.right p e rs) n:=by
     refine⟨L.map fun rs=>k::rs,mC l1 fun a _ b _ e=>(eK e).2,fun x=>?_,by rw[aA,l3]⟩;rw[aE];constructor
     .rintro⟨rs,h,rfl⟩;exact⟨rs,rfl,(l2 rs).mp h⟩
     .rintro⟨rs,rfl,h⟩;exact⟨rs,(l2 rs).mpr h,rfl⟩
    refine(h1.or hn ?_).congr fun x=>?_
    .rintro x ⟨_,h⟩ ⟨rs,rfl,_⟩;have h:k<k∨(k=k/\Lx rs []):=h;rcases h with h|⟨_,h⟩
     .lia
     .cases rs<;>exact h.elim
    .constructor
     .rintro(⟨d,h⟩|⟨rs,rfl,d⟩)
      .exact⟨d,(cx x d).mpr (.inl h)⟩
      .have d':DP g t [s] p e (k::rs):=(by rw[<-q];exact DP.nN ek (by lia) d);exact⟨d',(cx _ d').mpr (.inr ⟨rs,rfl⟩)⟩
     .rintro⟨d,h⟩;rcases(cx x d).mp h with h|⟨rs,rfl⟩
      .exact .inl ⟨d,h⟩
      .obtain⟨k',r',Ig,e',ef,_,d'⟩:=d.jN hs;cases e';rw[ek]at ef;cases ef;exact .inr ⟨rs,rfl,d'⟩
   .have hf:[r].filter (fun r=>r.left==s)=[]:=(by simp[q]);rw[hf];refine⟨m,by rw[lS,uC,mZ],h1.congr fun x=>?_⟩;constructor
    .rintro⟨d,h⟩;exact⟨d,(cx x d).mpr (.inl h)⟩
    .rintro⟨d,h⟩;rcases(cx x d).mp h with h|⟨rs,rfl⟩
     .exact⟨d,h⟩
     .obtain⟨k',r',Ig,e',ef,el,_⟩:=d.jN hs;cases e';rw[ek]at ef;cases ef;exact absurd el q
theorem KH{g:Lr}{t:T}{s p k}(wf:WF g)(hs:s<256):yB g t s p [k] (nA g t s p k):=by intro e;refine⟨fun h=>?_,fun ha=>aq hs rfl ha⟩;unfold nA at h;rw[Fv]at h;obtain⟨r,hr,h⟩:=h;have:=aM.mp hr;exact(wQ wf hs).mpr ⟨r,sN this.1,by simpa using this.2,Bj.mp h⟩
theorem Yq{g:Lr}{t:T}{s p e}:nA g t s p 0 e=some 0:=by simp[nA,uC]
theorem Io{g:Lr}{t:T}{s p k e r}(h:g[k]? =some r):nA g t s p (k+1) e=if r.left=s then iT (nA g t s p k e) (iL g t r.right p e)else nA g t s p k e:=by
 unfold nA;rw[vR,h];simp only[Option.toList,qH,aQ,sA];by_cases q:r.left=s
 .rw[if_pos q];simp[q,gW,uC,mZ]
 .rw[if_neg q];simp[q,uC,mZ]
theorem yB.put{g:Lr}{t:T}{k:Nat}{r:Rule}{l1 l2:Ln}{c pl p m:Nat}{v lA:Ln}{ah ahc:Nat->Cn}(wf:WF g)(ek:g[k]? =some r)(hl:r.left<256)(el:r.right=l1++c::l2)(hc:c<256)
  (d1:DP g t l1 pl p v) (d2:DP g t [c] p m lA) (h:yB g t r.left pl (k::v) ah) (hk:yB g t c p lA ahc):
  yB g t r.left pl (k::(v++lA)) fun e=>iT (ah e) (jZ ((bD (t.length+1)).map fun mid=>iB (ahc mid) (iL g t l2 mid e))):=by
 intro e
 refine⟨fun hz=>?_,fun ha=>?_⟩
 .by_cases q:ah e=some 0
  .have:jZ ((bD (t.length+1)).map fun mid=>iB (ahc mid) (iL g t l2 mid e))≠some 0:=fun z=>hz (by show iT _ _=_;rw[q,z];rfl);rw[Fv]at this;obtain⟨mid,_,hm⟩:=this;rw[Ne,fX]at hm;have a1:=((hk mid).1 fun z=>hm (.inl z));have a2:iZ g t l2 mid e:=Bj.mp fun z=>hm (.inr z);refine(wQ wf hl).mpr ⟨r,aG ek,rfl,?_⟩;rw[el];exact mU.mpr ⟨p,⟨v,d1⟩,kE.mpr ⟨mid,a1,a2⟩⟩
  .exact(h e).1 q
 .obtain⟨n0,e0,h0⟩:=(h e).2 ha;have part:∀mid,iZ g t [c] p mid->iZ g t l2 mid e->Acc (nB g t) (c,p,mid)/\RA g t l2 mid e:=fun mid c1 c2=>by have Rn:=Dh.mp ha r (aG ek) rfl;rw[el]at Rn;obtain⟨_,q⟩:=pU.mp Rn p ⟨v,d1⟩ (kE.mpr ⟨mid,c1,c2⟩);obtain⟨q1,q2⟩:=(pU (l1:=[c]) (l2:=l2)).mp q mid c1 c2;exact⟨(sU wf hc).mp q1,q2⟩
  have hF:∀mid,∃a b:Nat,pQ (fun x=>DP g t [c] p mid x/\Lx x lA/\iZ g t l2 mid e) a/\pQ (fun y=>DP g t l2 mid e y/\iZ g t [c] p mid) b/\iB (ahc mid) (iL g t l2 mid e)=some (a*b):=fun mid=>by
   by_cases c1:iZ g t [c] p mid
   .by_cases c2:iZ g t l2 mid e
    .obtain⟨p1,p2⟩:=part mid c1 c2;obtain⟨a,ea,na⟩:=(hk mid).2 p1;obtain⟨b,eb⟩:=Af p2;refine⟨a,b,na.congr fun x=>by simp[c2],?_,by rw[ea,eb,wN]⟩;have:=(kD.mp eb).2;exact pQ.congr this fun x=>by simp[c1]
    .refine⟨0,0,.none fun x h=>c2 h.2.2,.none fun x h=>c2 ⟨x,h.1⟩,?_⟩;rw[fX];exact .inr (kC.mpr c2)
   .refine⟨0,0,.none fun x h=>c1 ⟨x,h.1⟩,.none fun x h=>c1 h.2,?_⟩;rw[fX];exact .inl (bQ fun z=>c1 ((hk mid).1 z))
  obtain⟨a,hF⟩:=cP hF;obtain⟨b,hF⟩:=cP hF;show ∃m,iT _ _=some m/\_;rw[e0,rN fun mid _=>(hF mid).2.2,wL];refine⟨_,rfl,?_⟩
  have pr:=pQ.prod (A:=fun mid x=>DP g t [c] p mid x/\Lx x lA/\iZ g t l2 mid e) (B:=fun mid y=>DP g t l2 mid e y/\iZ g t [c] p mid) (bD (t.length+1)) a b (nodup_range _) (fun mid _=>(hF mid).1) (fun mid _=>(hF mid).2.1)
   (fun k k' x y u v h1 h2 e=>h1.1.det h2.1 e)
  obtain⟨L,l1',l2',l3'⟩:=pr
  have hB:pQ (fun x=>∃z,x=k::(v++z)/\∃mid∈bD (t.length+1),∃x y,(DP g t [c] p mid x/\Lx x lA/\iZ g t l2 mid e)/\(DP g t l2 mid e y/\iZ g t [c] p mid)/\z=x++y) (((bD (t.length+1)).map fun k=>a k*b k).sum):=by
   refine⟨L.map fun z=>k::(v++z),mC l1' fun x _ y _ e=>gH (eK e).2,fun x=>?_,by rw[aA,l3']⟩;rw[aE];constructor
   .rintro⟨z,hz,rfl⟩;exact⟨z,rfl,(l2' z).mp hz⟩
   .rintro⟨z,rfl,hz⟩;exact⟨z,(l2' z).mpr hz,rfl⟩
  refine(h0.or hB ?_).congr fun x=>?_
  .rintro x ⟨_,h1⟩ ⟨z,rfl,_⟩;have:Lx ((k::v)++z) (k::v):=h1;exact Up _ _ this
  .have hx:Lx x (k::(v++lA))↔Lx x (k::v)∨∃z,x=(k::v)++z/\Lx z lA:=RB (x:=k::v);constructor
   .rintro(⟨d,h⟩|⟨z,rfl,mid,_,x,y,⟨a1,a2,a3⟩,⟨b1,b2⟩,rfl⟩)
    .exact⟨d,hx.mpr (.inl h)⟩
    .refine⟨DP.nN ek hl (by rw[el];exact d1.append (DP.append (l1:=[c]) a1 b1)),?_⟩;refine hx.mpr (.inr ⟨x++y,rfl,?_⟩);exact(a1.Uq d2).mpr a2
   .rintro⟨d,h⟩;rcases hx.mp h with h|⟨z,rfl,hz⟩
    .exact .inl ⟨d,h⟩
    .right;refine⟨z,rfl,?_⟩;obtain⟨k',r',rs,e',ef,_,d'⟩:=d.jN hl;have e':k::(v++z)=k'::rs:=e';cases e';rw[ek]at ef;cases ef;rw[el]at d';obtain⟨m1,v',z',e',d3,d4⟩:=d'.split;obtain⟨rfl,rfl⟩:=d1.det d3 e';have:=gH e';subst this;obtain⟨mid,x,y,rfl,d5,d6⟩:=d4.cons_inv;exact⟨mid,bS.mpr (by have:=d5.le;lia),x,y,⟨d5,(d5.Uq d2).mp hz,⟨_,d6⟩⟩,⟨d6,⟨_,d5⟩⟩,rfl⟩
theorem yB.total{g:Lr}{t:T}{s p j m:Nat}{R lA:Ln}{ah:Nat->Cn}(wf:WF g)(hs:s<256)(Rn:RA g t (s::R) p j)(d:DP g t [s] p m lA)(h:yB g t s p lA ah):
  ∃a,jZ ((bD (t.length+1)).map fun e=>iB (ah e) (iL g t R e j))=some a/\pQ (fun x=>DP g t (s::R) p j x/\Lx x lA) a:=by
 have part:∀e,iZ g t [s] p e->iZ g t R e j->Acc (nB g t) (s,p,e)/\RA g t R e j:=fun e c1 c2=>by obtain⟨q1,q2⟩:=(pU (l1:=[s]) (l2:=R)).mp Rn e c1 c2;exact⟨(sU wf hs).mp q1,q2⟩
 have hF:∀e,∃a b:Nat,pQ (fun x=>DP g t [s] p e x/\Lx x lA/\iZ g t R e j) a/\pQ (fun y=>DP g t R e j y/\iZ g t [s] p e) b/\iB (ah e) (iL g t R e j)=some (a*b):=fun e=>by
  by_cases c1:iZ g t [s] p e
  .by_cases c2:iZ g t R e j
   .obtain⟨p1,p2⟩:=part e c1 c2;obtain⟨a,ea,na⟩:=(h e).2 p1;obtain⟨b,eb⟩:=Af p2;refine⟨a,b,na.congr fun x=>by simp[c2],?_,by rw[ea,eb,wN]⟩;have:=(kD.mp eb).2;exact pQ.congr this fun x=>by simp[c1]
   .refine⟨0,0,.none fun x h=>c2 h.2.2,.none fun x h=>c2 ⟨x,h.1⟩,?_⟩;rw[fX];exact .inr (kC.mpr c2)
  .refine⟨0,0,.none fun x h=>c1 ⟨x,h.1⟩,.none fun x h=>c1 h.2,?_⟩;rw[fX];exact .inl (bQ fun z=>c1 ((h e).1 z))
 obtain⟨a,hF⟩:=cP hF
 obtain⟨b,hF⟩:=cP hF
 rw[rN fun e _=>(hF e).2.2,wL]
 refine⟨_,rfl,?_⟩
 refine(pQ.prod (A:=fun mid x=>DP g t [s] p mid x/\Lx x lA/\iZ g t R mid j) (B:=fun mid y=>DP g t R mid j y/\iZ g t [s] p mid) (bD (t.length+1)) a b (nodup_range _) (fun mid _=>(hF mid).1) (fun mid _=>(hF mid).2.1)
   (fun k k' x y u v h1 h2 e=>h1.1.det h2.1 e)).congr fun x=>?_
 constructor
 .rintro⟨e,_,x,y,⟨a1,a2,_⟩,⟨b1,_⟩,rfl⟩;exact⟨DP.append (l1:=[s]) a1 b1,(a1.Uq d).mpr a2⟩
 .rintro⟨d',h'⟩;obtain⟨e,x,y,rfl,d5,d6⟩:=d'.cons_inv;exact⟨e,bS.mpr (by have:=d5.le;lia),x,y,⟨d5,(d5.Uq d).mp h',⟨_,d6⟩⟩,⟨d6,⟨_,d5⟩⟩,rfl⟩
theorem CZ{x c w:Ln}(h:less x c=true)(n:¬∃z,c=x++z):less (x++w) c=true:=by
 rcases Us h with k|k
 .have:=k.app w [];rw[dN]at this;exact this.less
 .exact absurd k n
theorem UJ{g:Lr}{t:T}{s p j m a x:Nat}{R lA:Ln}{L L':List (Ln)}(d:DP g t [s] p m lA)(hL:qS g t (s::R) p j L)(MN:qS g t R m j L')
  (ha:pQ (fun x=>DP g t (s::R) p j x/\Lx x lA) a) (h1:a<=x) (h2:x<a+L'.length):L[x]? =(L'[x-a]?).map fun y=>lA++y:=by
 classical
 have pre:∀{c},DP g t (s::R) p j c->∀z,lA=c++z->c=lA:=by
  intro c dc z e;obtain⟨e1,u,w,rfl,d5,d6⟩:=dc.cons_inv;have:u++(w++z)=lA++[]:=by rw[dN,e];simp
  obtain⟨rfl,_⟩:=d5.det d this;have:w=[]:=by have:=gL jU e;rw[bA,bA]at this;exact Wr.mp (by lia)
  rw[this,dN]
 have hA:(L.filter fun c=>decide (Lx c lA)).length=a:=by refine pQ.uniq ⟨_,jH (Tj hL.2),fun c=>?_,rfl⟩ ha;rw[aM,hL.1];simp
 have eL:L=(L.filter fun c=>decide (Lx c lA))++((L'.map fun y=>lA++y)++L.filter fun c=>decide (¬Lx c lA/\¬∃z,c=lA++z)):=by
  have after:∀{c},c∈(L.filter fun c=>decide (¬Lx c lA/\¬∃z,c=lA++z))->less lA c=true/\¬∃z,c=lA++z:=by
   intro c hc;have:=aM.mp hc;have q:=aR this.2;have dc:=(hL.1 c).mp this.1;refine⟨?_,q.2⟩;rcases tV lA c with e|e|e
   .exact absurd ⟨[],by rw[dN];exact e.symm⟩ q.2
   .exact e
   .rcases Us e with k|⟨z,k⟩
    .exact absurd k q.1
    .exact absurd ⟨[],by rw[dN];exact pre dc z k⟩ q.2
  refine Ie hL.2 ?_ fun c=>?_
  .refine FJ.mpr ⟨hL.2.filter _,FJ.mpr ⟨?_,hL.2.filter _,?_⟩,?_⟩
   .exact NH.mpr (MN.2.imp fun q=>by rw[Bv];exact q)
   .intro b hb c hc;obtain⟨y,_,rfl⟩:=aE.mp hb;obtain⟨q1,q2⟩:=after hc;exact CZ q1 q2
   .intro b hb c hc;have hb:=aR (aM.mp hb).2;rcases aN.mp hc with hc|hc
    .obtain⟨y,_,rfl⟩:=aE.mp hc;have:=hb.app [] y;rw[dN]at this;exact this.less
    .exact rL hb.less (after hc).1
  .rw[aN,aN,aM,aM,aE,hL.1];constructor
   .intro dc;by_cases q:Lx c lA
    .exact .inl ⟨dc,by simp[q]⟩
    .by_cases z:∃z,c=lA++z
     .obtain⟨z,rfl⟩:=z;obtain⟨e1,u,w,e,d5,d6⟩:=dc.cons_inv;obtain⟨rfl,rfl⟩:=d5.det d e.symm;have:=gH e;subst this;exact .inr (.inl ⟨z,(MN.1 z).mpr d6,rfl⟩)
     .exact .inr (.inr ⟨dc,by simp only[decide_eq_true_eq];exact⟨q,z⟩⟩)
   .rintro(⟨dc,_⟩|⟨y,hy,rfl⟩|⟨dc,_⟩)
    .exact dc
    .exact DP.append (l1:=[s]) d ((MN.1 y).mp hy)
    .exact dc
 rw[eL,fJ (by lia),hA,jB (by rw[aA];lia),bT]
def nZ(g:Lr)(s k:Nat):Ln:=(FH k (g.length-k)).filter fun k=>(g[k]?).any fun r=>r.left==s
theorem vJ{g:Lr}{s k:Nat}{r:Rule}(h:g[k]? =some r):nZ g s k=if r.left=s then k::nZ g s (k+1)else nZ g s (k+1):=by
 have hk:=(aL.mp h).1;unfold nZ;have:g.length-k=(g.length-(k+1))+1:=by lia
 rw[this,VB,fV,h];by_cases q:r.left=s<;>simp[q]
theorem Ud{g:Lr}{s k:Nat}(h:g.length<=k):nZ g s k=[]:=by
 unfold nZ;have:g.length-k=0:=by lia
 rw[this];rfl
theorem QC{g:Lr}{t:T}{s p j:Nat}{R:Ln}(hs:s<256)(f:Nat->List (Ln))(hf:∀(k:Nat) r,g[k]? =some r->r.left=s->qS g t (r.right++R) p j (f k)):qS g t (s::R) p j (xD f (nZ g s 0)):=by
 refine EU hs _ f ?_ (fun k r e q _=>?_) fun k hk=>?_
 .unfold nZ;exact Kq _ (List.pairwise_lt_range' ..)
 .unfold nZ;rw[aM,List.mem_range'_1];exact⟨⟨by lia,by have:=(aL.mp e).1;lia⟩,by simp[e,q]⟩
 .unfold nZ at hk;have:=(aM.mp hk).2;cases e:g[k]? with
  |none=>rw[e]at this;simp at this
  |some r=>
   rw[e]at this;have q:r.left=s:=by simpa using this
   exact⟨r,rfl,q,hf k r e q⟩
theorem XS{g:Lr}{t:T}{s p j:Nat}{R:Ln}(wf:WF g)(hs:s<256)(h:RA g t (s::R) p j){r:Rule}(hr:r∈g)(e:r.left=s):RA g t (r.right++R) p j:=by rw[pU];intro k c1 c2;have cs:iZ g t [s] p k:=(wQ wf hs).mpr ⟨r,hr,e,c1⟩;obtain⟨q1,q2⟩:=(pU (l1:=[s]) (l2:=R)).mp h k cs c2;exact⟨Dh.mp ((sU wf hs).mp q1) r hr e,q2⟩
theorem Ts{g:Lr}{t:T}{s p j m:Nat}{R:Ln}(h:RA g t (s::R) p j)(c1:iZ g t [s] p m):RA g t R m j:=by
 by_cases c2:iZ g t R m j
 .exact((pU (l1:=[s]) (l2:=R)).mp h m c1 c2).2
 .exact RA.Hd c2
theorem PM{g t l i j}(h:RA g t l i j):∃L,qS g t l i j L/\iL g t l i j=some L.length:=by obtain⟨n,e⟩:=Af h;obtain⟨L,h1,h2⟩:=(kD.mp e).2.all;exact⟨L,h1,by rw[e,h2]⟩
end Tw
namespace Tw
open Rc14
def UP(g:Lr)(t:T)(a b:Nat×Nat):Prop:=∃r,Sq g r/\r.left=a.1/\∃l1 l2,r.right=l1++b.1::l2/\iZ g t l1 a.2 b.2
theorem eh{g l w rs}{t:T}{i k:Nat}(d:D g l w rs)(h1:i<=k)(h2:k<=t.length)(e:w=dS t i k):iZ g t l i k:=⟨rs,d.JF h1 h2 e⟩
theorem P7{g l}{t:T}{i k:Nat}(h:iZ g t l i k):∃rs,D g l (dS t i k) rs:=let ⟨rs,d⟩:=h;⟨rs,d.toD⟩
theorem Te{t:T}{i k:Nat}(h:i<=k)(h2:k<=t.length):t.take k=t.take i++dS t i k:=by
 have e:=lZ (t:=t) (i:=0) (cI i) h;have z:∀j,dS t 0 j=t.take j:=fun j=>by simp[dS]
 rw[z,z]at e;exact e.symm
theorem DY{g:Lr}{t:T}{start:Nat}(wf:WF g){x:Nat×Nat}(h:cJ (UP g t) (start,0) x):x.2<=t.length/\∀w rs,D g [x.1] w rs->∃v Ig,D g [start] (t.take x.2++w++v) Ig:=by
 induction h with
 |refl=>exact⟨cI _,fun w rs d=>⟨[],rs,by simpa using d⟩⟩
 |tail _ e ih=>
  rename_i b c _;obtain⟨_,ih⟩:=ih;obtain⟨r,hg,el,l1,l2,er,hc⟩:=e;refine⟨hc.le.2,fun w rs d=>?_⟩;obtain⟨nJ,d1⟩:=P7 hc;obtain⟨w2,rs2,d2⟩:=Mh (g:=g) (l:=l2) fun s hs=>hg.2 s (by rw[er];simp[hs]);obtain⟨k,ek⟩:=sS hg.1;have hl:r.left<256:=(wf r hg.1).1;have dn:D g [b.1] (dS t b.2 c.2++(w++w2)) (k::(nJ++(rs++rs2))):=by rw[<-el];refine D.nN ek hl ?_;rw[er];exact d1.append (d.cons d2)
  obtain⟨v,Ig,d'⟩:=ih _ _ dn;refine⟨w2++v,Ig,?_⟩;have:t.take b.2++(dS t b.2 c.2++(w++w2))++v=t.take c.2++w++(w2++v):=by rw[Te hc.le.1 hc.le.2];simp
  rw[<-this];exact d'
theorem Pn{g:Lr}{t:T}{ch:UInt8}{l w rs}(h:D g l w rs):∀i v,i<=t.length->w=t.drop i++ch::v->∃l1 s l2 k,l=l1++s::l2/\iZ g t l1 i k/\cJ (UP g t) (s,k) (ch.toNat+256,t.length):=by
 induction h with
 |nil=>intro i v _ e;simp at e
 |byte hs d ih=>
  rename_i s l c w rs;intro i v hi e;by_cases q:i=t.length
  .subst q;rw[sC]at e;simp at e;obtain⟨rfl,_⟩:=e;exact⟨[],s,l,t.length,rfl,lX.mpr ⟨rfl,aY _⟩,by rw[hs];exact .refl⟩
  .have oT:i<t.length:=by lia
   rw[cZ oT,kU]at e;obtain⟨e1,e2⟩:=eK e;obtain⟨l1,s',l2,k,e3,c1,r1⟩:=ih (i+1) v (by lia) e2;refine⟨s::l1,s',l2,k,by rw[e3];rfl,kE.mpr ⟨i+1,⟨[],(mS (by lia)).mpr ⟨rfl,rfl,c,?_,hs⟩⟩,c1⟩,r1⟩;rw[bM oT,e1]
 |name hs a b d1 d2 yQ xQ=>
  rename_i s l k r w1 nJ w2 rs2;intro i v hi e;rcases Ta.mp e with ⟨u,e1,e2⟩|⟨u,e1,e2⟩
  .
   have hlen:w1.length<=t.length-i:=by have:=gL jU e1;rw[jK,bA]at this;lia
   have ew:w1=dS t i (i+w1.length):=by unfold dS;rw[List.drop_take,e1];simp
   have eu:u=t.drop (i+w1.length):=by rw[<-List.drop_drop,e1];simp
   obtain⟨l1,s',l2,k',e3,c1,r1⟩:=xQ (i+w1.length) v (by lia) (by rw[<-eu];exact e2);have cs:iZ g t [s] i (i+w1.length):=eh (D.nN a (by lia) d1) (by lia) (by lia) ew|>fun z=>by rw[b]at z;exact z
   exact⟨s::l1,s',l2,k',by rw[e3];rfl,kE.mpr ⟨_,cs,c1⟩,r1⟩
  .
   cases u with
   |nil=>
    simp at e1 e2;have ew:w1=dS t i t.length:=(by rw[e1];simp[dS]);have cs:iZ g t [s] i t.length:=eh (D.nN a (by lia) d1) hi (aY _) ew|>fun z=>by rw[b]at z;exact z
    obtain⟨l1,s',l2,k',e3,c1,r1⟩:=xQ t.length v (aY _) (by rw[sC];simpa using e2.symm);exact⟨s::l1,s',l2,k',by rw[e3];rfl,kE.mpr ⟨_,cs,c1⟩,r1⟩
   |cons x u=>simp at e2;obtain⟨rfl,e2⟩:=e2;obtain⟨l1,s',l2,k',e3,c1,r1⟩:=yQ i u hi e1;refine⟨[],s,l,i,rfl,lX.mpr ⟨rfl,hi⟩,cJ.head (b:=(s',k')) ⟨r,⟨aG a,vH d1⟩,b,l1,l2,e3,c1⟩ r1⟩
theorem QP{g:Lr}{t:T}{start:Nat}{ch:UInt8}(wf:WF g):IQ g start t ch↔cJ (UP g t) (start,0) (ch.toNat+256,t.length):=by
 constructor
 .rintro⟨v,rs,d⟩;obtain⟨l1,s,l2,k,e,c1,r1⟩:=Pn (t:=t) (ch:=ch) d 0 v (cI _) (by simp);cases l1 with
  |nil=>simp at e;obtain⟨rfl,_⟩:=e;have:=(lX.mp c1).1;subst this;exact r1
  |cons x l1=>simp at e
 .intro h;obtain⟨_,f⟩:=DY wf h;obtain⟨v,Ig,d⟩:=f [ch] [] (D.Nv rfl);refine⟨v,Ig,?_⟩;simpa using d
def jL(F:Nat->Option Nat):Ln->Option Nat
 |[]=>some 0
 |s::l=>match F s,jL F l with
  |some a,some b=>some (a+b)
  |_,_=>none
structure LenS(g:Lr)(F:Nat->Option Nat):Prop where
 byte:∀s,256<=s->F s=if s<512 then some 1 else none
 sound:∀s n,F s=some n->∃w rs,D g [s] w rs/\w.length=n
theorem xK{g F}(h:LenS g F):∀{l n},jL F l=some n->∃w rs,D g l w rs/\w.length=n
 |[],n,e=>⟨[],[],.nil,by cases e;rfl⟩
 |s::l,n,e=>by
  unfold jL at e;split at e
  .rename_i a b e1 e2;cases e;obtain⟨w1,nJ,d1,q1⟩:=h.sound s a e1;obtain⟨w2,rs2,d2,q2⟩:=xK h e2;exact⟨_,_,d1.cons d2,by rw[bA,q1,q2]⟩
  .cases e
theorem LenS.put{g F}(wf:WF g)(h:LenS g F){r:Rule}(hr:r∈g){n:Nat}(e:jL F r.right=some n):LenS g fun s=>if s=r.left then some n else F s:=by
 have hl:=(wf r hr).1;refine⟨fun s hs=>?_,fun s m q=>?_⟩
 .rw[if_neg (by lia)];exact h.byte s hs
 .split at q
  .rename_i es;cases q;obtain⟨w,rs,d,ew⟩:=xK h e;obtain⟨k,ek⟩:=sS hr;exact⟨w,_,by rw[es];exact D.nN ek hl d,ew⟩
  .exact h.sound s m q
structure qR(g:Lr)(F:Nat->Option Nat):Prop extends LenS g F where
 least:∀{l w rs},D g l w rs->(∀s∈l,s<512)->∃n,jL F l=some n/\n<=w.length
theorem LenS.done{g F}(wf:WF g)(h:LenS g F)(cl:∀r∈g,∀n,jL F r.right=some n->∃m,F r.left=some m/\m<=n):qR g F:=by
 refine⟨h,?_⟩;intro l w rs d;induction d with
 |nil=>intro _;exact⟨0,rfl,cI _⟩
 |byte hs d ih=>rename_i s l c w rs;intro hl;obtain⟨n,e,q⟩:=ih fun x hx=>hl x (aD _ hx);have:=hl s aF;refine⟨1+n,?_,by rw[cV];lia⟩;unfold jL;rw[h.byte s (by lia),if_pos this,e]
 |name hs a b d1 d2 yQ xQ=>rename_i s l k r w1 nJ w2 rs2;intro hl;obtain⟨n2,e2,q2⟩:=xQ fun x hx=>hl x (aD _ hx);have hr:=aG a;obtain⟨n1,e1,q1⟩:=yQ (wf r hr).2;obtain⟨m,em,qm⟩:=cl r hr n1 e1;refine⟨m+n2,?_,by rw[bA];lia⟩;unfold jL;rw[<-b,em,e2]
theorem qR.Hf{g F}(h:qR g F){s:Nat}(hs:s<512):(F s).isSome=true↔Mk g s:=by
 constructor
 .intro e;obtain⟨n,e⟩:=fR.mp e;obtain⟨w,rs,d,_⟩:=h.sound s n e;exact⟨w,rs,d⟩
 .rintro⟨w,rs,d⟩;obtain⟨n,e,_⟩:=h.least d (by simpa using hs);unfold jL at e;split at e
  .rename_i a b e1 _;rw[e1];rfl
  .cases e
theorem mN{F:Nat->Option Nat}{s n}:jL F [s]=some n↔F s=some n:=by unfold jL;cases h:F s<;>simp[jL]
theorem qR.Vi{g F}(h:qR g F){s:Nat}(hs:s<512):F s=some 0↔Em g s:=by
 constructor
 .intro e;obtain⟨w,rs,d,q⟩:=h.sound s 0 e;rw[Wr]at q;subst q;exact⟨rs,d⟩
 .rintro⟨rs,d⟩;obtain⟨n,e,q⟩:=h.least d (by simpa using hs);rw[mN]at e;simp at q;rw[e,q]
theorem Li{F:Nat->Option Nat}:∀{l n},jL F l=some n->∀s∈l,∃m,F s=some m
 |s::l,n,e,x,hx=>by
  unfold jL at e;split at e
  .rename_i a b e1 e2;rcases aW.mp hx with rfl|hx
   .exact⟨a,e1⟩
   .exact Li e2 x hx
  .cases e
theorem Qr{F:Nat->Option Nat}:∀{l:Ln},(∀s∈l,∃m,F s=some m)->∃n,jL F l=some n
 |[],_=>⟨0,rfl⟩
 |s::l,h=>by obtain⟨a,e1⟩:=h s aF;obtain⟨b,e2⟩:=Qr fun x hx=>h x (aD _ hx);exact⟨a+b,by unfold jL;rw[e1,e2]⟩
def SR(g:Lr)(F:Nat->Option Nat)(most:Nat)(r:Rule):Prop:=r∈g/\∃n,jL F r.right=some n/\F r.left=some n/\n<=most
def mI(X:Nat->Option T):Ln->Option T
 |[]=>some []
 |s::l=>match X s,mI X l with
  |some a,some b=>some (a++b)
  |_,_=>none
structure xY(g:Lr)(F:Nat->Option Nat)(most:Nat)(X:Nat->Option T):Prop where
 byte:∀s,256<=s->X s=if s<512 then some [eA (s-256)]else none
 sound:∀s w,s<256->X s=some w->(∃rs,D g [s] w rs)/\F s=some w.length/\w.length<=most
theorem xY.any{g F most X}(hF:LenS g F)(h:xY g F most X){s w}(e:X s=some w):(∃rs,D g [s] w rs)/\F s=some w.length:=by
 by_cases hs:s<256
 .exact⟨(h.sound s w hs e).1,(h.sound s w hs e).2.1⟩
 .rw[h.byte s (by lia)]at e;split at e
  .rename_i q;cases e;refine⟨⟨[],D.Nv (Nu (by lia) q)⟩,?_⟩;rw[hF.byte s (by lia),if_pos q];rfl
  .cases e
theorem Cp{g F most X}(hF:LenS g F)(h:xY g F most X):∀{l w},mI X l=some w->(∃rs,D g l w rs)/\jL F l=some w.length
 |[],w,e=>by cases e;exact⟨⟨[],.nil⟩,rfl⟩
 |s::l,w,e=>by
  unfold mI at e;split at e
  .rename_i a b e1 e2;cases e;obtain⟨⟨nJ,d1⟩,q1⟩:=h.any hF e1;obtain⟨⟨rs2,d2⟩,q2⟩:=Cp hF h e2;refine⟨⟨_,d1.cons d2⟩,?_⟩;unfold jL;rw[q1,q2,bA]
  .cases e
theorem xY.put{g F most X}(wf:WF g)(hF:LenS g F)(h:xY g F most X){r:Rule}(hr:SR g F most r){w:T}(e:mI X r.right=some w):xY g F most fun s=>if s=r.left then some w else X s:=by
 obtain⟨hg,n,e1,e2,e3⟩:=hr;have hl:=(wf r hg).1;refine⟨fun s hs=>?_,fun s v hs q=>?_⟩
 .rw[if_neg (by lia)];exact h.byte s hs
 .split at q
  .rename_i es;cases q;obtain⟨⟨rs,d⟩,ew⟩:=Cp hF h e;obtain⟨k,ek⟩:=sS hg;rw[e1]at ew;cases ew;exact⟨⟨_,by rw[es];exact D.nN ek hl d⟩,by rw[es];exact e2,e3⟩
  .exact h.sound s v hs q
theorem xY.done{g F most X}(wf:WF g)(hF:qR g F)(h:xY g F most X)(cl:∀r,SR g F most r->∀w,mI X r.right=some w->∃v,X r.left=some v/\LE v w):
  ∀{l w rs},D g l w rs->(∀s∈l,s<512)->jL F l=some w.length->(∀s∈l,∀n,s<256->F s=some n->n<=most)->∃v,mI X l=some v/\LE v w:=by
 intro l w rs d
 induction d with
 |nil=>intro _ _ _;exact⟨[],rfl,.refl _⟩
 |byte hs d ih=>
  rename_i s l c w rs;intro hl e hm;have h5:=hl s aF
  have e':jL F l=some w.length:=by
   unfold jL at e;rw[hF.byte s (by lia),if_pos h5]at e;cases q:jL F l with
   |none=>rw[q]at e;cases e
   |some b=>rw[q]at e;have:=bC e;rw[cV]at this;congr 1;lia
  obtain⟨v,ev,le⟩:=ih (fun x hx=>hl x (aD _ hx)) e' fun x hx=>hm x (aD _ hx);refine⟨c::v,?_,LE.app (a:=[c]) (a':=[c]) (.refl _) le⟩;unfold mI;rw[h.byte s (by lia),if_pos h5,ev];have:eA (s-256)=c:=by rw[hs];simp
  rw[this];rfl
 |name hs a b d1 d2 yQ xQ=>
  rename_i s l k r w1 nJ w2 rs2;intro hl e hm;have hr:=aG a;obtain⟨m1,e1,q1⟩:=hF.least d1 (wf r hr).2;obtain⟨m2,e2,q2⟩:=hF.least d2 fun x hx=>hl x (aD _ hx);have ds:D g [s] w1 (k::nJ):=by rw[<-b];exact D.nN a (by lia) d1
  obtain⟨m0,e0,q0⟩:=hF.least ds (by simp;lia);rw[mN]at e0;unfold jL at e;rw[e0,e2]at e;have e:=bC e;rw[bA]at e;have z1:m0=w1.length:=by lia
  have z2:m2=w2.length:=by lia
  obtain⟨x,rsx,dx,ex⟩:=xK hF.toLenS e1;have dxs:D g [s] x (k::rsx):=by rw[<-b];exact D.nN a (by lia) dx
  obtain⟨m3,e3,q3⟩:=hF.least dxs (by simp;lia);rw[mN,e0]at e3;cases e3;have z3:m1=w1.length:=by lia
  have K6:w1.length<=most:=hm s aF w1.length hs (by rw[e0,z1]);have sr:SR g F most r:=⟨hr,w1.length,by rw[e1,z3],by rw[b,e0,z1],K6⟩
  have ou:∀y∈r.right,∀n,y<256->F y=some n->n<=most:=by
   intro y hy n _ ey
   have:∀{l:Ln} {n m y},jL F l=some n->y∈l->F y=some m->m<=n:=by
    intro l;induction l with
    |nil=>intro n m y _ hy _;simp at hy
    |cons z l ih=>
     intro n m y e hy ey;unfold jL at e;split at e
     .rename_i a b f1 f2;cases e;rcases aW.mp hy with rfl|hy
      .rw[ey]at f1;cases f1;lia
      .have:=ih f2 hy ey;lia
     .cases e
   have:=this e1 hy ey;lia
  obtain⟨v1,ev1,S9⟩:=yQ (wf r hr).2 (by rw[e1,z3]) ou;obtain⟨v,ev,le⟩:=cl r sr v1 ev1;obtain⟨v2,ev2,ng⟩:=xQ (fun x hx=>hl x (aD _ hx)) (by rw[e2,z2]) fun x hx=>hm x (aD _ hx);refine⟨v++v2,?_,LE.app (le.trans S9) ng⟩;unfold mI;rw[<-b,ev,ev2]
theorem xY.short{g F most X}(wf:WF g)(hF:qR g F)(h:xY g F most X)(cl:∀r,SR g F most r->∀w,mI X r.right=some w->∃v,X r.left=some v/\LE v w){s n:Nat}(hs:s<256)(e:F s=some n)(hn:n<=most):∃y,X s=some y/\sY g s y/\y.length=n:=by
 have cx:= @xY.done g F most X wf hF h cl;obtain⟨w,rs,d,ew⟩:=hF.sound s n e;obtain⟨v,ev,_⟩:=cx d (by simp;lia) (by rw[mN,e,ew]) (by simp;intro m _ em;rw[e]at em;cases em;exact hn)
 have hv:X s=some v:=by
  unfold mI at ev;cases q:X s with
  |none=>rw[q]at ev;cases ev
  |some a=>rw[q]at ev;simp[mI]at ev;rw[ev]
 obtain⟨d',el,_⟩:=h.sound s v hs hv;rw[e]at el;cases el;refine⟨v,hv,⟨d',fun x rsx dx=>?_⟩,rfl⟩;obtain⟨m,em,qm⟩:=hF.least dx (by simp;lia);rw[mN,e]at em;cases em;by_cases q:v.length=x.length
 .obtain⟨v',V6,le'⟩:=cx dx (by simp;lia) (by rw[mN,e,q]) (by simp;intro m _ em;rw[e]at em;cases em;exact hn);have:v'=v:=by unfold mI at V6;rw[hv]at V6;simp[mI]at V6;exact V6.symm
  rw[<-this];exact le'
 .exact .inr (lL.mpr (.inl (by lia)))
end Tw
namespace Tw
open Rc14
def sR(g:Lr)(a b:Nat):Prop:=∃r,Sq g r/\r.left=a/\b∈r.right
def yA(g:Lr)(a b:Nat)(l:Ln):Prop:=∃r,Sq g r/\r.left=a/\∃l1 l2,r.right=l1++b::l2/\l=l1++l2
theorem tQ{g a b}:sR g a b↔∃l,yA g a b l:=by
 constructor
 .rintro⟨r,h1,h2,h3⟩;obtain⟨l1,l2,e⟩:=Gj h3;exact⟨_,r,h1,h2,l1,l2,e,rfl⟩
 .rintro⟨l,r,h1,h2,l1,l2,e,_⟩;exact⟨r,h1,h2,by rw[e];simp⟩
theorem sR.left{g a b}(wf:WF g)(h:sR g a b):a<256:=by obtain⟨r,h1,h2,_⟩:=h;rw[<-h2];exact(wf r h1.1).1
theorem zS{g a b}(wf:WF g)(hb:b<256):cJ (sR g) a b↔cJ (kW g) a b:=by
 constructor
 .intro h;induction h with
  |refl=>exact .refl
  |tail h1 h2 ih=>have hl:=h2.left wf;obtain⟨r,q1,q2,q3⟩:=h2;exact .tail (ih hl) ⟨r,q1,q2,q3,hb⟩
 .intro h;exact h.mono fun a b ⟨r,q1,q2,q3,_⟩=>⟨r,q1,q2,q3⟩
theorem TB{g:Lr}{l w rs}(d:D g l w rs):w≠[]->∃s∈l,∃b,256<=b/\cJ (sR g) s b:=by
 induction d with
 |nil=>intro h;exact absurd rfl h
 |byte hs d ih=>rename_i s l c w rs;intro _;exact⟨s,aF,s,by lia,.refl⟩
 |name hs a b d1 d2 yQ xQ=>
  rename_i s l k r w1 nJ w2 rs2;intro h;by_cases q:w1=[]
  .obtain⟨x,hx,y,hy,hr⟩:=xQ fun e=>h (by rw[q,e];rfl);exact⟨x,aD _ hx,y,hy,hr⟩
  .obtain⟨x,hx,y,hy,hr⟩:=yQ q;exact⟨s,aF,y,hy,.head ⟨r,⟨aG a,vH d1⟩,b,hx⟩ hr⟩
theorem PJ{g:Lr}(wf:WF g){s x}(h:cJ (sR g) s x):Fi g x->Fi g s:=by
 induction h with
 |refl=>exact id
 |tail h1 h2 ih=>intro hf;have hl:=h2.left wf;obtain⟨r,q1,q2,q3⟩:=h2;exact ih ((HW wf hl).mpr ⟨r,q1.1,q2,q1.2,_,q3,hf⟩)
theorem cJ.sym{g:Lr}(wf:WF g){s x}(hs:s<512)(h:cJ (sR g) s x):x<512:=by
 cases h with
 |refl=>exact hs
 |tail _ h2=>obtain⟨r,q1,_,q3⟩:=h2;exact(wf r q1.1).2 _ q3
theorem TC{g:Lr}(wf:WF g){s:Nat}(hs:s<512):Fi g s↔∃b,256<=b/\cJ (sR g) s b:=by
 constructor
 .rintro⟨c,w,rs,d⟩;obtain⟨x,hx,b,hb,hr⟩:=TB d (by simp);simp at hx;subst hx;exact⟨b,hb,hr⟩
 .rintro⟨b,hb,hr⟩;exact PJ wf hr (Fi.byte hb (hr.sym wf hs))
theorem KN{g:Lr}(wf:WF g){s:Nat}(E:Nat->Nat->Prop)(hE:∀a b,E a b↔∃l,yA g a b l/\cJ (sR g) s a/\∀x∈l,Em g x):
  (∃a b,E a b/\cJ E b a)↔∃a,cJ (kW g) s a/\∃b,sZ g a b/\cJ (sZ g) b a:=by
 have left:∀{a b},E a b->a<256:=fun h=>by obtain⟨l,q,_⟩:=(hE _ _).mp h;exact(tQ.mpr ⟨l,q⟩).left wf
 have bare:∀{a b},b<256->E a b->sZ g a b:=fun hb h=>by obtain⟨l,⟨r,q1,q2,l1,l2,q3,q4⟩,_,q5⟩:=(hE _ _).mp h;exact⟨r,q1,q2,hb,l1,l2,q3,fun x hx=>q5 x (by rw[q4];exact hx)⟩
 constructor
 .rintro⟨a,b,h,hr⟩;have ha:=left h
  have hb:b<256:=by
   rcases hr.xW with e|⟨c,h1,_⟩
   .rw[e];exact ha
   .exact left h1
  have x8:∀{x y},cJ E x y->y<256->cJ (sZ g) x y:=by
   intro x y hr;induction hr with
   |refl=>intro _;exact .refl
   |tail h1 h2 ih=>intro hy;exact .tail (ih (left h2)) (bare hy h2)
  obtain⟨l,_,q,_⟩:=(hE _ _).mp h;exact⟨a,(zS wf ha).mp q,b,bare hb h,x8 hr ha⟩
 .rintro⟨a,h1,b,h2,h3⟩;have Pa:∀{x y},cJ (sR g) s x->sZ g x y->E x y/\cJ (sR g) s y:=fun hx h=>by obtain⟨r,q1,q2,q3,l1,l2,q4,q5⟩:=h;have hs:yA g _ _ (l1++l2):=⟨r,q1,q2,l1,l2,q4,rfl⟩;exact⟨(hE _ _).mpr ⟨_,hs,hx,q5⟩,.tail hx (tQ.mpr ⟨_,hs⟩)⟩
  have SQ:cJ (sR g) s a:=h1.mono fun a b ⟨r,q1,q2,q3,_⟩=>⟨r,q1,q2,q3⟩;obtain⟨e1,e2⟩:=Pa SQ h2
  have:∀{y},cJ (sZ g) b y->cJ E b y/\cJ (sR g) s y:=by
   intro y hr;induction hr with
   |refl=>exact⟨.refl,e2⟩
   |tail h1 h2 ih=>obtain⟨q1,q2⟩:=Pa ih.2 h2;exact⟨.tail ih.1 q1,q2⟩
  exact⟨a,b,e1,(this h3).1⟩
theorem KL{g:Lr}(wf:WF g){s:Nat}:
  (∃a b l,yA g a b l/\cJ (sR g) s a/\(∃x∈l,Fi g x)/\cJ (sR g) b a)↔∃a,cJ (kW g) s a/\∃b,AY g a b/\cJ (kW g) b a:=by
 constructor
 .rintro⟨a,b,l,h,q,f,hr⟩;have ha:=(tQ.mpr ⟨l,h⟩).left wf
  have hb:b<256:=by
   rcases hr.xW with e|⟨c,h1,_⟩
   .rw[e];exact ha
   .exact h1.left wf
  obtain⟨r,q1,q2,l1,l2,q3,q4⟩:=h;subst q4;exact⟨a,(zS wf ha).mp q,b,⟨r,q1,q2,hb,l1,l2,q3,f⟩,(zS wf ha).mp hr⟩
 .rintro⟨a,h1,b,⟨r,q1,q2,q3,l1,l2,q4,q5⟩,h3⟩;have m:∀{x y},cJ (kW g) x y->cJ (sR g) x y:=fun h=>h.mono fun a b ⟨r,q1,q2,q3,_⟩=>⟨r,q1,q2,q3⟩;exact⟨a,b,_,⟨r,q1,q2,l1,l2,q4,rfl⟩,m h1,q5,m h3⟩
end Tw
namespace Tw
open Rc14
structure PL where
 k:Nat
 pl:Nat
 tb:Nat
 d:Nat
 ah:Nat->Cn
 bf:Nat->Cn
def lE(g:Lr)(k:Nat):Ln:=((g[k]?).map fun r=>r.right).getD []
theorem rH{g:Lr}{k:Nat}{r:Rule}(h:g[k]? =some r):lE g k=r.right:=by unfold lE;rw[h];rfl
def bh(g:Lr):List PL->Ln
 |[]=>[]
 |P::S=>(lE g P.k).drop (P.d+1)++bh g S
def row(g:Lr):List PL->Ln
 |[]=>[]
 |P::S=>(lE g P.k).drop P.d++bh g S
def LW(g:Lr)(t:T)(start:Nat):List PL->Nat->Ln->Nat->Prop
 |[],p,u,s=>p=0/\u=[]/\s=start
 |P::S,p,bW,s=>∃r u v,g[P.k]? =some r/\r.right[P.d]? =some s/\bW=u++P.k::v/\u.length=P.tb/\DP g t (r.right.take P.d) P.pl p v/\yB g t r.left P.pl (P.k::v) P.ah/\(P.bf=fun e=>iL g t (bh g S) e t.length)/\LW g t start S P.pl u r.left
def LV(g:Lr)(t:T)(start:Nat)(P:PL)(S:List PL)(p:Nat)(bW:Ln):Prop:=
 ∃r u v,g[P.k]? =some r/\P.d<=r.right.length/\bW=u++P.k::v/\u.length=P.tb/\DP g t (r.right.take P.d) P.pl p v/\yB g t r.left P.pl (P.k::v) P.ah/\(P.bf=fun e=>iL g t (bh g S) e t.length)/\LW g t start S P.pl u r.left
theorem LV.fe{g t start P S p bW s}(h:LV g t start P S p bW)(e:(lE g P.k)[P.d]? =some s):LW g t start (P::S) p bW s:=by obtain⟨r,u,v,h1,h2,h3⟩:=h;rw[rH h1]at e;exact⟨r,u,v,h1,e,h3⟩
theorem LW.len{g t start}:∀{S p bW s},LW g t start S p bW s->S.length<=bW.length
 |[],_,_,_,h=>by simp
 |P::S,p,bW,s,⟨r,u,v,_,_,h3,_,_,_,_,h⟩=>by have:=h.len;rw[h3];simp;lia
theorem LV.len{g t start P S p bW}(h:LV g t start P S p bW):(P::S).length<=bW.length:=by obtain⟨r,u,v,_,_,h3,_,_,_,_,h⟩:=h;have:=h.len;rw[h3];simp;lia
structure At(g:Lr)(t:T)(cE:Ln)(x p:Nat)(bW:Ln)(R:Ln):Prop where
 ra:RA g t R p t.length
 ex:∃L rest,qS g t R p t.length L/\L[x]? =some rest/\bW++rest=cE
theorem At.rest{g t cE x p bW R}(h:At g t cE x p bW R):bW.length<=cE.length:=by obtain⟨L,rest,_,_,e⟩:=h.ex;rw[<-e,bA];lia
theorem IA{l:Ln}{d s:Nat}(h:l[d]? =some s):l.drop d=s::l.drop (d+1):=by obtain⟨hd,e⟩:=aL.mp h;rw[cZ hd,e]
theorem PB{g:Lr}{P:PL}{S:List PL}{s:Nat}(e:(lE g P.k)[P.d]? =some s):row g (P::S)=s::bh g (P::S):=by show(lE g P.k).drop P.d++bh g S=s::((lE g P.k).drop (P.d+1)++bh g S);rw[IA e];rfl
theorem FT{l:Ln}{d s:Nat}(h:l[d]? =some s):l.take (d+1)=l.take d++[s]:=by rw[vR,h];rfl
theorem At.byte{g t cE x p bW R s}(hs:256<=s)(h:At g t cE x p bW (s::R)):(∃c,t[p]? =some c/\s=c.toNat+256)/\At g t cE x (p+1) bW R:=by obtain⟨L,rest,hL,hx,e⟩:=h.ex;have hd:=(hL.1 rest).mp (aG hx);obtain⟨c,hc,es,_⟩:=(Fs hs).mp hd;have c1:iZ g t [s] p (p+1):=⟨[],(mS hs).mpr ⟨rfl,rfl,c,hc,es⟩⟩;exact⟨⟨c,hc,es⟩,Ts h.ra c1,L,rest,hL.byte es hc,hx,e⟩
theorem LV.byte{g t start P S p bW s}(h:LV g t start P S p bW)(e:(lE g P.k)[P.d]? =some s)(hs:256<=s)(hc:∃c,t[p]? =some c/\s=c.toNat+256):LV g t start {P with d:=P.d+1} S (p+1) bW:=by obtain⟨r,u,v,h1,h2,h3,h4,h5,h6,h7,h8⟩:=h;rw[rH h1]at e;have hd:=(aL.mp e).1;refine⟨r,u,v,h1,hd,h3,h4,?_,h6,h7,h8⟩;show DP g t (r.right.take (P.d+1)) P.pl (p+1) v;rw[FT e];have:=h5.append (l2:=[s]) (rs2:=[]) ((mS hs).mpr ⟨rfl,rfl,hc⟩);rwa[dN]at this
noncomputable def W3(g:Lr)(t:T)(P:PL)(ahc:Nat->Cn):PL:={P with d:=P.d+1,ah:=fun e=>iT (P.ah e) (jZ ((bD (t.length+1)).map fun mid=>iB (ahc mid) (iL g t ((lE g P.k).drop (P.d+1)) mid e)))}
theorem LW.put{g t start P S p m bW c lA ahc}(wf:WF g)(h:LW g t start (P::S) p bW c)(hc:c<256)(d2:DP g t [c] p m lA)(hk:yB g t c p lA ahc):LV g t start (W3 g t P ahc) S m (bW++lA):=by
 obtain⟨r,u,v,h1,h2,h3,h4,h5,h6,h7,h8⟩:=h;have hd:=(aL.mp h2).1;have hl:=(wf r (aG h1)).1;refine⟨r,u,v++lA,h1,hd,by rw[h3];simp[W3],h4,?_,?_,h7,h8⟩
 .show DP g t (r.right.take (P.d+1)) P.pl m (v++lA);rw[FT h2];exact h5.append d2
 .have el:r.right=r.right.take P.d++c::r.right.drop (P.d+1):=by rw[<-IA h2,jE]
  have:=yB.put wf h1 hl el hc h5 d2 h6 hk;show yB g t r.left P.pl (P.k::(v++lA)) fun e=>iT (P.ah e) (jZ ((bD (t.length+1)).map fun mid=>iB (ahc mid) (iL g t ((lE g P.k).drop (P.d+1)) mid e)));rw[rH h1];exact this
theorem LV.whole{g t start P S p bW r}(wf:WF g)(h:LV g t start P S p bW)(hr:g[P.k]? =some r)(e:P.d=r.right.length):∃u lA,bW=u++lA/\u.length=P.tb/\DP g t [r.left] P.pl p lA/\yB g t r.left P.pl lA P.ah/\LW g t start S P.pl u r.left:=by obtain⟨r',u,v,h1,h2,h3,h4,h5,h6,h7,h8⟩:=h;rw[hr]at h1;cases h1;rw[e,bX]at h5;exact⟨u,P.k::v,h3,h4,DP.nN hr (wf r (aG hr)).1 h5,h6,h8⟩
theorem At.nil{g t cE x p bW}(h:At g t cE x p bW []):bW=cE:=by obtain⟨L,rest,hL,hx,e⟩:=h.ex;have hd:=(hL.1 rest).mp (aG hx);rw[<-e,hd.nil_inv.2,dN]
theorem At.o6{g t cE x p bW c R m lA a b ahc}(wf:WF g)(hc:c<256)(h:At g t cE x p bW (c::R))(d:DP g t [c] p m lA)(hk:yB g t c p lA ahc)
  (ha:jZ ((bD (t.length+1)).map fun e=>iB (ahc e) (iL g t R e t.length))=some a) (hb:iL g t R m t.length=some b) (h1:a<=x) (h2:x<a+b):At g t cE (x-a) m (bW++lA) R:=by
 obtain⟨L,rest,hL,hx,e⟩:=h.ex
 obtain⟨a',ea,na⟩:=hk.total wf hc h.ra d
 rw[ha]at ea
 cases ea
 have Rn:RA g t R m t.length:=Ts h.ra ⟨_,d⟩
 obtain⟨L',MN,ec⟩:=PM Rn
 rw[hb]at ec
 cases ec
 refine⟨Rn,L',?_⟩
 have:=UJ d hL MN na h1 h2
 rw[hx]at this
 cases e':L'[x-a]? with
 |none=>rw[e']at this;cases this
 |some r'=>rw[e']at this;cases this;exact⟨r',MN,rfl,by rw[eV];exact e⟩
theorem At.total{g t cE x p bW c R m lA ahc}(wf:WF g)(hc:c<256)(h:At g t cE x p bW (c::R))(d:DP g t [c] p m lA)(hk:yB g t c p lA ahc):∃a,jZ ((bD (t.length+1)).map fun e=>iB (ahc e) (iL g t R e t.length))=some a:=by obtain⟨a,ea,_⟩:=hk.total wf hc h.ra d;exact⟨a,ea⟩
theorem At.behind{g t cE x p bW c R m}(h:At g t cE x p bW (c::R))(d:iZ g t [c] p m):∃b,iL g t R m t.length=some b:=Af (Ts h.ra d)
def Jt(g:Lr)(cE:Ln)(c:Nat)(bW:Ln)(f:Nat->List (Ln))(i x:Nat):Prop:=∃rest,(xD f (nZ g c i))[x]? =some rest/\bW++rest=cE
theorem At.open{g t cE x p bW c R}(wf:WF g)(hc:c<256)(h:At g t cE x p bW (c::R)):∃f:Nat->List (Ln),(∀(k:Nat) r,g[k]? =some r->r.left=c->RA g t (r.right++R) p t.length/\qS g t (r.right++R) p t.length (f k)/\iL g t (r.right++R) p t.length=some (f k).length)/\Jt g cE c bW f 0 x:=by
 have hf:∀k:Nat,∃L:List (Ln),∀r:Rule,g[k]? =some r->r.left=c->RA g t (r.right++R) p t.length/\qS g t (r.right++R) p t.length L/\iL g t (r.right++R) p t.length=some L.length:=by
  intro k;cases e:g[k]? with
  |none=>exact⟨[],fun r h=>by cases h⟩
  |some r=>
   by_cases q:r.left=c
   .have Rn:=XS wf hc h.ra (aG e) q;obtain⟨L,h1,h2⟩:=PM Rn;exact⟨L,fun r' h _=>by cases h;exact⟨Rn,h1,h2⟩⟩
   .exact⟨[],fun r' h h'=>by cases h;exact absurd h' q⟩
 obtain⟨f,hf⟩:=cP hf;refine⟨f,fun k r e q=>hf k r e q,?_⟩;obtain⟨L,rest,hL,hx,e⟩:=h.ex;have:=QC (R:=R) hc f fun k r e q=>(hf k r e q).2.1;have eL:=hL.uniq this;rw[eL]at hx;exact⟨rest,hx,e⟩
theorem Jt.skip{g cE c bW f i x r}(h:Jt g cE c bW f i x)(e:g[i]? =some r)(q:r.left≠c):Jt g cE c bW f (i+1) x:=by obtain⟨rest,h1,h2⟩:=h;rw[vJ e,if_neg q]at h1;exact⟨rest,h1,h2⟩
theorem Jt.past{g cE c bW f i x r}(h:Jt g cE c bW f i x)(e:g[i]? =some r)(q:r.left=c)(hx:¬x<(f i).length):Jt g cE c bW f (i+1) (x-(f i).length):=by obtain⟨rest,h1,h2⟩:=h;rw[vJ e,if_pos q,Iw,if_neg hx]at h1;exact⟨rest,h1,h2⟩
theorem Jt.here{g t cE c p bW R f i x r}(h:Jt g cE c bW f i x)(e:g[i]? =some r)(q:r.left=c)(hx:x<(f i).length)(Rn:RA g t (r.right++R) p t.length)(hf:qS g t (r.right++R) p t.length (f i)):At g t cE x p (bW++[i]) (r.right++R):=by
 obtain⟨rest,h1,h2⟩:=h;rw[vJ e,if_pos q,Iw,if_pos hx]at h1;cases e':(f i)[x]? with
 |none=>rw[e']at h1;cases h1
 |some a=>rw[e']at h1;cases h1;exact⟨Rn,f i,a,hf,e',by rw[<-h2];simp⟩
theorem Jt.end{g cE c bW f i x}(h:Jt g cE c bW f i x)(hi:g.length<=i):False:=by obtain⟨rest,h1,_⟩:=h;rw[Ud hi]at h1;simp[xD]at h1
noncomputable def zc(g:Lr)(t:T)(S:List PL)(c p k tb:Nat):PL:=⟨k,p,tb,0,nA g t c p k,fun e=>iL g t (bh g S) e t.length⟩
theorem LW.open{g t start S p bW c k r}(wf:WF g)(h:LW g t start S p bW c)(hc:c<256)(e:g[k]? =some r)(q:r.left=c)(hp:p<=t.length):LV g t start (zc g t S c p k bW.length) S p (bW++[k]):=by
 refine⟨r,bW,[],e,cI _,rfl,rfl,?_,?_,rfl,by rw[q];exact h⟩
 .show DP g t (r.right.take 0) p p [];rw[List.take_zero];exact .nil hp
 .rw[q];exact KH wf hc
theorem Tr{g:Lr}{t:T}{S:List PL}{c p k tb:Nat}{r:Rule}(e:g[k]? =some r):row g (zc g t S c p k tb::S)=r.right++bh g S:=by show(lE g k).drop 0++bh g S=_;rw[rH e,qZ]
end Tw
namespace L2
open PySem PySem.Spec PyProof.Rows
variable {C a b:Addr} {A:gQ} {g':Array GenState} {op:CmpOp} {e tg:Expr} {aT h:Heap} {g:Int->Int->Int} {aI:List (Addr×Obj)} {kw:List (Str×Value)} {ch fp:La} {iA:List Env} {es:List Expr} {body:List Stmt} {us:Lu} {M:Model} {i k t':Nat} {pos:Pos} {P:dJ} {K:aX} {pl:Sem Bool} {s:aZ} {x:Str} {kindOf:Str->Option pN} {mA mg:Str->Option Value} {u:Value} {E Q:Value->aZ->Prop} {f:Value->Value->Sem Value} {w:World}
abbrev iM:=Sum Int Str
def Fh:iM->Value->Bool
 |.inl k,v=>Value.isInt k v
 |.inr x,v=>Value.isStrOf x v
def o4(w:World):iM->Int
 |.inl k=>yX k
 |.inr x=>hashStr w x
theorem kK:∀{k:iM} {v:Value},Fh k v=true->(∃i t,k=aV i/\v=xE i t)∨(∃x t,k=Ja x/\v=Vu x t)
 |.inl i,v,h=>by obtain⟨t,e⟩:=Value.isInt_shape (k:=i) (v:=v) h;exact .inl ⟨i,t,rfl,e⟩
 |.inr x,v,h=>by obtain⟨t,e⟩:=Value.isStrOf_shape (x:=x) (v:=v) h;exact .inr ⟨x,t,rfl,e⟩
theorem Hk(i:Int)(t:Tok):Fh (.inl i) (.int i t)=true:=by simp[Fh,Value.isInt]
theorem KO(x:Str)(t:Tok):Fh (.inr x) (.str x t)=true:=by simp[Fh,Value.isStrOf]
theorem nv(a b:Int):decide ((aV a:iM)=aV b)=(a==b):=by
 by_cases e:a=b
 .subst e;simp
 .have h:¬(aV a:iM)=aV b:=fun q=>e (kJ q);rw[bH h];exact(lN.mpr e).symm
theorem nk(a b:Str):decide ((Ja a:iM)=Ja b)=decide (a=b):=by
 by_cases e:a=b
 .subst e;simp
 .have h:¬(Ja a:iM)=Ja b:=fun q=>e (Sum.inr.inj q);rw[bH h,bH e]
theorem nu(a:Int)(b:Str):decide ((aV a:iM)=Ja b)=false:=bH (fun q=>nomatch q)
theorem nq(a:Str)(b:Int):decide ((Ja a:iM)=aV b)=false:=bH (fun q=>nomatch q)
def gM(prog:dJ)(w:World):PySem.KeyKind prog w iM where
 is:=Fh
 hash:=o4 w
 inj:=fun v a b ha hb=>by
  rcases kK ha with ⟨i,t,rfl,rfl⟩|⟨x,t,rfl,rfl⟩
  .rcases kK hb with ⟨j,u,rfl,e⟩|⟨y,u,rfl,e⟩
   .injection e with e1 _;rw[e1]
   .exact nomatch e
  .rcases kK hb with ⟨j,u,rfl,e⟩|⟨y,u,rfl,e⟩
   .exact nomatch e
   .injection e with e1 _;rw[e1]
 byValue:=fun k v h=>by rcases kK h with ⟨i,t,rfl,rfl⟩|⟨x,t,rfl,rfl⟩<;>rfl
 pyHash:=fun hv h=>by
  rcases kK hv with ⟨i,t,rfl,rfl⟩|⟨x,t,rfl,rfl⟩
  .exact wpAny_pyHash_int h
  .exact wpAny_pyHash_str h
 eqBool:=fun hu hv h=>by
  rcases kK hu with ⟨i,t,rfl,rfl⟩|⟨x,t,rfl,rfl⟩
  .rcases kK hv with ⟨j,u,rfl,rfl⟩|⟨y,u,rfl,rfl⟩
   .rw[nv]at h;exact wpAny_eqBool_int h
   .rw[nu]at h;exact Vw i t y u _ _ _ _ h
  .rcases kK hv with ⟨j,u,rfl,rfl⟩|⟨y,u,rfl,rfl⟩
   .rw[nq]at h;exact Vv x t j u _ _ _ _ h
   .rw[nk]at h;exact wpAny_eqBool_str h
 «strs»:=fun k x t v h=>by
  rcases kK h with ⟨i,u,rfl,e⟩|⟨y,u,rfl,e⟩
  .exact nomatch e
  .injection e with e1 _;subst e1;cases v<;>rfl
theorem Yl(prog:dJ)(w:World)(i:Int)(t:Tok):(gM prog w).is (.inl i) (.int i t)=true:=Hk i t
theorem Yk(prog:dJ)(w:World)(x:Str)(t:Tok):(gM prog w).is (.inr x) (.str x t)=true:=KO x t
inductive V where
 |iU|bl (b:Bool)|int (i:Int)|str (x:Str)|Wi (b:Array UInt8)|V3 (b:UInt64)|ref (a:Addr)|ty (n:String)
 deriving DecidableEq
abbrev _root_.Lv:=List V
def gC:V->Value->Prop
 |.iU,u=>u=rX
 |.bl b,u=>u=qA b
 |.int i,u=>∃t,u=xE i t
 |.str x,u=>∃t,u=Vu x t
 |.Wi b,u=>∃t,u=Value.bytes b t
 |.V3 b,u=>∃t,u=Value.float b t
 |.ref a,u=>u=dE a
 |.ty n,u=>u=uJ n
abbrev fN:Lv->Lu->Prop:=eZ gC
theorem fN.length{xs:Lv}(r:fN xs us):xs.length=us.length:=iO r
theorem fN.get:∀{xs:Lv} {us:Lu} {i:Nat} {x:V},fN xs us->xs[i]? =some x->∃u,us[i]? =some u/\gC x u
 |_,_,_,_,.nil,e=>by simp at e
 |_,_,0,_,.cons r _,e=>by simp at e;subst e;exact⟨_,rfl,r⟩
 |_,_,i+1,x,.cons _ t,e=>by obtain⟨u,h1,h2⟩:=fN.get (i:=i) (x:=x) t (by simpa using e);exact⟨u,by simpa using h1,h2⟩
theorem fN.append:∀{xs ys:Lv} {us ws:Lu},fN xs us->fN ys ws->fN (xs++ys) (us++ws)
 |_,_,_,_,.nil,s=>s
 |_,_,_,_,.cons r t,s=>.cons r (fN.append t s)
theorem fN.take:∀{xs:Lv} {us:Lu} (n:Nat),fN xs us->fN (xs.take n) (us.take n)
 |_,_,0,_=>.nil
 |_,_,_+1,.nil=>.nil
 |_,_,n+1,.cons r t=>.cons r (fN.take n t)
theorem fN.drop:∀{xs:Lv} {us:Lu} (n:Nat),fN xs us->fN (xs.drop n) (us.drop n)
 |_,_,0,r=>r
 |_,_,_+1,.nil=>.nil
 |_,_,n+1,.cons _ t=>fN.drop n t
def yS:Option V->Option Value->Prop
 |some v,some u=>gC v u
 |none,none=>True
 |_,_=>False
def KV{κ:Type}:List (κ×V)->List (κ×Value)->Prop:=eZ fun(p:κ×V) (q:κ×Value)=>p.1=q.1/\gC p.2 q.2
def kV:iM->V
 |.inl i=>.int i
 |.inr x=>.str x
inductive HO where
 |lst (xs:Lv)
 |tup (xs:Lv)
 |dK (kvs:List (iM×V))|dT (kvs:List (List iM×V))
 |set (S:Int->Bool) (n:Nat)
 |ins (C dx:Addr) (fs:List (Str×V))
 |own (x:Addr)
 |xd (fs:List (Str×V))
 |met (f x:Addr)
 |j0 (lo hi:Int)
 |kN (o:Obj) (u:HO)
 |gp (ps:Array Value)
 |ext (φ:Heap->Prop)
abbrev Hp:=Addr->Option HO
variable {o:HO} {H:Hp} {vs:Lv} {v:V}
def upd(H:Hp)(a:Addr)(o:HO):Hp:=fun b=>if b=a then some o else H b
theorem aC:upd H a o a=some o:=by unfold upd;rw[if_pos rfl]
theorem aH(h:b≠a):upd H a o b=H b:=by unfold upd;rw[if_neg h]
theorem nH{u:HO}:upd (upd H a o) a u=upd H a u:=by funext b;unfold upd;split<;>rfl
theorem QQ{u:HO}(h:H a=some o)(h':H b=some u)(d:o≠u):a≠b:=by intro e;subst e;rw[h]at h';exact d (bC h')
theorem cK(h:H a=some o)(h':H b=none):a≠b:=by intro e;subst e;rw[h]at h';cases h'
section
variable (P:dJ) (w:World)
def mH(H:Hp)(h:Heap)(a:Addr):HO->Prop
 |.lst xs=>xs.length<=sizeLine/\∃(gF:Lu) (n:Nat),fN xs gF/\h.get? a=some {cls:=.type "list",data:=.seq gF.toArray n}
 |.tup xs=>xs.length<=sizeLine/\∃gF:Lu,fN xs gF/\IsTup h a gF.toArray
 |.dK kvs=>kvs.length<=sizeLine/\(a==fS)=false/\∃vs,KV kvs vs/\h.DictOf (gM P w) a vs
 |.dT kvs=>kvs.length<=sizeLine/\(a==fS)=false/\∃xs:List (List iM×Addr×Value),
   eZ (fun(p:List iM×V) (q:List iM×Addr×Value)=>p.1=q.1/\H q.2.1=some (.tup (p.1.map kV))/\gC p.2 q.2.2) kvs xs/\
   ∃o es ep,h.get? a=some o/\o.ExactDict/\o.data=.dict es ep/\es.toList=xs.map (entryOfKey (wX (gM P w)))/\(xs.map (·.1)).Nodup
 |.set S n=>h.SetOf (intKind P w) a S n
 |.ins C dx fs=>H dx=some (.own a)/\fs.length<=1000/\dx≠a/\h.get? a=some (lB C dx)/\
   ∃mA,h.Ns1 dx mA/\(∀f,yS (fs.lookup f) (mA f))/\Wn mA (fs.map (·.1))
 |.own _=>∃o,h.get? a=some o
 |.xd fs=>∃mA,h.Ns1 a mA/\∀f,yS (fs.lookup f) (mA f)
 |.j0 lo hi=>∃t u v,h.get? a=some {cls:=.type "range",data:=.fields #[.int lo t,.int hi u,.int 1 v]}
 |.kN o u=>h.get? a=some o/\mH H h a u
 |.gp ps=>h.get? a=some {cls:=.none,data:=.fields ps}
 |.met f x=>h.get? a=some (Dt (.ref f) (.ref x))
 |.ext φ=>φ h/\(∃o,h.get? a=some o)/\∀h1 h2:Heap,φ h1->(∀o,h1.get? a=some o->h2.get? a=some o)->φ h2
def An(H:Hp)(h:Heap):Prop:=∀a o,H a=some o->mH P w H h a o
end
section
variable {P:dJ} {w:World} {H H':Hp} {h h':Heap} {a:Addr} {o:HO}
theorem mH.lt(x:mH P w H h a o):a<h.objs.size:=by
 cases o with
 |lst xs=>obtain⟨_,_,_,_,e⟩:=x;exact cM e
 |tup xs=>obtain⟨_,_,_,p⟩:=x;exact p.lt
 |dK kvs=>obtain⟨_,_,_,_,o,_,_,e,_⟩:=x;exact cM e
 |dT kvs=>obtain⟨_,_,_,_,o,_,_,e,_⟩:=x;exact cM e
 |set S n=>obtain⟨o,_,_,_,e,_⟩:=x;exact cM e
 |ins C dx fs=>obtain⟨_,_,_,e,_⟩:=x;exact cM e
 |own y=>obtain⟨_,e⟩:=x;exact cM e
 |xd fs=>obtain⟨_,⟨_,_,_,e,_⟩,_⟩:=x;exact cM e
 |j0 lo hi=>obtain⟨_,_,_,e⟩:=x;exact cM e
 |kN ob u=>obtain⟨e,_⟩:=x;exact cM e
 |gp ps=>exact cM (show h.get? a=some _ from x)
 |met f y=>exact cM (show h.get? a=some _ from x)
 |ext φ=>obtain⟨_,⟨_,e⟩,_⟩:=x;exact cM e
theorem Paired.qE{α β:Type}{F G:α->β->Prop}:∀{l₁:List α} {l₂:List β},eZ F l₁ l₂->(∀a b,F a b->G a b)->eZ G l₁ l₂
 |_,_,.nil,_=>.nil
 |_,_,.cons r t,f=>.cons (f _ _ r) (Paired.qE t f)
theorem mH.pO(x:mH P w H h a o)(k:∀b u,(b=a∨H b=some (.own a))->h.get? b=some u->h'.get? b=some u)
  (ho:∀b,H b=some (.own a)->H' b=some (.own a)) (ht:∀b xs,H b=some (.tup xs)->H' b=some (.tup xs)):mH P w H' h' a o:=by
 induction o with
 |lst xs=>obtain⟨z,gF,n,r,e⟩:=x;exact⟨z,gF,n,r,k _ _ (.inl rfl) e⟩
 |tup xs=>obtain⟨z,gF,r,ob,e,c⟩:=x;exact⟨z,gF,r,ob,k _ _ (.inl rfl) e,c⟩
 |dK kvs=>obtain⟨z,y,vs,r,ob,es,ep,e,c⟩:=x;exact⟨z,y,vs,r,ob,es,ep,k _ _ (.inl rfl) e,c⟩
 |dT kvs=>obtain⟨z,y,xs,r,ob,es,ep,e,c⟩:=x;exact⟨z,y,xs,Paired.qE r fun p q z=>⟨z.1,ht _ _ z.2.1,z.2.2⟩,ob,es,ep,k _ _ (.inl rfl) e,c⟩
 |set S n=>obtain⟨ob,es,ep,t,e,c⟩:=x;exact⟨ob,es,ep,t,k _ _ (.inl rfl) e,c⟩
 |ins C dx fs=>obtain⟨d,z,ne,e,mA,⟨od,es,ep,e2,c⟩,r⟩:=x;exact⟨ho _ d,z,ne,k _ _ (.inl rfl) e,mA,⟨od,es,ep,k _ _ (.inr d) e2,c⟩,r⟩
 |own y=>obtain⟨ob,e⟩:=x;exact⟨ob,k _ _ (.inl rfl) e⟩
 |xd fs=>obtain⟨mA,⟨od,es,ep,e,c⟩,r⟩:=x;exact⟨mA,⟨od,es,ep,k _ _ (.inl rfl) e,c⟩,r⟩
 |j0 lo hi=>obtain⟨t,u,v,e⟩:=x;exact⟨t,u,v,k _ _ (.inl rfl) e⟩
 |kN ob u ih=>obtain⟨e,q⟩:=x;exact⟨k _ _ (.inl rfl) e,ih q⟩
 |gp ps=>have e:h.get? a=some {cls:=.none,data:=.fields ps}:=x;show h'.get? a=some {cls:=.none,data:=.fields ps};exact k a _ (.inl rfl) e
 |met f y=>have e:h.get? a=some (Dt (.ref f) (.ref y)):=x;show h'.get? a=some (Dt (.ref f) (.ref y));exact k a _ (.inl rfl) e
 |ext φ=>obtain⟨p,⟨o,e⟩,st⟩:=x;exact⟨st _ _ p fun o q=>k _ _ (.inl rfl) q,⟨o,k _ _ (.inl rfl) e⟩,st⟩
theorem An.lt(x:An P w H h)(e:H a=some o):a<h.objs.size:=(x a o e).lt
theorem An.fresh(x:An P w H h)(e:h.objs.size<=a):H a=none:=by
 cases q:H a with
 |none=>rfl
 |some u=>exact absurd (cA (x.lt q) e) (jR _)
theorem An.kept(x:An P w H h)(k:∀b u,h.get? b=some u->h'.get? b=some u):An P w H h':=fun a o e=>(x a o e).pO (fun b u _ q=>k b u q) (fun _ q=>q) fun _ _ q=>q
theorem An.laid(x:An P w H h)(k:∀b u,h.get? b=some u->h'.get? b=some u)(hp:h.objs.size<=a)(new:mH P w (upd H a o) h' a o):An P w (upd H a o) h':=fun b u e=>by
 have hn:=x.fresh hp;by_cases hb:b=a
 .subst hb;rw[aC]at e;cases e;exact new
 .rw[aH hb]at e;exact(x b u e).pO (fun c v _ q=>k c v q) (fun c q=>by rw[aH (cK q hn)];exact q) fun c xs q=>by rw[aH (cK q hn)];exact q
end
def Rd(H:Hp)(a:Addr)(u:HO):Prop:=H a=some u∨∃o,H a=some (.kN o u)
theorem Rd.ok{u:HO}(r:Rd H a u)(x:An P w H h):mH P w H h a u:=by
 rcases r with r|⟨o,r⟩
 .exact x a u r
 .obtain⟨_,q⟩:=x a _ r;exact q
def bj:Option HO->Prop
 |some (.lst _)=>True
 |some (.dK _)=>True
 |some (.dT _)=>True
 |some (.set _ _)=>True
 |some (.ins _ _ _)=>True
 |some (.ext _)=>True
 |_=>False
section
variable {P:dJ} {w:World} {H:Hp} {h h':Heap} {x e:Addr} {o':HO}
theorem An.write(ok:An P w H h)(mu:bj (H x))(he:e=x∨H e=some (.own x))(k:∀b u,b≠e->h.get? b=some u->h'.get? b=some u)(uv:∃u,h'.get? e=some u)
  (new:mH P w (upd H x o') h' x o'):An P w (upd H x o') h':=fun b u q=>by
 have D3:∀c y,H c=some (.own y)->c≠x:=fun c y r z=>by subst z;rw[r]at mu;exact mu
 have j6:∀c xs,H c=some (.tup xs)->c≠x:=fun c xs r z=>by subst z;rw[r]at mu;exact mu
 by_cases hb:b=x
 .subst hb;rw[aC]at q;cases q;exact new
 .rw[aH hb]at q;by_cases Iu:b=e
  .have q':H b=some (.own x):=by
    rcases he with z|z
    .exact absurd (Iu.trans z) hb
    .rw[Iu];exact z
   rw[q]at q';cases q';obtain⟨v,hv⟩:=uv;exact⟨v,by rw[Iu];exact hv⟩
  .refine(ok b u q).pO (fun c v hc r=>k c v ?_ r) (fun c r=>by rw[aH (D3 c b r)];exact r) fun c xs r=>by rw[aH (j6 c xs r)];exact r
   rcases hc with rfl|hc
   .exact Iu
   .rintro rfl;rcases he with z|z
    .exact D3 c b hc z
    .rw[hc]at z;cases z;exact hb rfl
end
structure Un(fs ex:La)(H H':Hp)(h h':Heap):Prop where
 keep:∀b o,h.get? b=some o->H b=none->b∉fs->b∉ex->h'.get? b=some o
 slot:∀b o,h.get? b=some o->H b=none->b∈fs->b∉ex->∃sl,h'.get? b=some {o with slots:=sl}
 free:∀b o,h.get? b=some o->H b=none->b∉ex->H' b=none
 there:∀b o,h.get? b=some o->b∉ex->∃o',h'.get? b=some o'
 Tc:∀b xs,H b=some (.tup xs)->H' b=some (.tup xs)
 Nc:∀b o u,H b=some (.kN o u)->H' b=some (.kN o u)
 Td:∀b ps,H b=some (.gp ps)->∃more,H' b=some (.gp (ps++more))
section
variable {fs MO ex ex':La} {H H1 H2:Hp} {h h1 h2 h':Heap} {a x e:Addr} {o:HO}
theorem Un.any(u:Un fs ex H H1 h h1){ob:Obj}(q:h.get? b=some ob)(n:H b=none)(hx:b∉ex):∃sl,h1.get? b=some {ob with slots:=sl}:=by
 by_cases hb:b∈fs
 .exact u.slot b ob q n hb hx
 .exact⟨ob.slots,u.keep b ob q n hb hx⟩
theorem Un.kept(k:∀b u,h.get? b=some u->h'.get? b=some u):Un fs ex H H h h':=
 ⟨fun b ob q _ _ _=>k b ob q,fun b ob q _ _ _=>⟨ob.slots,k b ob q⟩,fun _ _ _ n _=>n,fun b ob q _=>⟨ob,k b ob q⟩,fun _ _ q=>q,fun _ _ _ q=>q,fun _ ps q=>⟨#[],by rw[q];simp⟩⟩
theorem Un.refl:Un fs ex H H h h:=Un.kept fun _ _ q=>q
theorem Un.laid(k:∀b u,h.get? b=some u->h'.get? b=some u)(hp:h.objs.size<=a)(hn:H a=none):Un fs ex H (upd H a o) h h' where
 keep:=fun b u q _ _ _=>k b u q
 slot:=fun b u q _ _ _=>⟨u.slots,k b u q⟩
 free:=fun b u q n _=>by rw[aH (fA (cA (cM q) hp))];exact n
 there:=fun b u q _=>⟨u,k b u q⟩
 Tc:=fun b xs q=>by rw[aH (cK q hn)];exact q
 Nc:=fun b u xs q=>by rw[aH (cK q hn)];exact q
 Td:=fun b ps q=>⟨#[],by rw[aH (cK q hn),q];simp⟩
theorem Un.write(mu:bj (H x))(he:e=x∨H e=some (.own x))(k:∀b u,b≠e->h.get? b=some u->h'.get? b=some u)(uv:∃u,h'.get? e=some u):Un fs ex H (upd H x o) h h':=by
 have hx:∀b,H b=none->b≠x:=fun b n z=>by subst z;rw[n]at mu;exact mu
 have hb:∀b,H b=none->b≠e:=fun b n z=>by
  subst z;rcases he with r|r
  .exact hx b n r
  .rw[n]at r;cases r
 have hm:∀b u,H b=some u->¬bj (some u)->b≠x:=fun b u q nm z=>by subst z;rw[q]at mu;exact nm mu
 refine⟨fun b u q n _ _=>k b u (hb b n) q,fun b u q n _ _=>⟨u.slots,k b u (hb b n) q⟩,fun b u q n _=>by rw[aH (hx b n)];exact n,fun b u q _=>?_,
  fun b xs q=>by rw[aH (hm b _ q fun z=>z)];exact q,fun b u xs q=>by rw[aH (hm b _ q fun z=>z)];exact q,fun b ps q=>⟨#[],by rw[aH (hm b _ q fun z=>z),q];simp⟩⟩
 by_cases Iu:b=e
 .subst Iu;exact uv
 .exact⟨u,k b u Iu q⟩
end
def R5(h:Heap)(H:Hp):La:=(bD h.objs.size).filter fun a=>(H a).isSome
def Va(h:Heap)(H:Hp):Heap:=PySem.W.hideAll h (R5 h H)
theorem KZ(h:Heap)(H:Hp):(Va h H).objs.size=h.objs.size:=PySem.W.hideAll_size _ _
theorem SM{o:Obj}(e:h.get? b=some o)(n:H b=none):(Va h H).get? b=some o:=
 PySem.W.hideAll_get _ e fun hm=>by have q:(H b).isSome=true:=(aM.mp hm).2;rw[n]at q;simp at q
theorem YK{o:Obj}(e:(Va h H).get? b=some o):h.get? b=some o/\H b=none:=by
 have e':h.get? b=some o:=PySem.W.of_hideAll (R5 h H) e;refine⟨e',?_⟩;cases q:H b with
 |none=>rfl
 |some x=>have hm:b∈R5 h H:=aM.mpr ⟨bS.mpr (cM e'),by simp[q]⟩;have z:(Va h H).get? b=none:=PySem.W.hideAll_none (R5 h H) hm;rw[z]at e;cases e
structure Mod(K:aX)(mg:Str->Option Value)(aT:Heap):Prop where
 ud:K.In aT
 glob:aT.Ns iS mg
 blt:∃mb,aT.Ns builtinsNs mb/\∀x:Str,x≠"__name__"->mb x=pZ x
 nolimit:aT.NoLimit
structure Cx where
 prog:dJ
 w:World
 K:aX
 mg:Str->Option Value
 aT:Heap
 A:gQ
 N:List Str
 Qq:aZ
 si:Hp
 env:Env
 iA:List Env
 stack:List Env
 ex:La
 fn:Str->Bool
 calm:Bool
 pn:List (Addr×Obj)
 xe:Value->aZ->Prop
def DT(l:List Env):La:=l.filterMap (·.frame)
abbrev Cx.fs(X:Cx):La:=DT X.iA
def ro(sc:Scope)(x:Str):Prop:=sc.names.lookup x=some .local∨sc.names.lookup x=some .cell∨sc.names.lookup x=some .free
def bp(sc:Scope)(x:Str):Prop:=sc.names.lookup x=some .local∨sc.names.lookup x=some .cell
def W8(env:Env)(h:Heap)(m:Str->Option Value)(x:Str)(u:Value):Prop:=
 (env.kindOf x=some .local/\m x=some u)∨((env.kindOf x=some .cell∨env.kindOf x=some .free)/\∃c,env.cells.lookup x=some c/\h.IsCell c (some u))
structure Cx.Ok(X:Cx):Prop where
 mod:Mod X.K X.mg X.aT
 kind:X.env.scope.kind=.function
 glob:X.env.globals=iS
 blt:X.env.builtins=builtinsNs
 above:X.Qq.heap.objs.size<=X.env.locals
 inj:∀x y c,X.env.cells.lookup x=some c->X.env.cells.lookup y=some c->x=y
 has:∀x,(X.env.kindOf x=some .cell∨X.env.kindOf x=some .free)->∃c,X.env.cells.lookup x=some c
 P9:∀x c,X.fn x=true->X.env.cells.lookup x=some c->X.Qq.heap.objs.size<=c
 hd:X.calm=true->X.A.handled=none
 frames:X.A.frames=some X.stack
 lU:X.stack=X.iA∨(X.stack=X.env::X.iA/\X.env.frame=some X.env.locals)
 V5:∀b∈X.ex,b≠X.env.locals/\∀x c,X.env.cells.lookup x=some c->c≠b
 bs:∀b o,X.aT.get? b=some o->X.Qq.heap.get? b=some o/\X.si b=none
 aw:X.aT.objs.size<=X.Qq.heap.objs.size
 QM:∀b o,X.aT.get? b=some o->b∉X.ex
 TH:∀b∈X.ex,b∉X.fs
 Jq:X.Qq.heap.FunFrames X.aT X.iA
 qp:∀b∈X.fs,X.si b=none
structure dP(X:Cx)(aI:List (Addr×Obj))(σ:List (Option V))(H:Hp)(s:aZ):Prop where
 ok:X.Ok
 os:s.os=X.Qq.os
 bare:Ox s.gens
 aT:Un X.fs X.ex X.si H X.Qq.heap s.heap
 loc:∃m,s.heap.Ns X.env.locals m/\∀(i:Nat) (x:Str) (v:V),X.N[i]? =some x->σ[i]? =some (some v)->ro X.env.scope x->∃u,gC v u/\W8 X.env s.heap m x u
 cell:∀x c,X.env.cells.lookup x=some c->∃v,s.heap.IsCell c v
 free:H X.env.locals=none
 wK:∀x c,X.env.cells.lookup x=some c->H c=none
 pin:∀p∈X.pn++aI,s.heap.get? p.1=some p.2/\H p.1=none/\p.1≠X.env.locals/\p.1∉X.fs/\∀v,p.2.data≠.cell v
 iW:An X.prog X.w H s.heap
 len:σ.length=X.N.length
section
variable {X:Cx} {aI:List (Addr×Obj)} {σ:List (Option V)} {H H':Hp} {s:aZ} {h':Heap}
theorem Cx.Ok.k5(ok:X.Ok){o:Obj}(e:X.aT.get? b=some o):b∉X.fs:=fun hb=>by have:=(ok.Jq.mem hb).1;rw[e]at this;cases this
theorem dP.bs(I:dP X aI σ H s):∀b o,X.aT.get? b=some o->s.heap.get? b=some o/\H b=none:=fun b o e=>⟨I.aT.keep b o (I.ok.bs b o e).1 (I.ok.bs b o e).2 (I.ok.k5 e) (I.ok.QM b o e),I.aT.free b o (I.ok.bs b o e).1 (I.ok.bs b o e).2 (I.ok.QM b o e)⟩
theorem dP.bk(I:dP X aI σ H s):∀b o,X.aT.get? b=some o->s.heap.get? b=some o:=fun b o e=>(I.bs b o e).1
theorem dP.mod(I:dP X aI σ H s):Mod X.K X.mg X.aT:=I.ok.mod
theorem dP.Yv(I:dP X aI σ H s):X.K.In s.heap:=I.ok.mod.ud.keeps I.bk
theorem dP.lt(I:dP X aI σ H s):X.env.locals<s.heap.objs.size:=let ⟨_,hn,_⟩:=I.loc;hn.lt
theorem dP.sz(I:dP X aI σ H s):X.Qq.heap.objs.size<=s.heap.objs.size:=bK I.ok.above (zK I.lt)
theorem dP.j9(I:dP X aI σ H s)(h:s.heap.objs.size<=a):a∉X.fs:=fun hb=>by obtain⟨_,o,ho,_⟩:=I.ok.Jq.mem hb;exact absurd (cA (cM ho) (bK I.sz h)) (jR _)
theorem dP.qy(I:dP X aI σ H s):∀x c,X.env.cells.lookup x=some c->c≠X.env.locals:=fun x c e z=>by obtain⟨v,o,ho,hd⟩:=I.cell x c e;obtain⟨m,⟨o',es,ep,AS,M1,_⟩,_⟩:=I.loc;rw[z,AS]at ho;cases ho;rw[M1]at hd;cases hd
theorem dP.Jq(I:dP X aI σ H s):s.heap.FunFrames X.aT X.iA:=by
 have all:∀(l:List Env),(∀b∈DT l,b∈X.fs)->X.Qq.heap.FunFrames X.aT l->s.heap.FunFrames X.aT l:=by
  intro l;induction l with
  |nil=>intro _ _;trivial
  |cons env r ih=>intro hs hl;obtain⟨hk,⟨L,o,hf,hn,ho,hd⟩,hr⟩:=hl;have hL:L∈X.fs:=hs L (by unfold DT;rw[Dm,hf];exact aF);obtain⟨sl,e⟩:=I.aT.slot L o ho (I.ok.qp L hL) hL fun z=>I.ok.TH L z hL;exact⟨hk,⟨L,_,hf,hn,e,hd⟩,ih (fun b hb=>hs b (by unfold DT;rw[Dm,hf];exact aD _ hb)) hr⟩
 exact all X.iA (fun _ hb=>hb) I.ok.Jq
theorem dP.stack(I:dP X aI σ H s):s.heap.FunFrames X.aT X.stack:=by
 rcases I.ok.lU with e|⟨e,hf⟩
 .rw[e];exact I.Jq
 .rw[e];obtain⟨m,hn,_⟩:=I.loc;refine .cons (by rw[I.ok.kind];decide) hf hn ?_ I.Jq;exact Heap.get?_none_of_le (bK I.ok.aw I.ok.above)
theorem dP.BW(I:dP X aI σ H s):∀b∈DT X.stack,b∈X.env.locals::X.fs:=fun b hb=>by
 rcases I.ok.lU with e|⟨e,hf⟩
 .rw[e]at hb;exact aD _ hb
 .rw[e]at hb;unfold DT at hb;rw[Dm,hf]at hb;exact hb
theorem dP.FX(I:dP X aI σ H s):∀b∈DT X.stack,H b=none:=fun b hb=>by
 rcases aW.mp (I.BW b hb)with e|hb
 .rw[e];exact I.free
 .obtain⟨_,o,ho,_⟩:=I.ok.Jq.mem hb;exact I.aT.free b o ho (I.ok.qp b hb) fun z=>I.ok.TH b z hb
theorem dP.step{g':Array GenState}{t':Nat}{d':Drawn}(I:dP X aI σ H s)
  (VP:∀b∈ch,(b∈X.ex∨X.Qq.heap.objs.size<=b)/\b≠X.env.locals/\(∀x c,X.env.cells.lookup x=some c->c≠b)/\∀p∈X.pn++aI,p.1≠b)
  (keep:∀b o,b≠X.env.locals->b∉X.fs->b∉ch->s.heap.get? b=some o->H b=none->h'.get? b=some o)
  (slot:∀b o,b≠X.env.locals->b∈X.fs->b∉ch->s.heap.get? b=some o->H b=none->∃sl,h'.get? b=some {o with slots:=sl}) (free:∀b o,b∉ch->s.heap.get? b=some o->H b=none->H' b=none)
  (there:∀b o,b∉ch->s.heap.get? b=some o->∃o',h'.get? b=some o')
  (Tc:∀b xs,H b=some (.tup xs)->H' b=some (.tup xs)) (Nc:∀b o u,H b=some (.kN o u)->H' b=some (.kN o u)) (Td:∀b ps,H b=some (.gp ps)->∃more,H' b=some (.gp (ps++more)))
  (ns:∀m,s.heap.Ns X.env.locals m->h'.Ns X.env.locals m) (iW:An X.prog X.w H' h') (hg:Ox g'):
  dP X aI σ H' {s with heap:=h',gens:=g',drawn:=d',toks:=t'}:=by
 have neL:∀b o,X.Qq.heap.get? b=some o->b≠X.env.locals:=fun b o e=>fA (cA (cM e) I.ok.above)
 have S8:∀b o,X.Qq.heap.get? b=some o->b∉X.ex->b∉ch:=fun b o e hx hb=>by
  rcases(VP b hb).1 with z|z
  .exact hx z
  .exact absurd (cA (cM e) z) (jR _)
 have cellK:∀x c,X.env.cells.lookup x=some c->∀v,s.heap.IsCell c v->h'.IsCell c v:=fun x c e v ⟨o,ho,hd⟩=>by
  have D7:c∉ch:=fun z=>(VP c z).2.2.1 x c e rfl;by_cases hc:c∈X.fs
  .obtain⟨sl,q⟩:=slot c o (I.qy x c e) hc D7 ho (I.wK x c e);exact⟨_,q,hd⟩
  .exact⟨o,keep c o (I.qy x c e) hc D7 ho (I.wK x c e),hd⟩
 refine⟨I.ok,I.os,hg,⟨fun b o e n hb hx=>?_,fun b o e n hb hx=>?_,fun b o e n hx=>?_,fun b o e hx=>?_,fun b xs e=>Tc b xs (I.aT.Tc b xs e),fun b o xs e=>Nc b o xs (I.aT.Nc b o xs e),fun b ps e=>?_⟩,?_,fun x c e=>?_,?_,fun x c e=>?_,fun p hp=>?_,iW,I.len⟩
 .exact keep b o (neL b o e) hb (S8 b o e hx) (I.aT.keep b o e n hb hx) (I.aT.free b o e n hx)
 .obtain⟨sl,e1⟩:=I.aT.slot b o e n hb hx;obtain⟨sl',e2⟩:=slot b _ (neL b o e) hb (S8 b o e hx) e1 (I.aT.free b o e n hx);exact⟨sl',e2⟩
 .obtain⟨o',e1⟩:=I.aT.there b o e hx;exact free b o' (S8 b o e hx) e1 (I.aT.free b o e n hx)
 .obtain⟨o',e1⟩:=I.aT.there b o e hx;exact there b o' (S8 b o e hx) e1
 .obtain⟨m1,e1⟩:=I.aT.Td b ps e;obtain⟨m2,e2⟩:=Td b _ e1;exact⟨m1++m2,by rw[e2,Array.append_assoc]⟩
 .obtain⟨m,hn,hl⟩:=I.loc;refine⟨m,ns m hn,fun i x v e1 e2 e3=>?_⟩;obtain⟨u,r,l⟩:=hl i x v e1 e2 e3;refine⟨u,r,?_⟩;rcases l with l|⟨k,c,e,z⟩
  .exact .inl l
  .exact .inr ⟨k,c,e,cellK x c e _ z⟩
 .obtain⟨v,z⟩:=I.cell x c e;exact⟨v,cellK x c e v z⟩
 .obtain⟨m,⟨o,_,_,ho,_⟩,_⟩:=I.loc;exact free _ o (fun z=>(VP _ z).2.1 rfl) ho I.free
 .obtain⟨v,o,ho,hd⟩:=I.cell x c e;exact free c o (fun z=>(VP c z).2.2.1 x c e rfl) ho (I.wK x c e)
 .obtain⟨e,n,ne,nf,d⟩:=I.pin p hp;have D7:p.1∉ch:=fun z=>(VP p.1 z).2.2.2 p hp rfl;exact⟨keep p.1 p.2 ne nf D7 e n,free p.1 p.2 D7 e n,ne,nf,d⟩
theorem dP.un{t':Nat}(I:dP X aI σ H s)(u:Un X.fs [] H H' s.heap h')(iW:An X.prog X.w H' h'):dP X aI σ H' {s with heap:=h',toks:=t'}:=by
 obtain⟨m,⟨o,es,ep,ho,r⟩,_⟩:=id I.loc
 obtain⟨sl,hL⟩:=u.any ho I.free (by simp)
 exact I.step (g':=s.gens) (d':=s.drawn) (ch:=[]) (fun _ z=>nomatch z) (fun b o _ hb _ e n=>u.keep b o e n hb (by simp)) (fun b o _ hb _ e n=>u.slot b o e n hb (by simp)) (fun b o _ e n=>u.free b o e n (by simp)) (fun b o _ e=>u.there b o e (by simp)) u.Tc u.Nc u.Td (fun m' hm=>by
  obtain⟨o',AV,MQ,AS,r'⟩:=hm
  rw[ho]at AS;cases AS
  exact⟨_,AV,MQ,hL,r'⟩) iW I.bare
theorem dP.call{t':Nat}{d':Drawn}(I:dP X aI σ H s)(u:Un (DT X.stack) ch H H' s.heap h')(iW:An X.prog X.w H' h')(hg:Ox g')
  (VP:∀b∈ch,(b∈X.ex∨X.Qq.heap.objs.size<=b)/\b≠X.env.locals/\(∀x c,X.env.cells.lookup x=some c->c≠b)/\∀p∈X.pn++aI,p.1≠b):
  dP X aI σ H' {s with heap:=h',gens:=g',drawn:=d',toks:=t'}:=by
 obtain⟨m,⟨o,es,ep,ho,r⟩,_⟩:=id I.loc
 obtain⟨sl,hL⟩:=u.any ho I.free fun z=>(VP _ z).2.1 rfl
 exact I.step (ch:=ch) VP (fun b o hL hb hc e n=>u.keep b o e n (fun z=>(aW.mp (I.BW b z)).elim hL hb) hc) (fun b o _ _ hc e n=>u.any e n hc) (fun b o hc e n=>u.free b o e n hc) (fun b o hc e=>u.there b o e hc) u.Tc u.Nc u.Td (fun m' hm=>by
  obtain⟨o',AV,MQ,AS,r'⟩:=hm
  rw[ho]at AS;cases AS
  exact⟨_,AV,MQ,hL,r'⟩) iW hg
theorem dP.turned{t':Nat}{it:Addr}(I:dP X aI σ H s)(k:∀b o,b≠it->s.heap.get? b=some o->h'.get? b=some o)(hn:H it=none)(hL:it≠X.env.locals)
  (h1:it∈X.ex∨X.Qq.heap.objs.size<=it) (h2:∀x c,X.env.cells.lookup x=some c->c≠it) (h3:∀p∈X.pn++aI,p.1≠it):dP X aI σ H {s with heap:=h',toks:=t'}:=by
 have D6:∀b u,H b=some u->b≠it:=fun b u e z=>by rw[z,hn]at e;cases e
 refine I.step (g':=s.gens) (d':=s.drawn) (ch:=[it]) (fun b hb=>?_) (fun b o _ _ hc e _=>k b o (fun z=>hc (by simp[z])) e) (fun b o _ _ hc e _=>⟨o.slots,k b o (fun z=>hc (by simp[z])) e⟩) (fun _ _ _ _ n=>n)
  (fun b o hc e=>⟨o,k b o (fun z=>hc (by simp[z])) e⟩) (fun _ _ e=>e) (fun _ _ _ e=>e) (fun b ps e=>⟨#[],by rw[e];simp⟩) (fun m hm=>?_) (fun b u e=>?_) I.bare
 .have e:b=it:=by simpa using hb
  subst e;exact⟨h1,hL,h2,h3⟩
 .obtain⟨o,es,ep,ho,r⟩:=hm;exact⟨o,es,ep,k _ o (Ne.symm hL) ho,r⟩
 .refine(I.iW b u e).pO (fun c v hc q=>k c v ?_ q) (fun _ q=>q) fun _ _ q=>q;rcases hc with z|z
  .rw[z];exact D6 b u e
  .exact D6 c _ z
theorem dP.tok(I:dP X aI σ H s)(t:Nat):dP X aI σ H {s with toks:=t}:=I.un (h':=s.heap) (t':=t) Un.refl I.iW
theorem dP.kept{t':Nat}(I:dP X aI σ H s)(k:∀b u,s.heap.get? b=some u->h'.get? b=some u):dP X aI σ H {s with heap:=h',toks:=t'}:=I.un (Un.kept k) (I.iW.kept k)
theorem dP.laid{t':Nat}(I:dP X aI σ H s)(k:∀b u,s.heap.get? b=some u->h'.get? b=some u)(hp:s.heap.objs.size<=a)(new:mH X.prog X.w (upd H a o) h' a o):
  dP X aI σ (upd H a o) {s with heap:=h',toks:=t'}:=I.un (Un.laid k hp (I.iW.fresh hp)) (I.iW.laid k hp new)
theorem dP.write{x e:Addr}{t':Nat}(I:dP X aI σ H s)(mu:bj (H x))(he:e=x∨H e=some (.own x))(k:∀b u,b≠e->s.heap.get? b=some u->h'.get? b=some u)(uv:∃u,h'.get? e=some u)
  (new:mH X.prog X.w (upd H x o) h' x o):dP X aI σ (upd H x o) {s with heap:=h',toks:=t'}:=I.un (Un.write mu he k uv) (I.iW.write mu he k uv new)
theorem dP.weak{σ':List (Option V)}(I:dP X aI σ H s)(hl:σ'.length=σ.length)(w:∀(i:Nat) v,σ'[i]? =some (some v)->σ[i]? =some (some v)):dP X aI σ' H s:=
 ⟨I.ok,I.os,I.bare,I.aT,let ⟨m,hn,ZE⟩:=I.loc;⟨m,hn,fun i x v e1 e2 e3=>ZE i x v e1 (w i v e2) e3⟩,I.cell,I.free,I.wK,I.pin,I.iW,hl.trans I.len⟩
theorem dP.GP{cn:List (Addr×Obj)}(I:dP X aI σ H s)(h:∀p∈cn,s.heap.get? p.1=some p.2/\H p.1=none/\p.1≠X.env.locals/\p.1∉X.fs/\∀v,p.2.data≠.cell v):dP X cn σ H s:=
 ⟨I.ok,I.os,I.bare,I.aT,I.loc,I.cell,I.free,I.wK,fun p hp=>(aN.mp hp).elim (fun z=>I.pin p (dA _ z)) (h p),I.iW,I.len⟩
theorem Me{N:List Str}(hN:N.Nodup){j:Nat}(a:N[i]? =some x)(b:N[j]? =some x):i=j:=by obtain⟨h1,e1⟩:=aL.mp a;obtain⟨h2,e2⟩:=aL.mp b;exact(VC hN).mp (e1.trans e2.symm)
theorem Qn{M:Model}{A:gQ}{E:Value->aZ->Prop}{Q:Unit->aZ->Prop}(I:dP X aI σ H s)(hN:X.N.Nodup)(hi:X.N[i]? =some x)(hx:bp X.env.scope x)(r:gC v u)
  (h:∀s',dP X aI (σ.set i (some v)) H s'->(∃a,rA a s.heap s'.heap/\(a=X.env.locals∨X.env.cells.lookup x=some a))->Q () s') (hf:X.fn x=true∨X.env.scope.names.lookup x=some .local:=by first|exact .inl rfl|exact .inr rfl|assumption):wpAny M A (storeName X.env x u) Q E s:=by
 obtain⟨m,hn,hl⟩:=id I.loc
 have aaP:(X.env.scope.kind==.class||(X.env.scope.kind==.module&&X.env.locals !=X.env.globals))=false:=by rw[I.ok.kind];rfl
 have hiσ:i<σ.length:=by rw[I.len];exact(aL.mp hi).1
 have qy:=I.qy
 have tracked:∀{a:Addr} {h':Heap},(∃o,s.heap.get? a=some o/\H a=none)->rA a s.heap h'->An X.prog X.w H h':=fun{a h'} ha hs b ob e=>by
  obtain⟨_,_,Rq⟩:=ha;refine(I.iW b ob e).pO (fun c w' hc q=>(hs.2 c ?_).trans q) (fun _ q=>q) fun _ _ q=>q;rintro rfl;rcases hc with rfl|hc
  .rw[Rq]at e;cases e
  .rw[Rq]at hc;cases hc
 rcases hx with hk|hk
 .refine wpAny_storeName_local hk hn (fun h' Uz hs=>?_) aaP;obtain⟨oL,_,_,hoL,_⟩:=id hn;refine h _ ⟨I.ok,I.os,I.bare,⟨fun b o e n hb hx=>?_,fun b o e n hb hx=>?_,I.aT.free,fun b o e hx=>?_,I.aT.Tc,I.aT.Nc,I.aT.Td⟩,⟨_,Uz,fun j y v' e1 e2 e3=>?_⟩,fun y c e=>?_,I.free,I.wK,fun p hp=>?_,tracked ⟨oL,hoL,I.free⟩ hs,by simpa using I.len⟩ ⟨_,hs,.inl rfl⟩
  .exact(hs.2 b (fA (cA (cM e) I.ok.above))).trans (I.aT.keep b o e n hb hx)
  .obtain⟨sl,e1⟩:=I.aT.slot b o e n hb hx;exact⟨sl,(hs.2 b (fA (cA (cM e) I.ok.above))).trans e1⟩
  .obtain⟨o',e1⟩:=I.aT.there b o e hx;exact⟨o',(hs.2 b (fA (cA (cM e) I.ok.above))).trans e1⟩
  .by_cases hj:j=i
   .subst hj;rw[hi]at e1;cases e1;rw[zC hiσ]at e2;cases e2;exact⟨u,r,.inl ⟨hk,by simp⟩⟩
   .rw[Bs (Ne.symm hj)]at e2;obtain⟨u',r',q⟩:=hl j y v' e1 e2 e3;refine⟨u',r',?_⟩;rcases q with ⟨k,e⟩|⟨k,c,e,z⟩
    .refine .inl ⟨k,?_⟩;have:y≠x:=fun e=>hj (Me hN e1 (e ▸ hi));simp[this,e]
    .exact .inr ⟨k,c,e,z.sameBut hs (qy y c e)⟩
  .obtain⟨w',z⟩:=I.cell y c e;exact⟨w',z.sameBut hs (qy y c e)⟩
  .obtain⟨e,n,ne,nf,d⟩:=I.pin p hp;exact⟨(hs.2 p.1 ne).trans e,n,ne,nf,d⟩
 .have hfn:X.fn x=true:=by
   rcases hf with z|z
   .exact z
   .rw[z]at hk;cases hk
  obtain⟨c,hc⟩:=I.ok.has x (.inl hk);obtain⟨w',z⟩:=I.cell x c hc;refine wpAny_storeName_cell I.ok.kind hk hc z (fun h' U6 hs=>?_);obtain⟨oc,hoc,z8⟩:=id z;refine h {s with heap:=h'} ⟨I.ok,I.os,I.bare,⟨fun b o e n hb hx=>?_,fun b o e n hb hx=>?_,I.aT.free,fun b o e hx=>?_,I.aT.Tc,I.aT.Nc,I.aT.Td⟩,⟨m,hn.sameBut hs (Ne.symm (qy x c hc)),fun j y v' e1 e2 e3=>?_⟩,fun y c' e=>?_,I.free,I.wK,fun p hp=>?_,tracked ⟨oc,hoc,I.wK x c hc⟩ hs,by simpa using I.len⟩ ⟨c,hs,.inr hc⟩
  .exact(hs.2 b (fA (cA (cM e) (I.ok.P9 x c hfn hc)))).trans (I.aT.keep b o e n hb hx)
  .obtain⟨sl,e1⟩:=I.aT.slot b o e n hb hx;exact⟨sl,(hs.2 b (fA (cA (cM e) (I.ok.P9 x c hfn hc)))).trans e1⟩
  .obtain⟨o',e1⟩:=I.aT.there b o e hx;exact⟨o',(hs.2 b (fA (cA (cM e) (I.ok.P9 x c hfn hc)))).trans e1⟩
  .by_cases hj:j=i
   .subst hj;rw[hi]at e1;cases e1;rw[zC hiσ]at e2;cases e2;exact⟨u,r,.inr ⟨.inl hk,c,hc,U6⟩⟩
   .rw[Bs (Ne.symm hj)]at e2;obtain⟨u',r',q⟩:=hl j y v' e1 e2 e3;refine⟨u',r',?_⟩;rcases q with q|⟨k,c',e,z'⟩
    .exact .inl q
    .refine .inr ⟨k,c',e,z'.sameBut hs ?_⟩;rintro rfl;exact hj (Me hN e1 (I.ok.inj _ _ _ e hc ▸ hi))
  .by_cases hcc:c'=c
   .subst hcc;exact⟨_,U6⟩
   .obtain⟨w2,z2⟩:=I.cell y c' e;exact⟨w2,z2.sameBut hs hcc⟩
  .obtain⟨e,n,ne,nf,d⟩:=I.pin p hp;refine⟨(hs.2 p.1 ?_).trans e,n,ne,nf,d⟩;intro q;rw[q,hoc]at e;have q':oc=p.2:=bC e;exact d w' (by rw[<-q'];exact z8)
theorem Lb{M:Model}{A:gQ}{E:Value->aZ->Prop}{Q:Unit->aZ->Prop}(I:dP X aI σ H s)(hN:X.N.Nodup)(hi:X.N[i]? =some x)(hx:bp X.env.scope x)(r:gC v u)
  (h:∀s',dP X aI (σ.set i (some v)) H s'->Q () s') (hf:X.fn x=true∨X.env.scope.names.lookup x=some .local:=by first|exact .inl rfl|exact .inr rfl|assumption):wpAny M A (storeName X.env x u) Q E s:=
 Qn I hN hi hx r (fun s' I' _=>h s' I') hf
theorem dP.P8{s':aZ}(I:dP X aI σ H s)(ho:s'.os=s.os)(u:Un (DT X.stack) ch H H' s.heap s'.heap)(iW:An X.prog X.w H' s'.heap)(hg:Ox s'.gens)
  (VP:∀b∈ch,(b∈X.ex∨X.Qq.heap.objs.size<=b)/\b≠X.env.locals/\(∀x c,X.env.cells.lookup x=some c->c≠b)/\∀p∈X.pn++aI,p.1≠b):dP X aI σ H' s':=by
 obtain⟨h',g',d',t',o'⟩:=s'
 have e:o'=s.os:=ho
 subst e
 exact I.call (g':=g') (t':=t') (d':=d') u iW hg VP
end
abbrev XK:=Value->Option Addr->Hp->Prop
abbrev St:=List (Option V)
abbrev VK:=V->Hp->Prop
abbrev TE:=St->Hp->VK->Prop
abbrev TT:=St->Hp->(Bool->Hp->Prop)->Prop
abbrev TA:=St->Hp->(Lv->Hp->Prop)->Prop
structure Kk where
 nx:St->Hp->Prop
 rt:VK
 bk:St->Hp->Prop:=fun _ _=>False
 ct:St->Hp->Prop:=fun _ _=>False
abbrev TS:=Kk->St->Hp->Prop
inductive EP(X:Cx)(aI:List (Addr×Obj))(σ:St)(Q:VK)(u:Value)(s':aZ):Prop|mk v H':dP X aI σ H' s'->gC v u->Q v H'->EP X aI σ Q u s'
def TP(X:Cx)(aI:List (Addr×Obj))(σ:St)(Q:Bool->Hp->Prop)(b:Bool)(s':aZ):Prop:=∃H',dP X aI σ H' s'/\Q b H'
inductive AP(X:Cx)(aI:List (Addr×Obj))(σ:St)(Q:Lv->Hp->Prop)(us:Lu)(s':aZ):Prop|mk vs H':dP X aI σ H' s'->fN vs us->Q vs H'->AP X aI σ Q us s'
def SP(X:Cx)(aI:List (Addr×Obj))(D:Kk)(f:Flow)(s':aZ):Prop:=
 match f with
 |.next=>∃σ' H',dP X aI σ' H' s'/\D.nx σ' H'
 |.brk=>∃σ' H',dP X aI σ' H' s'/\D.bk σ' H'
 |.cont=>∃σ' H',dP X aI σ' H' s'/\D.ct σ' H'
 |.ret u=>∃v σ' H',dP X aI σ' H' s'/\gC v u/\D.rt v H'
def PE(X:Cx)(e:Expr)(t:TE):Prop:=
 ∀(aI:List (Addr×Obj)) (s:aZ) (σ:St) (H:Hp) (Q:VK),dP X aI σ H s->t σ H Q->wpAny (model X.prog X.w) X.A (eval e X.env) (EP X aI σ Q) X.xe s
def PT(X:Cx)(e:Expr)(t:TT):Prop:=
 ∀(aI:List (Addr×Obj)) (s:aZ) (σ:St) (H:Hp) (Q:Bool->Hp->Prop),dP X aI σ H s->t σ H Q->wpAny (model X.prog X.w) X.A (isTrue e X.env (eval e X.env)) (TP X aI σ Q) X.xe s
def PW(X:Cx)(e:Expr)(t:TT):Prop:=
 ∀(whole:Sem Value) (aI:List (Addr×Obj)) (s:aZ) (σ:St) (H:Hp) (Q:Bool->Hp->Prop),dP X aI σ H s->t σ H Q->wpAny (model X.prog X.w) X.A (isTrue e X.env whole) (TP X aI σ Q) X.xe s
theorem PW.pt{X:Cx}{t:TT}(h:PW X e t):PT X e t:=h _
def PA(X:Cx)(es:List Expr)(t:TA):Prop:=
 ∀(pos:Pos) (aI:List (Addr×Obj)) (s:aZ) (σ:St) (H:Hp) (Q:Lv->Hp->Prop),dP X aI σ H s->t σ H Q->wpAny (model X.prog X.w) X.A (spliced (pL pos (dD es X.env))) (AP X aI σ Q) X.xe s
def PS(X:Cx)(st:Stmt)(t:TS):Prop:=
 ∀(aI:List (Addr×Obj)) (s:aZ) (σ:St) (H:Hp) (D:Kk),dP X aI σ H s->t D σ H->wpAny (model X.prog X.w) X.A (exec st X.env) (SP X aI D) X.xe s
def EY(X:Cx)(st:List Stmt)(t:TS):Prop:=
 ∀(aI:List (Addr×Obj)) (s:aZ) (σ:St) (H:Hp) (D:Kk),dP X aI σ H s->t D σ H->wpAny (model X.prog X.w) X.A (execs st X.env) (SP X aI D) X.xe s
theorem iX{α:Type}{t:Sem α}{Q Q':α->aZ->Prop}(h:wpAny M A t Q E s)(hQ:∀a s,Q a s->Q' a s):wpAny M A t Q' E s:=iE h hQ fun _ _ x=>x
section
variable {X:Cx}
inductive fC(i:Nat)(σ:St)(H:Hp)(Q:VK):Prop|mk (v:V):σ[i]? =some (some v)->Q v H->fC i σ H Q
def tC(v:V):TE:=fun _ H Q=>Q v H
theorem PX{pos:Pos}(hN:X.N[i]? =some x)(hv:ro X.env.scope x)(hd:(x==("__debug__":Str))=false:=by decide)(hcd:(x==("__classdict__":Str))=false:=by decide):PE X (.Name x pos) (fC i):=by
 intro aI s σ H Q I h;obtain⟨v,e,h⟩:=h;obtain⟨m,hn,hl⟩:=I.loc;obtain⟨u,r,l⟩:=hl i x v hN e hv;have fin:EP X aI σ Q u s:=⟨v,H,I,r,h⟩;rcases l with ⟨hk,hm⟩|⟨hk,c,hc,HU⟩
 .exact wpAny_Name (VY I.ok.kind hk hn hm fin) hd
 .rcases hk with hk|hk
  .exact wpAny_Name (wpAny_loadName_cell I.ok.kind hk hc HU fin) hd
  .exact wpAny_Name (wpAny_loadName_free I.ok.kind hk hc HU fin hcd) hd
theorem cH{i j pos}:PE X (.Constant (.int i) j pos) (tC (.int i)):=fun _ _ _ H _ I h=>wpAny_Constant_int ⟨.int i,H,I.tok _,⟨_,rfl⟩,h⟩
theorem sP{b j pos}:PE X (.Constant (.bool b) j pos) (tC (.bl b)):=fun _ _ _ H _ I h=>Constant_bool ⟨.bl b,H,I,rfl,h⟩
theorem Tz{j pos}:PE X (.Constant .none j pos) (tC .iU):=fun _ _ _ H _ I h=>Constant_none ⟨.iU,H,I,rfl,h⟩
def Gl(X:Cx)(x:Str):Prop:=X.env.kindOf x=some .globalImplicit
theorem Fe{E:Value->aZ->Prop}{σ:St}{pos:Pos}(I:dP X aI σ H s)(hg:Gl X x)(hm:X.mg x=some u)(h:Q u s)
  (hd:(x==("__debug__":Str))=false:=by decide):wpAny (model X.prog X.w) X.A (eval (.Name x pos) X.env) Q E s:=
 Ow I.ok.kind hg (Calls.loadGlobal_global (by rw[I.ok.glob];exact I.mod.glob.keeps I.bk) hm h) hd
theorem Hi{E:Value->aZ->Prop}{σ:St}{pos:Pos}(I:dP X aI σ H s)(hg:Gl X x)(hm:X.mg x=none)(hv:pZ x=some u)(h:Q u s)
  (hn:x≠"__name__":=by decide) (hd:(x==("__debug__":Str))=false:=by decide):wpAny (model X.prog X.w) X.A (eval (.Name x pos) X.env) Q E s:=by
 obtain⟨mb,h1,h2⟩:=I.mod.blt
 exact Ow I.ok.kind hg (Calls.loadGlobal_builtin (by rw[I.ok.glob];exact I.mod.glob.keeps I.bk) hm (by rw[I.ok.blt];exact h1.keeps I.bk) ((h2 x hn).trans hv) h) hd
theorem Ua{pos:Pos}(hg:Gl X x)(hm:X.mg x=some u)(r:gC v u)(hd:(x==("__debug__":Str))=false:=by decide):PE X (.Name x pos) (tC v):=
 fun _ _ _ H _ I h=>Fe I hg hm ⟨v,H,I,r,h⟩ hd
variable {a b:Expr} {ta tb:TE} {pos:Pos}
def PC(X:Cx)(op:CmpOp)(a b:Expr)(t:TE):Prop:=
 ∀(aI:List (Addr×Obj)) (s:aZ) (σ:St) (H:Hp) (Q:VK),dP X aI σ H s->t σ H Q->
  wpAny (model X.prog X.w) X.A (eval a X.env) (fun v s₁=>wpAny (model X.prog X.w) X.A (eval b X.env) (fun u s₂=>wpAny (model X.prog X.w) X.A (gD op v u) (EP X aI σ Q) X.xe s₂) X.xe s₁) X.xe s
inductive BlI(Q:Bool->Hp->Prop)(x:V)(H:Hp):Prop|mk (k:Bool):x=.bl k->Q k H->BlI Q x H def tB (t:TE):TT:=fun σ H Q=>t σ H (BlI Q)
theorem QB{t:TE}(h:PC X op a b t)(h1:uE op b=false:=by first|exact QN _ (by decide) (by decide)|rfl):PE X (.Compare a [op] [b] pos) t:=fun aI s σ H Q I hw=>wpAny_Compare1 (h aI s σ H Q I hw) h1
theorem sG{t:TE}(h:PC X op a b t)(h1:uE op b=false:=by first|exact QN _ (by decide) (by decide)|rfl):PT X (.Compare a [op] [b] pos) (tB t):=by intro aI s σ H Q I hw;refine US (iX (h aI s σ H _ I hw) fun v s1 h1=>iX h1 fun u s2 h2=>iX h2 fun c s3 ⟨x,H1,I1,r1,q1⟩=>?_) h1;obtain⟨d,rfl,q⟩:=q1;cases r1;exact fQ ⟨H1,I1,q⟩
theorem nF{t:TE}(h:PE X e t)(he:∀whole,isTrue e X.env whole=(do let v<-whole;standAt e.pos;holding [v] (truthy v)):=by intro _;rfl):PT X e (tB t):=by intro aI s σ H Q I hw;refine isTrue_plain (iX (h aI s σ H _ I hw) fun v s1 ⟨x,H1,I1,r1,q1⟩=>?_) (he _);obtain⟨d,rfl,q⟩:=q1;cases r1;exact fQ ⟨H1,I1,q⟩
variable {tA R7:TT} {rest:List Expr}
def Y1(t u:TT):TT:=fun σ H Q=>t σ H fun c H1=>if c=true then u σ H1 Q else Q false H1
def tOr(t u:TT):TT:=fun σ H Q=>t σ H fun c H1=>if c=true then Q true H1 else u σ H1 Q
def X9(t:TT):TT:=fun σ H Q=>t σ H fun c H1=>Q (!c) H1
theorem Tu(ha:PT X a tA):PW X (.BoolOp .And [a] pos) tA:=by
 intro wh aI s σ H Q I h;refine isTrue_and (iX (ha aI s σ H Q I h) fun c s1 e=>?_);cases c with
 |true=>exact isTrue_and_nil e
 |false=>exact e
theorem vI(ha:PT X a tA):PW X (.BoolOp .Or [a] pos) tA:=by
 intro wh aI s σ H Q I h;refine isTrue_or (iX (ha aI s σ H Q I h) fun c s1 e=>?_);cases c with
 |false=>exact isTrue_or_nil e
 |true=>exact e
theorem CC(ha:PT X a tA)(hb:PW X (.BoolOp .And (b::rest) pos) R7):PW X (.BoolOp .And (a::b::rest) pos) (Y1 tA R7):=by
 intro wh aI s σ H Q I h;refine isTrue_and (iX (ha aI s σ H _ I h) fun c s1 ⟨H1,I1,q1⟩=>?_);cases c with
 |true=>exact hb wh aI s1 σ H1 Q I1 q1
 |false=>exact⟨H1,I1,q1⟩
theorem zT(ha:PT X a tA)(hb:PW X (.BoolOp .Or (b::rest) pos) R7):PW X (.BoolOp .Or (a::b::rest) pos) (tOr tA R7):=by
 intro wh aI s σ H Q I h;refine isTrue_or (iX (ha aI s σ H _ I h) fun c s1 ⟨H1,I1,q1⟩=>?_);cases c with
 |true=>exact⟨H1,I1,q1⟩
 |false=>exact hb wh aI s1 σ H1 Q I1 q1
theorem Cq(ha:PT X a tA):PT X (.UnaryOp .Not a pos) (X9 tA):=by intro aI s σ H Q I h;exact isTrue_not (ha aI s σ H (fun c H1=>Q (!c) H1) I h)
def X8(ta tb:TE):TE:=fun σ H Q=>ta σ H fun x H1=>∃c,x=.bl c/\if c=true then Q (.bl true) H1 else tb σ H1 Q
theorem kg{op}{t:TE}(h:PE X a t):PE X (.BoolOp op [a] pos) t:=fun aI s σ H Q I hw=>BoolOp_one (h aI s σ H Q I hw)
theorem zb(ha:PE X a ta)(hb:PE X (.BoolOp .Or (b::rest) pos) tb):PE X (.BoolOp .Or (a::b::rest) pos) (X8 ta tb):=by
 intro aI s σ H Q I h;refine BoolOp_or (iX (ha aI s σ H _ I h) fun v s1 ⟨x,H1,I1,r1,q1⟩=>?_);obtain⟨c,rfl,q1⟩:=q1;cases r1;refine fQ ?_;cases c with
 |false=>exact hb aI s1 σ H1 Q I1 q1
 |true=>exact⟨.bl true,H1,I1,rfl,q1⟩
def tIf(t:TT)(ta tb:TE):TE:=fun σ H Q=>t σ H fun c H1=>if c=true then ta σ H1 Q else tb σ H1 Q
theorem Lz{c:Expr}(hc:PT X c tA)(ha:PE X a ta)(hb:PE X b tb):PE X (.IfExp c a b pos) (tIf tA ta tb):=by
 intro aI s σ H Q I h;refine wpAny_IfExp (iX (hc aI s σ H _ I h) fun d s1 ⟨H1,I1,q1⟩=>?_);cases d with
 |true=>exact ha aI s1 σ H1 Q I1 q1
 |false=>exact hb aI s1 σ H1 Q I1 q1
end
def iY(K:aX)(H:Hp)(a:Addr)(xs:Lv):Prop:=
 Rd H a (.lst xs)∨
  ∃(o:Obj) (gF:Array Value) (n:Nat),K.lookup a=some o/\o.cls=.type "list"/\o.dict=none/\o.data=.seq gF n/\gF.size<=sizeLine/\fN xs gF.toList
def Wj(K:aX)(H:Hp)(a:Addr)(xs:Lv):Prop:=
 Rd H a (.tup xs)∨
  ∃(o:Obj) (gF:Array Value) (n:Nat),K.lookup a=some o/\o.cls=.type "tuple"/\o.data=.seq gF n/\gF.size<=sizeLine/\fN xs gF.toList
def acK:Value->Option V
 |.none=>some .iU
 |.bool b=>some (.bl b)
 |.int i _=>some (.int i)
 |.str x _=>some (.str x)
 |.bytes b _=>some (.Wi b)
 |.float b _=>some (.V3 b)
 |.ref a=>some (.ref a)
 |.type n=>some (.ty n)
 |_=>none
theorem gC.abs{x:V}(r:gC x u):acK u=some x:=by
 cases x with
 |iU=>cases r;rfl
 |bl _=>cases r;rfl
 |int _=>obtain⟨t,rfl⟩:=r;rfl
 |str _=>obtain⟨t,rfl⟩:=r;rfl
 |Wi _=>obtain⟨t,rfl⟩:=r;rfl
 |V3 _=>obtain⟨t,rfl⟩:=r;rfl
 |ref _=>cases r;rfl
 |ty _=>cases r;rfl
theorem gC.inj{x y:V}(r:gC x u)(q:gC y u):x=y:=bC (r.abs.symm.trans q.abs)
theorem fN.inj:∀{xs ys:Lv} {us:Lu},fN xs us->fN ys us->xs=ys
 |_,_,_,.nil,.nil=>rfl
 |_,_,_,.cons r t,.cons r' t'=>by rw[r.inj r',fN.inj t t']
section
variable {X:Cx} {aI:List (Addr×Obj)} {σ:St} {H:Hp} {s:aZ} {a:Addr} {xs ys:Lv}
theorem iY.of(h:H a=some (.lst xs)):iY K H a xs:=.inl (.inl h)
theorem Wj.of(h:H a=some (.tup xs)):Wj K H a xs:=.inl (.inl h)
theorem dP.list(I:dP X aI σ H s)(h:iY X.K H a xs):∃gF:Lu,fN xs gF/\PlainL s.heap a gF.toArray/\xs.length<=sizeLine:=by
 rcases h with h|⟨o,gF,n,hk,hc,hd,hs,hz,r⟩
 .obtain⟨z,gF,n,r,e⟩:=h.ok I.iW;exact⟨gF,r,⟨_,n,e,rfl,rfl,rfl⟩,z⟩
 .refine⟨gF.toList,r,⟨o,n,I.Yv a o hk,hc,hd,by simpa using hs⟩,?_⟩;have e:=r.length;simp only[Cf]at e;lia
theorem dP.tuple(I:dP X aI σ H s)(h:Wj X.K H a xs):∃gF:Lu,fN xs gF/\IsTup s.heap a gF.toArray/\xs.length<=sizeLine:=by
 rcases h with h|⟨o,gF,n,hk,hc,hs,hz,r⟩
 .obtain⟨z,gF,r,p⟩:=h.ok I.iW;exact⟨gF,r,p,z⟩
 .refine⟨gF.toList,r,⟨o,I.Yv a o hk,hc,n,by simpa using hs⟩,?_⟩;have e:=r.length;simp only[Cf]at e;lia
theorem dP.Mp(I:dP X aI σ H s)(h:iY X.K H a xs)(h':iY X.K H a ys):xs=ys:=by
 obtain⟨gF,r,⟨o,n,e,_,_,d⟩,_⟩:=I.list h;obtain⟨its',r',⟨o',n',e',_,_,d'⟩,_⟩:=I.list h';rw[e]at e';cases e';rw[d]at d';injection d' with d1 _;have:gF=its':=by simpa using gL Array.toList d1
 subst this;exact r.inj r'
end
abbrev Cx.Oy(X:Cx)(E:Value->aZ->Prop):Cx:={X with xe:=E}
abbrev Cx.D1(X:Cx):Cx:=X.Oy fun _ _=>False
theorem Cx.Ok.Oy{X:Cx}(ok:X.Ok)(E:Value->aZ->Prop):(X.Oy E).Ok:=
 ⟨ok.mod,ok.kind,ok.glob,ok.blt,ok.above,ok.inj,ok.has,ok.P9,ok.hd,ok.frames,ok.lU,ok.V5,ok.bs,ok.aw,ok.QM,ok.TH,ok.Jq,ok.qp⟩
theorem Cx.Ok.zP{X:Cx}(ok:(X.Oy E).Ok):X.Ok:=
 ⟨ok.mod,ok.kind,ok.glob,ok.blt,ok.above,ok.inj,ok.has,ok.P9,ok.hd,ok.frames,ok.lU,ok.V5,ok.bs,ok.aw,ok.QM,ok.TH,ok.Jq,ok.qp⟩
section
variable {X:Cx} {aI:List (Addr×Obj)} {σ:St} {H:Hp} {s:aZ} {E:Value->aZ->Prop}
theorem dP.Oy(I:dP X aI σ H s)(E:Value->aZ->Prop):dP (X.Oy E) aI σ H s:=⟨I.ok.Oy E,I.os,I.bare,I.aT,I.loc,I.cell,I.free,I.wK,I.pin,I.iW,I.len⟩
theorem dP.zP(I:dP (X.Oy E) aI σ H s):dP X aI σ H s:=⟨I.ok.zP,I.os,I.bare,I.aT,I.loc,I.cell,I.free,I.wK,I.pin,I.iW,I.len⟩
theorem SP.zP{D:Kk}{f:Flow}{s':aZ}(h:SP (X.Oy E) aI D f s'):SP X aI D f s':=by
 cases f with
 |next=>obtain⟨σ',H',I,q⟩:=h;exact⟨σ',H',I.zP,q⟩
 |brk=>obtain⟨σ',H',I,q⟩:=h;exact⟨σ',H',I.zP,q⟩
 |cont=>obtain⟨σ',H',I,q⟩:=h;exact⟨σ',H',I.zP,q⟩
 |ret u=>obtain⟨v,σ',H',I,r,q⟩:=h;exact⟨v,σ',H',I.zP,r,q⟩
theorem EY.D1{st:List Stmt}{t:TS}(h:EY X.D1 st t):EY X st t:=fun aI s σ H D I hw=>iE (h aI s σ H D (I.Oy _) hw) (fun _ _ q=>q.zP) fun _ _ z=>fP z
end
section
variable {X:Cx} {st:Stmt} {rest:List Stmt} {t u:TS} {e:Expr} {te:TE} {pos:Pos}
def Qm:TS:=fun D σ H=>D.nx σ H
def Kx(t u:TS):TS:=fun D σ H=>t {D with nx:=u D} σ H
theorem dX:EY X [] Qm:=fun _ _ σ H _ I h=>vD ⟨σ,H,I,h⟩
theorem aJ(h1:PS X st t)(h2:EY X rest u):EY X (st::rest) (Kx t u):=by
 intro aI s σ H D I h;refine wpAny_execs_cons (iX (h1 aI s σ H {D with nx:=u D} I h) fun f s1 q=>?_);cases f with
 |next=>obtain⟨σ',H',I',q⟩:=q;exact h2 aI s1 σ' H' D I' q
 |ret v=>exact q
 |brk=>exact q
 |cont=>exact q
theorem aU(h1:PS X st t):EY X [st] t:=by
 intro aI s σ H D I h;refine wpAny_execs_cons (iX (h1 aI s σ H D I h) fun f s1 q=>?_);cases f with
 |next=>exact vD q
 |ret v=>exact q
 |brk=>exact q
 |cont=>exact q
theorem dP.quiet{σ:St}(I:dP X aI σ H s):interactive X.env=false:=by simp[interactive,I.ok.kind]
def bw(te:TE):TS:=fun D σ H=>te σ H fun _ H1=>D.nx σ H1
theorem fM(he:PE X e te)(hs:wY e none pos.line X.env=pure false:=by rfl):PS X (.Expr e pos) (bw te):=by intro aI s σ H D I h;exact wpAny_Expr_any (iX (he aI s σ H _ I h) fun v s1 ⟨x,H1,I1,r1,q1⟩=>⟨σ,H1,I1,q1⟩) I.quiet hs
def Jm(te:TE):TS:=fun D σ H=>te σ H D.rt
theorem cO(he:PE X e te):PS X (.Return (some e) pos) (Jm te):=by intro aI s σ H D I h;exact wpAny_Return_some (iX (he aI s σ H _ I h) fun v s1 ⟨x,H1,I1,r1,q1⟩=>⟨x,σ,H1,I1,r1,q1⟩)
def vt:TS:=fun D _ H=>D.rt .iU H
theorem GL:PS X (.Return none pos) vt:=fun _ _ σ H _ I h=>wpAny_Return_none ⟨.iU,σ,H,I,rfl,h⟩
def JI(c:TT)(t u:TS):TS:=fun D σ H=>c σ H fun b H1=>if b=true then t D σ H1 else u D σ H1
theorem gN{c:Expr}{a b:List Stmt}{tc:TT}(hc:PT X c tc)(ha:EY X a t)(hb:EY X b u):PS X (.If c a b pos) (JI tc t u):=by
 intro aI s σ H D I h;refine wpAny_If (iX (hc aI s σ H _ I h) fun d s1 ⟨H1,I1,q1⟩=>?_);cases d with
 |true=>exact ha aI s1 σ H1 D I1 q1
 |false=>exact hb aI s1 σ H1 D I1 q1
end
abbrev TG:=V->St->Hp->(St->Hp->Prop)->Prop
abbrev rq:=Lv->St->Hp->(St->Hp->Prop)->Prop
def PG(X:Cx)(cE:Expr)(t:TG):Prop:=
 ∀(aI:List (Addr×Obj)) (s:aZ) (σ:St) (H:Hp) (v:V) (u:Value) (Q:St->Hp->Prop),dP X aI σ H s->gC v u->t v σ H Q->
  wpAny (model X.prog X.w) X.A (assign cE X.env u) (fun _ s'=>∃σ' H',dP X aI σ' H' s'/\Q σ' H') X.xe s
def W6(X:Cx)(ts:List Expr)(t:rq):Prop:=
 ∀(aI:List (Addr×Obj)) (s:aZ) (σ:St) (H:Hp) (vs:Lv) (us:Lu) (Q:St->Hp->Prop),dP X aI σ H s->fN vs us->t vs σ H Q->
  wpAny (model X.prog X.w) X.A (assignInOrder ((Km ts X.env).map (·.2)) us) (fun _ s'=>∃σ' H',dP X aI σ' H' s'/\Q σ' H') X.xe s
abbrev Q4:=V->V->Hp->VK->Prop
def W5(X:Cx)(op:Operator)(t:Q4):Prop:=
 ∀(aI:List (Addr×Obj)) (s:aZ) (σ:St) (H:Hp) (x y:V) (v u:Value) (Q:VK),dP X aI σ H s->gC x v->gC y u->t x y H Q->
  wpAny (model X.prog X.w) X.A (inplaceOp op v u) (EP X aI σ Q) X.xe s
section
variable {X:Cx} {pos:Pos}
def mF(i:Nat):TG:=fun v σ H Q=>Q (σ.set i (some v)) H
theorem Eo(hN:X.N.Nodup)(hi:X.N[i]? =some x)(hx:bp X.env.scope x)(hf:X.fn x=true∨X.env.scope.names.lookup x=some .local:=by first|exact .inl rfl|exact .inr rfl|assumption):PG X (.Name x pos) (mF i):=by intro aI s σ H v u Q I r h;exact wpAny_assign_Name (Lb I hN hi hx r (fun s' I'=>⟨_,H,I',h⟩) hf)
def qi:rq:=fun vs σ H Q=>vs=[]/\Q σ H
def Rv(t:TG)(u:rq):rq:=fun vs σ H Q=>E2 fun v r=>vs=v::r/\t v σ H fun σ' H'=>u r σ' H' Q
theorem kI:W6 X [] qi:=by intro aI s σ H vs us Q I r h;obtain⟨e,h⟩:=h;subst e;cases r;exact assignInOrder_nil ⟨σ,H,I,h⟩
theorem dF{t:TG}{u:rq}(h1:PG X e t)(h2:W6 X es u)
  (hs:(Km (e::es) X.env).map (·.2)=assign e X.env::(Km es X.env).map (·.2):=by rfl):W6 X (e::es) (Rv t u):=by
 intro aI s σ H vs us Q I r h
 obtain⟨v,vr,e1,h⟩:=h
 subst e1
 cases r with
 |cons r rr=>rw[hs];refine assignInOrder_cons (iX (h1 aI s σ H _ _ _ I r h) fun _ s1 ⟨σ1,H1,I1,q1⟩=>?_);exact h2 aI s1 σ1 H1 _ _ Q I1 rr q1
def qh(K:aX)(n:Nat)(t:rq):TG:=fun v σ H Q=>E2 fun a xs=>A4 (v=.ref a) (Wj K H a xs) (xs.length=n) (t xs σ H Q)
theorem mP{k:Nat}{t:rq}{n:Nat}(hc:X.calm=true)(h:W6 X es t)
  (hn:(Km es X.env).length=n:=by rfl) (Wh:(Km es X.env).findIdx? (·.1)=none:=by rfl):PG X (.Tuple es k pos) (qh X.K n t):=by
 intro aI s σ H v u Q I r hw
 obtain⟨a,xs,e1,hq,hl,hw⟩:=hw
 subst e1
 cases r
 obtain⟨gF,rv,ht,hz⟩:=I.tuple hq
 refine assign_Tuple_tuple (I.ok.hd hc) ht (by simp[hn,<-hl,rv.length]) Wh fun h' hx=>?_
 have I1:dP X aI σ H {s with heap:=h'}:=I.kept (t':=s.toks) fun b o e=>hx b o (fA (cM e)) e
 exact h aI _ σ H xs _ Q I1 (by simpa using rv) hw
def Xb(te:TE)(g:TG):TS:=fun D σ H=>te σ H fun x H1=>g x σ H1 D.nx
theorem Tx{te:TE}{pos':Pos}(hN:X.N.Nodup)(hi:X.N[i]? =some x)(hx:bp X.env.scope x)(he:PE X e te)(hs:wY e (some (.Name x pos')) pos.line X.env=pure false:=by rfl)(hf:X.fn x=true∨X.env.scope.names.lookup x=some .local:=by first|exact .inl rfl|exact .inr rfl|assumption):
  PS X (.Assign [.Name x pos'] e pos) (Xb te (mF i)):=by
 intro aI s σ H D I h
 refine wpAny_Assign_Name (iX (he aI s σ H _ I h) fun v s1 ⟨y,H1,I1,r1,q1⟩=>?_) hs
 exact Lb I1 hN hi hx r1 (fun s2 I2=>⟨_,H1,I2,q1⟩) hf
def JK(i:Nat)(te:TE)(ti:Q4):TS:=fun D σ H=>∃x,σ[i]? =some (some x)/\te σ H fun y H1=>ti x y H1 fun z H2=>D.nx (σ.set i (some z)) H2
theorem kf{te:TE}{op:Operator}{ti:Q4}{pos':Pos}(hN:X.N.Nodup)(hi:X.N[i]? =some x)(hx:bp X.env.scope x)(he:PE X e te)(ho:W5 X op ti)(hf:X.fn x=true∨X.env.scope.names.lookup x=some .local:=by first|exact .inl rfl|exact .inr rfl|assumption):
  PS X (.AugAssign (.Name x pos') op e pos) (JK i te ti):=by
 intro aI s σ H D I h
 obtain⟨v,e1,h⟩:=h
 obtain⟨m,hn,hl⟩:=I.loc
 have MB:ro X.env.scope x:=by rcases hx with k|k;exact .inl k;exact .inr (.inl k)
 obtain⟨u,r,l⟩:=hl i x v hi e1 MB
 refine wpAny_AugAssign_Name ?_
 have go:wpAny (model X.prog X.w) X.A (eval e X.env) (fun w s₂=>wpAny (model X.prog X.w) X.A (inplaceOp op u w) (fun r s₃=>wpAny (model X.prog X.w) X.A (storeName X.env x r) (fun _=>SP X aI D .next) X.xe s₃) X.xe s₂) X.xe s:=by refine iX (he aI s σ H _ I h) fun w s1 ⟨y,H1,I1,r1,q1⟩=>?_;refine iX (ho aI s1 σ H1 v y u w _ I1 r r1 q1) fun z s2 ⟨zv,H2,I2,r2,q2⟩=>?_;exact Lb I2 hN hi hx r2 (fun s3 I3=>⟨_,H2,I3,q2⟩) hf
 rcases l with ⟨hk,hm⟩|⟨hk,c,hc,HU⟩
 .exact VY I.ok.kind hk hn hm go
 .rcases hk with hk|hk
  .exact wpAny_loadName_cell I.ok.kind hk hc HU go
  .rcases hx with k|k
   .have:X.env.scope.names.lookup x=some .free:=hk;rw[k]at this;cases this
   .have:X.env.scope.names.lookup x=some .free:=hk;rw[k]at this;cases this
def ue(f:Int->Int->Int):Q4:=fun x y H Q=>E2 fun i j=>A3 (x=.int i) (y=.int j) (Q (.int (f i j)) H)
theorem Cy:W5 X .Add (ue fun i j=>i+j):=by intro aI s σ H x y v u Q I r1 r2 h;obtain⟨i,j,e1,e2,q⟩:=h;subst e1;subst e2;obtain⟨t,rfl⟩:=r1;obtain⟨t',rfl⟩:=r2;exact iadd_int ⟨.int _,H,I.tok _,⟨_,rfl⟩,q⟩
theorem RU:W5 X .Sub (ue fun i j=>i-j):=by intro aI s σ H x y v u Q I r1 r2 h;obtain⟨i,j,e1,e2,q⟩:=h;subst e1;subst e2;obtain⟨t,rfl⟩:=r1;obtain⟨t',rfl⟩:=r2;exact isub_int ⟨.int _,H,I.tok _,⟨_,rfl⟩,q⟩
end
section
variable {X:Cx} {pos:Pos}
def NV(c:TT)(tb:TS):TS:=fun D σ H=>∃W:Nat->St->Hp->Prop,(∃m,W m σ H)/\∀m σ H,W m σ H->
 c σ H fun b H1=>if b=true then ∃N:St->Hp->Prop,(∀σ' H',N σ' H'->∃m',m'<m/\W m' σ' H')/\tb {D with nx:=N,ct:=N,bk:=D.nx} σ H1 else D.nx σ H1
theorem wA{c:Expr}{tc:TT}{tb:TS}(hp:PassesOwn (model X.prog X.w) X.A X.env X.xe)(hc:PT X c tc)(hb:EY X body tb):PS X (.While c body [] pos) (NV tc tb):=by
 intro aI s σ H D I h;obtain⟨W,⟨m0,w0⟩,turn⟩:=h;refine wpAny_While (codeAny_whileLoop (fun n s'=>∃σ' H',dP X aI σ' H' s'/\W n σ' H') ?_ m0 ⟨σ,H,I,w0⟩);rintro n s1 ⟨σ1,H1,I1,w1⟩;refine kO hp (iX (hc aI s1 σ1 H1 _ I1 (turn n σ1 H1 w1)) fun b s2 ⟨H2,I2,q2⟩=>?_);cases b with
 |true=>
  obtain⟨N,hN,q2⟩:=q2;rw[if_pos rfl];refine kO hp (iX (hb aI s2 σ1 H2 _ I2 q2) fun f s3 q3=>?_);cases f with
  |next=>obtain⟨σ3,H3,I3,n3⟩:=q3;obtain⟨m',hm,w3⟩:=hN σ3 H3 n3;exact⟨m',hm,σ3,H3,I3,w3⟩
  |cont=>obtain⟨σ3,H3,I3,n3⟩:=q3;obtain⟨m',hm,w3⟩:=hN σ3 H3 n3;exact⟨m',hm,σ3,H3,I3,w3⟩
  |brk=>exact q3
  |ret v=>exact q3
 |false=>rw[if_neg bY];exact vD ⟨σ1,H2,I2,q2⟩
end
structure It where
 go:Nat->Hp->Prop
 BL:Nat->Hp->V->Hp->Prop
 stop:Nat->Hp->Prop
def Ob(X:Cx)(aI:List (Addr×Obj))(H:Hp)(b:Addr):Prop:=
 H b=none/\b≠X.env.locals/\b∉X.fs/\(b∈X.ex∨X.Qq.heap.objs.size<=b)/\(∀x c,X.env.cells.lookup x=some c->c≠b)/\∀p∈X.pn++aI,p.1≠b
theorem dP.SV{X:Cx}{σ:St}{H':Hp}(I:dP X aI σ H s)(hb:s.heap.objs.size<=b)(hn:H' b=none):Ob X aI H' b:=by
 refine⟨hn,Jg (cA I.lt hb),I.j9 hb,.inr (bK I.sz hb),fun x c e z=>?_,fun p hp z=>?_⟩
 .obtain⟨v,q⟩:=I.cell x c e;exact absurd (cA q.lt (by rw[z];exact hb)) (jR _)
 .exact absurd (cA (cM (I.pin p hp).1) (by rw[z];exact hb)) (jR _)
structure Om(P:dJ)(w:World)(K:aX)(tg:Expr)(J:It)(fp:La)(it:Addr)(tn:Nat->Heap->Prop):Prop where
 mem:it∈fp
 obj:∀i h,tn i h->∀b∈fp,∃o,h.get? b=some o/\∀v,o.data≠.cell v
 keep:∀i h h',tn i h->(∀b∈fp,∀o,h.get? b=some o->h'.get? b=some o)->tn i h'
 item:∀(X:Cx),X.prog=P->X.w=w->X.K=K->X.calm=true->∀(i:Nat) (aI:List (Addr×Obj)) (s:aZ) (σ:St) (H:Hp) (E:Value->aZ->Prop),dP X aI σ H s->(∀b∈fp,Ob X aI H b)->tn i s.heap->J.go i H->
  wpAny (model P w) X.A (AZ (.ref it)) (fun r s1=>∃u,r=some u/\
   wpAny (model P w) X.A (letOwnedTupleGo tg (.ref it) u) (fun _ s2=>∃x H',dP X aI σ H' s2/\gC x u/\J.BL i H x H'/\tn (i+1) s2.heap/\∀b∈fp,H' b=none) E s1) E s
 done:∀(X:Cx),X.prog=P->X.w=w->X.K=K->X.calm=true->∀(i:Nat) (aI:List (Addr×Obj)) (s:aZ) (σ:St) (H:Hp) (E:Value->aZ->Prop),dP X aI σ H s->(∀b∈fp,Ob X aI H b)->tn i s.heap->J.stop i H->
  wpAny (model P w) X.A (AZ (.ref it)) (fun r s1=>r=none/\dP X aI σ H s1) E s
 self:∀(A:gQ) (i:Nat) (s:aZ) (Q:Value->aZ->Prop) (E:Value->aZ->Prop),tn i s.heap->Q (.ref it) s->wpAny (model P w) A (NC (.ref it)) Q E s
abbrev TI:=St->Hp->(It->Hp->Prop)->Prop
inductive Q7(X:Cx)(aI:List (Addr×Obj))(σ:St)(tg:Expr)(R:It->Hp->Prop)(T1:Value)(s2:aZ):Prop|mk
 (it:Addr) (fp:La) (tn:Nat->Heap->Prop) (J:It) (H':Hp):T1=.ref it->dP X aI σ H' s2->Om X.prog X.w X.K tg J fp it tn->tn 0 s2.heap->(∀b∈fp,Ob X aI H' b)->R J H'->Q7 X aI σ tg R T1 s2
def PI(X:Cx)(tg iter:Expr)(wi:TI):Prop:=
 ∀(aI:List (Addr×Obj)) (s:aZ) (σ:St) (H:Hp) (R:It->Hp->Prop),dP X aI σ H s->wi σ H R->
  wpAny (model X.prog X.w) X.A (eval iter X.env) (fun v s1=>wpAny (model X.prog X.w) X.A (NC v) (Q7 X aI σ tg R) X.xe s1) X.xe s
theorem Ru{it:Addr}{o:Obj}{n:String}{vs:Array Value}{Q:Unit->aZ->Prop}(ho:s.heap.get? it=some o)(hc:o.cls=.type n)(hd:o.data=.fields vs)
  (hn:["enumerate","zip","dict_itemiterator","dict_reverseitemiterator","odict_iterator","itertools.zip_longest","itertools.pairwise"].contains n=false) (hQ:Q () s):wpAny M A (letOwnedTupleGo tg (.ref it) u) Q E s:=by
 unfold letOwnedTupleGo
 cases tg<;>first
  |exact bO hQ
  |(cases u<;>first
    |exact bO hQ
    |(refine aS (wpAny_load ho ?_)
      rw[hc,hd]
      show wpAny M A (if (["enumerate","zip","dict_itemiterator","dict_reverseitemiterator","odict_iterator","itertools.zip_longest","itertools.pairwise"].contains n&&vs[0]? ==some (Ss _))=true then _ else _) Q E s
      rw[if_neg (by intro h;rw[hn,Qg]at h;cases h)]
      exact bO hQ))
def fj(K:aX)(a:Addr):It:=
 ⟨fun i H=>∃xs x,iY K H a xs/\xs[i]? =some x,fun i H x H'=>H'=H/\∀xs,iY K H a xs->xs[i]? =some x,fun i H=>∃xs,iY K H a xs/\xs.length<=i⟩
def VS(lo:Int)(n:Nat):It:=⟨fun i _=>i<n,fun i H x H'=>H'=H/\x=.int (lo+i),fun i _=>n<=i⟩
theorem JC(a it:Addr):Om P w K tg (fj K a) [it] it (fun i h=>h.IsListIter it a i) where
 mem:=by simp
 obj:=fun i h st b hb=>by
  have e:b=it:=by simpa using hb
  subst e;obtain⟨o,e,c,d⟩:=st;exact⟨o,e,fun v z=>by rw[d]at z;cases z⟩
 keep:=fun i h h' st k=>st.at fun o e=>k it (by simp) o e
 item:=by intro X hP hw hK hc i aI s σ H E I hf st hg;subst hP hw hK;obtain⟨xs,x,hq,hx⟩:=hg;obtain⟨gF,rv,p,hz⟩:=I.list hq;obtain⟨u,hu,ru⟩:=rv.get hx;obtain⟨f0,f1,f2,f3,f4,f5⟩:=hf it (by simp);refine wpAny_pyNext_list_item st p.isList (x:=u) (by simpa using hu) fun h' Wf sb=>?_;have I1:dP X aI σ H {s with heap:=h'}:=I.turned (t':=s.toks) (fun b o hb e=>(sb.2 b hb).trans e) f0 f1 f3 f4 f5;obtain⟨o,e,c,d⟩:=id Wf;exact⟨u,rfl,Ru (s:={s with heap:=h'}) e c d (by decide) ⟨x,H,I1,ru,⟨rfl,fun ys hy=>by rw[I.Mp hy hq];exact hx⟩,Wf,fun b hb=>(hf b hb).1⟩⟩
 done:=by intro X hP hw hK hc i aI s σ H E I hf st hg;subst hP hw hK;obtain⟨xs,hq,hx⟩:=hg;obtain⟨gF,rv,p,hz⟩:=I.list hq;obtain⟨f0,f1,f2,f3,f4,f5⟩:=hf it (by simp);have hl:=rv.length;exact wpAny_pyNext_list_end (I.ok.hd hc) st p.isList (by simp;lia) fun h' eb=>⟨rfl,I.turned (t':=s.toks) (fun b o hb e=>eb b o hb e) f0 f1 f3 f4 f5⟩
 self:=fun _ _ _ _ _ st h=>wpAny_pyIter_listiter st h
theorem BO(it:Addr)(lo:Int)(n:Nat):Om P w K tg (VS lo n) [it] it (fun i h=>Wb h it (lo+(i:Nat)*1) ((n:Int)-(i:Nat)) 1) where
 mem:=by simp
 obj:=fun i h st b hb=>by
  have e:b=it:=by simpa using hb
  subst e
  exact⟨_,st,fun v z=>by
   have z':Data.fields _=Data.cell v:=z
   cases z'⟩
 keep:=fun i h h' st k=>k it (by simp) _ st
 item:=by intro X hP hw hK hc i aI s σ H E I hf st hg;subst hP hw hK;obtain⟨f0,f1,f2,f3,f4,f5⟩:=hf it (by simp);have W:=Walks.range (prog:=X.prog) (w:=X.w) (I.ok.hd hc) it lo 1 n;refine W.item i s _ _ hg st fun v h' tk hv Wf kk=>?_;obtain⟨t,rfl⟩:=hv;have I1:dP X aI σ H {s with heap:=h',toks:=tk}:=I.turned (fun b o hb e=>kk b o (by simpa using hb) e) f0 f1 f3 f4 f5;refine⟨_,rfl,Ru (s:={s with heap:=h',toks:=tk}) (n:="range_iterator") Wf rfl rfl (by decide) ⟨.int (lo+i),H,I1,⟨t,?_⟩,⟨rfl,rfl⟩,Wf,fun b hb=>(hf b hb).1⟩⟩;rw[Int.mul_one]
 done:=by intro X hP hw hK hc i aI s σ H E I hf st hg;subst hP hw hK;obtain⟨f0,f1,f2,f3,f4,f5⟩:=hf it (by simp);exact MZ (I.ok.hd hc) st (by have:n<=i:=hg;lia) fun h' eb=>⟨rfl,I.turned (t':=s.toks) (fun b o hb e=>eb b o hb e) f0 f1 f3 f4 f5⟩
 self:=fun _ _ _ _ _ st h=>NA st h
section
variable {X:Cx} {tg:Expr}
def My(K:aX)(tl:TE):TI:=fun σ H R=>tl σ H fun x H1=>∃a,A3 (x=.ref a) (∃xs,iY K H1 a xs) (R (fj K a) H1)
theorem gT{l:Expr}{tl:TE}(hl:PE X l tl):PI X tg l (My X.K tl):=by
 intro aI s σ H R I h;refine iX (hl aI s σ H _ I h) fun v s1 ⟨x,H1,I1,r1,q1⟩=>?_;obtain⟨a,e,⟨xs,hq⟩,q⟩:=q1;subst e;cases r1;obtain⟨gF,rv,p,hz⟩:=I1.list hq;refine wpAny_pyIter_list p.isList ?_;refine⟨s1.heap.objs.size,[s1.heap.objs.size],_,_,H1,rfl,I1.kept (t':=s1.toks) fun b o e=>bU _ e,JC a _,⟨_,cG _ rfl,rfl,rfl⟩,fun b hb=>?_,q⟩;have e:b=s1.heap.objs.size:=by simpa using hb
 subst e;exact I1.SV (aY _) (I1.iW.fresh (aY _))
theorem Xr{σ:St}{R:It->Hp->Prop}{lo hi:Int}{t u v:Tok}{tk:Nat}(I:dP X aI σ H s)(h1: -(2^62)<=lo)(h2:lo<2^62)(h3: -(2^62)<=hi)(h4:hi<2^62)
  (q:R (VS lo (hi-lo).toNat) H):wpAny (model X.prog X.w) X.A (NC (.ref s.heap.objs.size)) (Q7 X aI σ tg R) E {s with heap:=s.heap.push {cls:=.type "range",data:=.fields #[.int lo t,.int hi u,.int 1 v]},toks:=tk}:=by
 refine wpAny_pyIter_range (IsRange.new ..) (small_one h1 h2 h3 h4) ?_
 have I1:dP X aI σ H {s with heap:=s.heap.push {cls:=.type "range",data:=.fields #[.int lo t,.int hi u,.int 1 v]},toks:=tk}:=I.kept fun b o e=>bU _ e
 refine⟨(s.heap.push {cls:=.type "range",data:=.fields #[.int lo t,.int hi u,.int 1 v]}).objs.size,[(s.heap.push {cls:=.type "range",data:=.fields #[.int lo t,.int hi u,.int 1 v]}).objs.size],_,_,H,rfl,
  I1.kept (t':=tk) fun b o e=>bU _ e,BO _ lo (hi-lo).toNat,?_,fun b hb=>?_,q⟩
 .have e1:lo+((0:Nat):Int)*1=lo:=by simp
  have e2:(((hi-lo).toNat:Nat):Int)-((0:Nat):Int)=tP lo hi 1:=by rw[rangeSize_one];split<;>lia
  show Wb _ _ (lo+((0:Nat):Int)*1) ((((hi-lo).toNat:Nat):Int)-((0:Nat):Int)) 1;rw[e1,e2];exact cG _ rfl
 .have e:b=(s.heap.push {cls:=.type "range",data:=.fields #[.int lo t,.int hi u,.int 1 v]}).objs.size:=by simpa using hb
  subst e;exact I1.SV (aY _) (I1.iW.fresh (aY _))
def RW(ta:TA):TI:=fun σ H R=>ta σ H fun vs H1=>∃j:Int,A4 (vs=[.int j]) (-(2^62)<=j) (j<2^62) (R (VS 0 j.toNat) H1)
def G2(ta:TA):TI:=fun σ H R=>ta σ H fun vs H1=>E2 fun(i j:Int)=>A3 (vs=[.int i,.int j]) (-(2^62)<=i/\i<2^62/\ -(2^62)<=j/\j<2^62) (R (VS i (j-i).toNat) H1)
theorem Ba{a:Expr}{ta:TA}{p pos:Pos}(hg:Gl X "range")(hm:X.mg "range"=none)(ha:PA X [a] ta)(hs:dD [a] X.env=[(false,eval a X.env)]:=by rfl):PI X tg (.Call (.Name "range" p) [a] [] pos) (RW ta):=by
 intro aI s σ H R I h;refine Call_ (Hi I hg hm boot_range (jT (iX (ha pos aI s σ H _ I h) fun us s1 ⟨vs,H1,I1,r1,q1⟩=>?_) hs rfl));obtain⟨j,e,q1,q2,q⟩:=q1;subst e;cases r1 with
 |cons r rr=>cases rr;obtain⟨t,rfl⟩:=r;exact call_range_1 (Xr I1 (by lia) (by lia) q1 q2 (by simpa using q))
theorem Qy{a b:Expr}{ta:TA}{p pos:Pos}(hg:Gl X "range")(hm:X.mg "range"=none)(ha:PA X [a,b] ta)(hs:dD [a,b] X.env=[(false,eval a X.env),(false,eval b X.env)]:=by rfl)(G9:dD [b] X.env=[(false,eval b X.env)]:=by rfl):
  PI X tg (.Call (.Name "range" p) [a,b] [] pos) (G2 ta):=by
 intro aI s σ H R I h
 refine Call_ (Hi I hg hm boot_range (jT (iX (ha pos aI s σ H _ I h) fun us s1 ⟨vs,H1,I1,r1,q1⟩=>?_) (by rw[hs,G9]) (by rw[G9];rfl)))
 obtain⟨i,j,e,⟨q1,q2,q3,q4⟩,q⟩:=q1
 subst e
 cases r1 with
 |cons r rr=>
  cases rr with
  |cons r' rr=>cases rr;obtain⟨t,rfl⟩:=r;obtain⟨t',rfl⟩:=r';exact call_range_2 (Xr I1 q1 q2 q3 q4 q)
def NY(wi:TI)(g:TG)(tb:TS):TS:=fun D σ H=>wi σ H fun J H1=>∃W:Nat->Nat->St->Hp->Prop,(∃m,W 0 m σ H1)/\∀i m σ H,W i m σ H->
 (J.stop i H/\D.nx σ H)∨(J.go i H/\∃N:St->Hp->Prop,(∀σ' H',N σ' H'->∃m',m'<m/\W (i+1) m' σ' H')/\∀x H',J.BL i H x H'->g x σ H' fun σ2 H2=>tb {D with nx:=N,ct:=N,bk:=D.nx} σ2 H2)
def Lq(fp:La)(h:Heap):List (Addr×Obj):=fp.filterMap fun b=>(h.get? b).map fun o=>(b,o)
theorem Cu{o:Obj}(hb:b∈fp)(e:h.get? b=some o):(b,o)∈Lq fp h:=kZ.mpr ⟨b,hb,by rw[e];rfl⟩
theorem KA{p:Addr×Obj}(hp:p∈Lq fp h):p.1∈fp/\h.get? p.1=some p.2:=by
 obtain⟨b,hb,e⟩:=kZ.mp hp;cases q:h.get? b with
 |none=>rw[q]at e;cases e
 |some o=>rw[q]at e;have e':(b,o)=p:=bC e;subst e';exact⟨hb,q⟩
theorem dP.pinned{σ:St}(I:dP X aI σ H s)(hf:∀b∈fp,Ob X aI H b)(ho:∀b∈fp,∃o,s.heap.get? b=some o/\∀v,o.data≠.cell v):dP X (aI++Lq fp s.heap) σ H s:=
 I.GP fun p hp=>(aN.mp hp).elim (fun z=>I.pin p (dR _ z)) fun z=>by obtain⟨hb,e⟩:=KA z;obtain⟨f0,f1,f2,_⟩:=hf p.1 hb;obtain⟨o,e',d⟩:=ho p.1 hb;rw[e]at e';cases e';exact⟨e,f0,f1,f2,d⟩
theorem dP.Dv{pl:List (Addr×Obj)}{σ:St}(I:dP X (aI++pl) σ H s):dP X aI σ H s:=I.GP fun p hp=>I.pin p (dR _ (dA _ hp))
theorem gR{iter:Expr}{wi:TI}{g:TG}{tb:TS}{pos:Pos}(hp:PassesOwn (model X.prog X.w) X.A X.env X.xe)(hc:X.calm=true)(hi:PI X tg iter wi)(hg:PG X tg g)(hb:EY X body tb)
  (hs:∀x,yY iter X.env x=pure x:=by intro _;rfl):PS X (.For tg iter body [] pos) (NY wi g tb):=by
 intro aI s σ H D I h
 refine wpAny_For (iX (hi aI s σ H _ I h) fun v s1 h1=>iX h1 fun T1 s2 h2=>?_) hs
 obtain⟨it,fp,tn,J,H2,e,I2,T,S0,f2,W,⟨m0,w0⟩,turn⟩:=h2
 subst e
 have BY:∀{H':Hp},(∀b∈fp,H' b=none)->∀b∈fp,Ob X aI H' b:=fun hn b hb=>⟨hn b hb,(f2 b hb).2⟩
 refine codeAny_forLoop_any (fun n s'=>∃i σ' H',dP X aI σ' H' s'/\tn i s'.heap/\(∀b∈fp,H' b=none)/\W i n σ' H') ?_ m0 ⟨0,σ,H2,I2,S0,fun b hb=>(f2 b hb).1,w0⟩
 rintro n s3 ⟨i,σ3,H3,I3,R9,O5,w3⟩
 rcases turn i n σ3 H3 w3 with ⟨stop,qn⟩|⟨go,N,hN,step⟩
 .refine kO hp (iX (T.done X rfl rfl rfl hc i aI s3 σ3 H3 X.xe I3 (BY O5) R9 stop) fun r s4 ⟨hr,I4⟩=>?_);subst hr;exact vD ⟨σ3,H3,I4,qn⟩
 .refine kO hp (iX (T.item X rfl rfl rfl hc i aI s3 σ3 H3 X.xe I3 (BY O5) R9 go) fun r s4 ⟨u,hr,h4⟩=>?_);subst hr;refine kO hp (iX h4 fun _ s5 ⟨x,H5,I5,r5,y5,tj,fr5⟩=>?_);have I5':=I5.pinned (BY fr5) (T.obj _ _ tj);refine kO hp (iX (hg _ s5 σ3 H5 x u _ I5' r5 (step x H5 y5)) fun _ s6 ⟨σ6,H6,I6,q6⟩=>?_);refine kO hp (iX (hb _ s6 σ6 H6 _ I6 q6) fun f s7 q7=>?_);have again:∀{σ7:St} {H7:Hp},dP X (aI++Lq fp s5.heap) σ7 H7 s7->N σ7 H7->∃m,m<n/\∃i σ' H',dP X aI σ' H' s7/\tn i s7.heap/\(∀b∈fp,H' b=none)/\W i m σ' H':=fun{σ7 H7} I7 n7=>by obtain⟨m',hm,w7⟩:=hN σ7 H7 n7;refine⟨m',hm,i+1,σ7,H7,I7.Dv,T.keep _ _ _ tj fun b hb o e=>(I7.pin (b,o) (dR _ (dR _ (Cu hb e)))).1,fun b hb=>?_,w7⟩;obtain⟨o,e,d⟩:=T.obj _ _ tj b hb;exact(I7.pin (b,o) (dR _ (dR _ (Cu hb e)))).2.1
  cases f with
  |next=>obtain⟨σ7,H7,I7,n7⟩:=q7;exact again I7 n7
  |cont=>obtain⟨σ7,H7,I7,n7⟩:=q7;exact again I7 n7
  |brk=>obtain⟨σ7,H7,I7,q7⟩:=q7;exact⟨σ7,H7,I7.Dv,q7⟩
  |ret v=>obtain⟨x7,σ7,H7,I7,r7,q7⟩:=q7;exact⟨x7,σ7,H7,I7.Dv,r7,q7⟩
end
theorem mG{xs:Lv}{g:TG}{tb:TS}{D:Kk}{σ:St}(Pv:Nat->St->Hp->Prop)(h0:Pv 0 σ H)(hl:∀i σ H,i<=xs.length->Pv i σ H->iY K H a xs)
  (hs:∀i x σ H,xs[i]? =some x->Pv i σ H->g x σ H fun σ2 H2=>tb {D with nx:=Pv (i+1),ct:=Pv (i+1),bk:=D.nx} σ2 H2) (hd:∀σ H,Pv xs.length σ H->D.nx σ H):
  ∃W:Nat->Nat->St->Hp->Prop,(∃m,W 0 m σ H)/\∀i m σ H,W i m σ H->
   ((fj K a).stop i H/\D.nx σ H)∨((fj K a).go i H/\∃N:St->Hp->Prop,(∀σ' H',N σ' H'->∃m',m'<m/\W (i+1) m' σ' H')/\∀x H',(fj K a).BL i H x H'->g x σ H' fun σ2 H2=>tb {D with nx:=N,ct:=N,bk:=D.nx} σ2 H2):=by
 refine⟨fun i m σ H=>m=xs.length-i/\i<=xs.length/\Pv i σ H,⟨xs.length,by simp,cI _,h0⟩,?_⟩
 rintro i m σ H ⟨rfl,hi,p⟩
 have q:=hl i σ H hi p
 by_cases oT:i<xs.length
 .refine .inr ⟨⟨xs,xs[i],q,by simp[oT]⟩,Pv (i+1),fun σ' H' p'=>⟨xs.length-(i+1),by lia,rfl,oT,p'⟩,fun x H' y=>?_⟩;obtain⟨e,y⟩:=y;subst e;exact hs i x σ _ (y xs q) p
 .have e:i=xs.length:=by lia
  subst e;exact .inl ⟨⟨xs,q,aY _⟩,hd σ H p⟩
theorem Ho{lo:Int}{n:Nat}{g:TG}{tb:TS}{D:Kk}{σ:St}(Pv:Nat->St->Hp->Prop)(h0:Pv 0 σ H)
  (hs:∀i σ H,i<n->Pv i σ H->g (.int (lo+i)) σ H fun σ2 H2=>tb {D with nx:=Pv (i+1),ct:=Pv (i+1),bk:=D.nx} σ2 H2) (hd:∀σ H,Pv n σ H->D.nx σ H):
  ∃W:Nat->Nat->St->Hp->Prop,(∃m,W 0 m σ H)/\∀i m σ H,W i m σ H->
   ((VS lo n).stop i H/\D.nx σ H)∨((VS lo n).go i H/\∃N:St->Hp->Prop,(∀σ' H',N σ' H'->∃m',m'<m/\W (i+1) m' σ' H')/\∀x H',(VS lo n).BL i H x H'->g x σ H' fun σ2 H2=>tb {D with nx:=N,ct:=N,bk:=D.nx} σ2 H2):=by
 refine⟨fun i m σ H=>m=n-i/\i<=n/\Pv i σ H,⟨n,by simp,cI _,h0⟩,?_⟩
 rintro i m σ H ⟨rfl,hi,p⟩
 by_cases oT:i<n
 .refine .inr ⟨oT,Pv (i+1),fun σ' H' p'=>⟨n-(i+1),by lia,rfl,oT,p'⟩,fun x H' y=>?_⟩;obtain⟨e,y⟩:=y;subst e y;exact hs i σ _ oT p
 .have e:i=n:=by lia
  subst e;exact .inl ⟨aY _,hd σ H p⟩
abbrev R2:=V->V->Hp->VK->Prop
variable {r:R2}
def Ge(X:Cx)(f:Value->Value->Sem Value)(r:R2):Prop:=
 ∀(aI:List (Addr×Obj)) (s:aZ) (σ:St) (H:Hp) (x y:V) (v u:Value) (Q:VK),dP X aI σ H s->gC x v->gC y u->r x y H Q->
  wpAny (model X.prog X.w) X.A (f v u) (EP X aI σ Q) X.xe s
def UnR(X:Cx)(f:Value->Sem Value)(r:V->Hp->VK->Prop):Prop:=
 ∀(aI:List (Addr×Obj)) (s:aZ) (σ:St) (H:Hp) (x:V) (v:Value) (Q:VK),dP X aI σ H s->gC x v->r x H Q->
  wpAny (model X.prog X.w) X.A (f v) (EP X aI σ Q) X.xe s
def Sl(X:Cx)(f:Value)(r:Lv->Hp->VK->Prop):Prop:=
 ∀(aI:List (Addr×Obj)) (s:aZ) (σ:St) (H:Hp) (xs:Lv) (us:Lu) (Q:VK),dP X aI σ H s->fN xs us->r xs H Q->
  wpAny (model X.prog X.w) X.A (call f us) (EP X aI σ Q) X.xe s
def acM(X:Cx)(r:V->Hp->(Bool->Hp->Prop)->Prop):Prop:=
 ∀(aI:List (Addr×Obj)) (s:aZ) (σ:St) (H:Hp) (x:V) (v:Value) (Q:Bool->Hp->Prop),dP X aI σ H s->gC x v->r x H Q->
  wpAny (model X.prog X.w) X.A (truthy v) (TP X aI σ Q) X.xe s
def NX(r:R2)(ta tb:TE):TE:=fun σ H Q=>ta σ H fun x H1=>tb σ H1 fun y H2=>r x y H2 Q
def tUn(r:V->Hp->VK->Prop)(ta:TE):TE:=fun σ H Q=>ta σ H fun x H1=>r x H1 Q
inductive rI(C:Int->Int->Prop)(g:Int->Int->V)(x y:V)(H:Hp)(Q:VK):Prop|mk (i j:Int):x=.int i->y=.int j->C i j->Q (g i j) H->rI C g x y H Q
inductive GJ(g:Int->Int->V)(x y:V)(H:Hp)(Q:VK):Prop|mk (i j:Int):x=.int i->y=.int j->Q (g i j) H->GJ g x y H Q
def rU(g:Int->V):V->Hp->VK->Prop:=fun x H Q=>∃i,x=.int i/\Q (g i) H
section
variable {X:Cx} {a b c:Expr} {ta tb tc:TE} {pos:Pos}
theorem rh(ha:PE X a ta)(hb:PE X b tb){σ:St}{R:V->V->Hp->Prop}(I:dP X aI σ H s)
  (h:ta σ H fun x H1=>tb σ H1 fun y H2=>R x y H2) {Q:Value->aZ->Prop} {f:Value->Value->Sem Value}
  (hf:∀v u s2 x y H2,dP X aI σ H2 s2->gC x v->gC y u->R x y H2->wpAny (model X.prog X.w) X.A (f v u) Q X.xe s2):
  wpAny (model X.prog X.w) X.A (eval a X.env) (fun v s₁=>wpAny (model X.prog X.w) X.A (eval b X.env) (fun u s₂=>wpAny (model X.prog X.w) X.A (f v u) Q X.xe s₂) X.xe s₁) X.xe s:=by
 refine iX (ha aI s σ H _ I h) fun v s1 ⟨x,H1,I1,r1,q1⟩=>?_
 refine iX (hb aI s1 σ H1 _ I1 q1) fun u s2 ⟨y,H2,I2,r2,q2⟩=>?_
 exact hf v u s2 x y H2 I2 r1 r2 q2
theorem jY{op:Operator}(ho:Ge X (Gr op) r)(ha:PE X a ta)(hb:PE X b tb):PE X (.BinOp a op b pos) (NX r ta tb):=by intro aI s σ H Q I h;exact wpAny_BinOp (rh ha hb I h fun v u s2 x y H2 I2 rx ry q=>ho aI s2 σ H2 x y v u Q I2 rx ry q)
theorem Ly{op:UnaryOp}{r:V->Hp->VK->Prop}(ho:UnR X (unaryOp op) r)(ha:PE X a ta):PE X (.UnaryOp op a pos) (tUn r ta):=by intro aI s σ H Q I h;exact UnaryOp_ (iX (ha aI s σ H _ I h) fun v s1 ⟨x,H1,I1,r1,q1⟩=>ho aI s1 σ H1 x v Q I1 r1 q1)
theorem j5{C:Int->Int->Prop}
  (rule:∀(i j:Int) (t u:Tok) (s:aZ) (Q:Value->aZ->Prop) (E:Value->aZ->Prop),C i j->Q (.int (g i j) s.toks) {s with toks:=s.toks+1}->wpAny (model X.prog X.w) X.A (f (.int i t) (.int j u)) Q E s):
  Ge X f (rI C fun i j=>.int (g i j)):=by
 intro aI s σ H x y v u Q I rx ry h
 obtain⟨i,j,rfl,rfl,hc,q⟩:=h
 obtain⟨t,rfl⟩:=rx
 obtain⟨t',rfl⟩:=ry
 exact rule i j t t' s _ _ hc ⟨.int (g i j),H,I.tok _,⟨_,rfl⟩,q⟩
theorem ze
  (rule:∀(i j:Int) (t u:Tok) (s:aZ) (Q:Value->aZ->Prop) (E:Value->aZ->Prop),Q (.int (g i j) s.toks) {s with toks:=s.toks+1}->wpAny (model X.prog X.w) X.A (f (.int i t) (.int j u)) Q E s):
  Ge X f (GJ fun i j=>.int (g i j)):=by
 intro aI s σ H x y v u Q I rx ry h
 obtain⟨i,j,rfl,rfl,q⟩:=h
 obtain⟨t,rfl⟩:=rx
 obtain⟨t',rfl⟩:=ry
 exact rule i j t t' s _ _ ⟨.int (g i j),H,I.tok _,⟨_,rfl⟩,q⟩
theorem YF{g:Int->Int->Bool}
  (rule:∀(i j:Int) (t u:Tok) (s:aZ) (Q:Value->aZ->Prop) (E:Value->aZ->Prop),Q (.bool (g i j)) s->wpAny (model X.prog X.w) X.A (f (.int i t) (.int j u)) Q E s):
  Ge X f (GJ fun i j=>.bl (g i j)):=by
 intro aI s σ H x y v u Q I rx ry h
 obtain⟨i,j,rfl,rfl,q⟩:=h
 obtain⟨t,rfl⟩:=rx
 obtain⟨t',rfl⟩:=ry
 exact rule i j t t' s _ _ ⟨.bl (g i j),H,I,rfl,q⟩
def sj(i j:Int):Prop:=(-(2^64)<i/\i<2^64)∨(-(2^64)<j/\j<2^64)
theorem sj.ok{i j:Int}(h:sj i j):IntMulOk i j:=by
 rcases h with ⟨h1,h2⟩|⟨h1,h2⟩
 .exact .of_left (intBits_le_64 h1 h2)
 .exact .of_right (intBits_le_64 h1 h2)
theorem nY:Ge X (Gr .Add) (GJ fun i j=>.int (i+j)):=ze fun _ _ _ _ _ _ _ q=>add_int q
theorem Mb:Ge X (Gr .Sub) (GJ fun i j=>.int (i-j)):=ze fun _ _ _ _ _ _ _ q=>sub_int q
theorem QD:Ge X (Gr .Mult) (rI sj fun i j=>.int (i*j)):=j5 fun _ _ _ _ _ _ _ hc q=>mul_int q hc.ok
theorem QE:Ge X (Gr .Mod) (rI (fun _ j=>0<j) fun i j=>.int (i % j)):=j5 fun i j _ _ _ _ _ hc q=>by have h1:(0:Int)<j:=hc;exact mod_int' (by lia) (by rw[Int.fmod_eq_emod_of_nonneg i (by lia)];exact q)
theorem unI{f:Value->Sem Value}{g:Int->Int}
  (rule:∀(i:Int) (t:Tok) (s:aZ) (Q:Value->aZ->Prop) (E:Value->aZ->Prop),Q (.int (g i) s.toks) {s with toks:=s.toks+1}->wpAny (model X.prog X.w) X.A (f (.int i t)) Q E s):
  UnR X f (rU fun i=>.int (g i)):=by
 intro aI s σ H x v Q I rx h
 obtain⟨i,rfl,q⟩:=h
 obtain⟨t,rfl⟩:=rx
 exact rule i t s _ _ ⟨.int (g i),H,I.tok _,⟨_,rfl⟩,q⟩
theorem Cj:UnR X (unaryOp .USub) (rU fun i=>.int (-i)):=unI fun _ _ _ _ _ q=>neg_int q
end
def wg:V->V->Bool
 |.iU,.iU=>true|.iU,.int _=>true|.int _,.iU=>true|.iU,.bl _=>true|.bl _,.iU=>true|.iU,.str _=>true|.str _,.iU=>true
 |.int _,.int _=>true|.bl _,.bl _=>true|.str _,.str _=>true|.Wi _,.Wi _=>true
 |.int _,.str _=>true|.str _,.int _=>true|.bl _,.str _=>true|.str _,.bl _=>true
 |_,_=>false
def rEq:R2:=fun x y H Q=>wg x y=true/\Q (.bl (decide (x=y))) H
def rNe:R2:=fun x y H Q=>wg x y=true/\Q (.bl (!decide (x=y))) H
theorem IC{i j:Int}:decide (V.int i=V.int j)=(i==j):=by rw[nG];simp
theorem UC{i j:Bool}:decide (V.bl i=V.bl j)=(i==j):=by rw[nG];simp
theorem IB{i j:Str}:decide (V.str i=V.str j)=(i==j):=by rw[nG];simp
theorem ID{i j:Array UInt8}:decide (V.Wi i=V.Wi j)=(i.toList==j.toList):=by rw[nG];cases i;cases j;simp
section
variable {X:Cx} {a b c:Expr} {ta tb tc:TE} {pos:Pos}
theorem iF{σ:St}{Q:VK}{k k':Bool}(I:dP X aI σ H s)(q:Q (.bl k) H)(e:k=k'):EP X aI σ Q (.bool k') s:=by subst e;exact⟨.bl k,H,I,rfl,q⟩
theorem pF:Ge X (gD .Eq) rEq:=by
 intro aI s σ H x y v u Q I rx ry h;obtain⟨hs,q⟩:=h;cases x with
 |iU=>
  cases rx;cases y with
  |iU=>cases ry;exact PySem.EqNone.eq_none_none (iF I q (by simp))
  |bl j=>cases ry;exact PySem.EqNone.eq_none_bool (iF I q (by simp))
  |int j=>obtain⟨t',rfl⟩:=ry;exact PySem.EqNone.eq_none_int (iF I q (by simp))
  |str j=>obtain⟨t',rfl⟩:=ry;exact PySem.EqNone.eq_none_str (iF I q (by simp))
  |_=>exact absurd (show false=true from hs) bY
 |bl i=>
  cases rx;cases y with
  |iU=>cases ry;exact PySem.EqNone.eq_bool_none (iF I q (by simp))
  |bl j=>cases ry;exact eq_bool (iF I q UC)
  |str j=>obtain⟨t',rfl⟩:=ry;exact PySem.EqMixed.eq_bool_str (iF I q (by simp))
  |_=>exact absurd (show false=true from hs) bY
 |int i=>
  obtain⟨t,rfl⟩:=rx;cases y with
  |iU=>cases ry;exact PySem.EqNone.eq_int_none (iF I q (by simp))
  |int j=>obtain⟨t',rfl⟩:=ry;exact eq_int (iF I q IC)
  |str j=>obtain⟨t',rfl⟩:=ry;exact PySem.EqMixed.eq_int_str (iF I q (by simp))
  |_=>exact absurd (show false=true from hs) bY
 |str i=>
  obtain⟨t,rfl⟩:=rx;cases y with
  |iU=>cases ry;exact PySem.EqNone.eq_str_none (iF I q (by simp))
  |bl j=>cases ry;exact PySem.EqMixed.eq_str_bool (iF I q (by simp))
  |int j=>obtain⟨t',rfl⟩:=ry;exact PySem.EqMixed.eq_str_int (iF I q (by simp))
  |str j=>obtain⟨t',rfl⟩:=ry;exact eq_str (iF I q IB)
  |_=>exact absurd (show false=true from hs) bY
 |Wi i=>
  obtain⟨t,rfl⟩:=rx;cases y with
  |Wi j=>obtain⟨t',rfl⟩:=ry;exact PySem.W.eq_bytes (iF I q ID)
  |_=>exact absurd (show false=true from hs) bY
 |_=>cases y<;>exact absurd (show false=true from hs) bY
theorem zd:Ge X (gD .NotEq) rNe:=by
 intro aI s σ H x y v u Q I rx ry h;obtain⟨hs,q⟩:=h;cases x with
 |iU=>
  cases rx;cases y with
  |iU=>cases ry;exact PySem.EqNone.ne_none_none (iF I q (by simp))
  |bl j=>cases ry;exact PySem.EqNone.ne_none_bool (iF I q (by simp))
  |int j=>obtain⟨t',rfl⟩:=ry;exact PySem.EqNone.ne_none_int (iF I q (by simp))
  |str j=>obtain⟨t',rfl⟩:=ry;exact PySem.EqNone.ne_none_str (iF I q (by simp))
  |_=>exact absurd (show false=true from hs) bY
 |bl i=>
  cases rx;cases y with
  |iU=>cases ry;exact PySem.EqNone.ne_bool_none (iF I q (by simp))
  |bl j=>cases ry;exact ne_bool (iF I q (gL not UC))
  |str j=>obtain⟨t',rfl⟩:=ry;exact PySem.EqMixed.ne_bool_str (iF I q (by simp))
  |_=>exact absurd (show false=true from hs) bY
 |int i=>
  obtain⟨t,rfl⟩:=rx;cases y with
  |iU=>cases ry;exact PySem.EqNone.ne_int_none (iF I q (by simp))
  |int j=>obtain⟨t',rfl⟩:=ry;exact ne_int (iF I q (gL not IC))
  |str j=>obtain⟨t',rfl⟩:=ry;exact PySem.EqMixed.ne_int_str (iF I q (by simp))
  |_=>exact absurd (show false=true from hs) bY
 |str i=>
  obtain⟨t,rfl⟩:=rx;cases y with
  |iU=>cases ry;exact PySem.EqNone.ne_str_none (iF I q (by simp))
  |bl j=>cases ry;exact PySem.EqMixed.ne_str_bool (iF I q (by simp))
  |int j=>obtain⟨t',rfl⟩:=ry;exact PySem.EqMixed.ne_str_int (iF I q (by simp))
  |str j=>obtain⟨t',rfl⟩:=ry;exact ne_str (iF I q (gL not IB))
  |_=>exact absurd (show false=true from hs) bY
 |Wi i=>
  obtain⟨t,rfl⟩:=rx;cases y with
  |Wi j=>obtain⟨t',rfl⟩:=ry;exact PySem.W.ne_bytes (iF I q (gL not ID))
  |_=>exact absurd (show false=true from hs) bY
 |_=>cases y<;>exact absurd (show false=true from hs) bY
theorem Xz:Ge X (gD .Lt) (GJ fun i j=>.bl (decide (i<j))):=YF fun _ _ _ _ _ _ _ q=>lt_int q
theorem tU:Ge X (gD .LtE) (GJ fun i j=>.bl (decide (i<=j))):=YF fun _ _ _ _ _ _ _ q=>le_int q
theorem Ya:Ge X (gD .Gt) (GJ fun i j=>.bl (decide (j<i))):=YF fun _ _ _ _ _ _ _ q=>gt_int q
theorem cu:Ge X (gD .GtE) (GJ fun i j=>.bl (decide (j<=i))):=YF fun _ _ _ _ _ _ _ q=>ge_int q
theorem QF:Ge X (gD .Is) (fun x y H Q=>y=.iU/\Q (.bl (decide (x=.iU))) H):=by
 intro aI s σ H x y v u Q I rx ry h;obtain⟨rfl,q⟩:=h;cases ry;refine is_none_gen (iF I q ?_)
 cases x<;>first
  |(cases rx;rfl)
  |(obtain⟨t,rfl⟩:=rx;rfl)
theorem fU(b:Expr){op:CmpOp}(h:op≠.In:=by decide)(h2:op≠.NotIn:=by decide):uE op b=false:=by
 have e1:(op==CmpOp.In)=false:=by cases op<;>first|rfl|exact absurd rfl h
 have e2:(op==CmpOp.NotIn)=false:=by cases op<;>first|rfl|exact absurd rfl h2
 cases b<;>simp[uE,e1,e2]
theorem GQ(ho:Ge X (gD op) r)(ha:PE X a ta)(hb:PE X b tb)(hm:uE op b=false):PE X (.Compare a [op] [b] pos) (NX r ta tb):=by intro aI s σ H Q I h;exact wpAny_Compare1 (rh ha hb I h fun v u s2 x y H2 I2 rx ry q=>ho aI s2 σ H2 x y v u Q I2 rx ry q) hm
def NW(t:TE):TT:=fun σ H Q=>t σ H (BlI Q)
theorem eM(ho:Ge X (gD op) r)(ha:PE X a ta)(hb:PE X b tb)(hm:uE op b=false):PT X (.Compare a [op] [b] pos) (NW (NX r ta tb)):=by
 intro aI s σ H Q I h
 refine US (iX (ha aI s σ H _ I h) fun v s1 ⟨x,H1,I1,r1,q1⟩=>iX (hb aI s1 σ H1 _ I1 q1) fun u s2 ⟨y,H2,I2,r2,q2⟩=>
  iX (ho aI s2 σ H2 x y v u _ I2 r1 r2 q2) fun c s3 ⟨z,H3,I3,r3,k,e,q3⟩=>?_) hm
 subst e
 cases r3
 exact fQ ⟨H3,I3,q3⟩
def BV(r r':R2)(ta tb tc:TE):TE:=fun σ H Q=>ta σ H fun x H1=>tb σ H1 fun y H2=>r x y H2 fun z H3=>∃k,z=.bl k/\
 (if k=true then tc σ H3 fun w' H4=>r' y w' H4 Q else Q (.bl false) H3)
theorem Xw{QG:CmpOp}{r':R2}(ho:Ge X (gD op) r)(AS:Ge X (gD QG) r')(ha:PE X a ta)(hb:PE X b tb)(hc:PE X c tc)
  (hm:lastMarks [op,QG] [b,c]=false:=by with_unfolding_all rfl):PE X (.Compare a [op,QG] [b,c] pos) (BV r r' ta tb tc):=by
 intro aI s σ H Q I h
 refine Compare_chain (iX (ha aI s σ H _ I h) fun v s1 ⟨x,H1,I1,r1,q1⟩=>chain_link (iX (hb aI s1 σ H1 _ I1 q1) fun u s2 ⟨y,H2,I2,r2,q2⟩=>
  iX (ho aI s2 σ H2 x y v u _ I2 r1 r2 q2) fun d s3 ⟨z,H3,I3,r3,k,e,q3⟩=>?_)) hm
 subst e
 cases r3
 refine fQ ?_
 cases k with
 |false=>exact ite_ff ⟨.bl false,H3,I3,rfl,q3⟩
 |true=>exact ite_tt (chain_last (iX (hc aI s3 σ H3 _ I3 q3) fun w' s4 ⟨z',H4,I4,r4,q4⟩=>AS aI s4 σ H4 y z' u w' Q I4 r2 r4 q4))
theorem El{QG:CmpOp}{r':R2}(ho:Ge X (gD op) r)(AS:Ge X (gD QG) r')(ha:PE X a ta)(hb:PE X b tb)(hc:PE X c tc)
  (hm:lastMarks [op,QG] [b,c]=false:=by with_unfolding_all rfl):PT X (.Compare a [op,QG] [b,c] pos) (NW (BV r r' ta tb tc)):=by
 intro aI s σ H Q I h
 refine isTrue_chain (iX (ha aI s σ H _ I h) fun v s1 ⟨x,H1,I1,r1,q1⟩=>test_link (iX (hb aI s1 σ H1 _ I1 q1) fun u s2 ⟨y,H2,I2,r2,q2⟩=>
  iX (ho aI s2 σ H2 x y v u _ I2 r1 r2 q2) fun d s3 ⟨z,H3,I3,r3,k,e,q3⟩=>?_)) hm
 subst e
 cases r3
 refine fQ ?_
 cases k with
 |false=>obtain⟨k',e',q'⟩:=q3;cases e';exact ite_ff ⟨H3,I3,q'⟩
 |true=>refine ite_tt (test_last (iX (hc aI s3 σ H3 _ I3 q3) fun w' s4 ⟨z',H4,I4,r4,q4⟩=>iX (AS aI s4 σ H4 y z' u w' _ I4 r2 r4 q4) fun d' s5 ⟨z2,H5,I5,r5,k2,e2,q5⟩=>?_));subst e2;cases r5;exact fQ ⟨H5,I5,q5⟩
def rp(K:aX)(x:V)(H:Hp)(k:Bool):Prop:=
 match x with
 |.iU=>k=false
 |.bl b=>k=b
 |.int i=>k=(i !=0)
 |.str y=>y.length<=sizeLine/\k=((y.length:Int) !=0)
 |.Wi y=>y.size<=sizeLine/\k=((y.size:Int) !=0)
 |.ref p=>(∃xs,iY K H p xs/\k= !xs.isEmpty)∨(∃xs,Wj K H p xs/\k= !xs.isEmpty)∨∃kvs,H p=some (.dK kvs)/\k= !kvs.isEmpty
 |_=>False
theorem DG{κ:Type}{kvs:List (κ×V)}{vs:List (κ×Value)}(r:KV kvs vs):(!vs.isEmpty)= !kvs.isEmpty:=by cases r<;>rfl
theorem Mw{xs:Lv}{gF:Lu}(r:fN xs gF):(!gF.toArray.isEmpty)= !xs.isEmpty:=by cases r<;>simp
theorem Ur:(sizeLine:Nat)<2^63:=by rw[Vt];decide
theorem gn:acM X (fun x H Q=>∃k,rp X.K x H k/\Q k H):=by
 intro aI s σ H x v Q I rx h;obtain⟨k,e,q⟩:=h;have hl:=Ur;have hs:sizeLine=16777216:=Vt;cases x with
 |iU=>cases rx;have e':k=false:=e;subst e';exact truthy_none ⟨H,I,q⟩
 |bl b=>cases rx;have e':k=b:=e;subst e';exact fQ ⟨H,I,q⟩
 |int i=>obtain⟨t,rfl⟩:=rx;have e':k=(i !=0):=e;subst e';exact PySem.P.truthy_int ⟨H,I,q⟩
 |str y=>obtain⟨t,rfl⟩:=rx;obtain⟨hy,e'⟩:y.length<=sizeLine/\k=((y.length:Int) !=0):=e;subst e';exact PySem.P.truthy_str (by lia) ⟨H,I.tok _,q⟩
 |Wi y=>obtain⟨t,rfl⟩:=rx;obtain⟨hy,e'⟩:y.size<=sizeLine/\k=((y.size:Int) !=0):=e;subst e';exact PySem.W.truthy_bytes (by lia) ⟨H,I.tok _,q⟩
 |ref p=>
  cases rx;have e':(∃xs,iY X.K H p xs/\k= !xs.isEmpty)∨(∃xs,Wj X.K H p xs/\k= !xs.isEmpty)∨∃kvs,H p=some (.dK kvs)/\k= !kvs.isEmpty:=e;rcases e' with ⟨xs,hx,e'⟩|⟨xs,hx,e'⟩|⟨kvs,hx,e'⟩
  .subst e';obtain⟨gF,r,pl,hz⟩:=I.list hx;have hlen:=r.length;exact wpAny_truthy_list pl.isList (by simp only[cD];lia) ⟨H,I.tok _,by rw[Mw r];exact q⟩
  .subst e';obtain⟨gF,r,pl,hz⟩:=I.tuple hx;have hlen:=r.length;exact truthy_tuple pl (by simp only[cD];lia) ⟨H,I.tok _,by rw[Mw r];exact q⟩
  .subst e';obtain⟨hz,hS,vs,r,m⟩:kvs.length<=sizeLine/\(p==fS)=false/\∃vs,KV kvs vs/\s.heap.DictOf (gM X.prog X.w) p vs:=I.iW p _ hx;have hlen:kvs.length=vs.length:=iO r;exact wpAny_truthy_dict hS m (by lia) ⟨H,I.tok _,by rw[DG r];exact q⟩
 |_=>exact(show False from e).elim
theorem Ek(ha:PE X a ta)(he:∀whole,isTrue a X.env whole=(do let v<-whole;standAt a.pos;holding [v] (truthy v))):
  PT X a (fun σ H Q=>ta σ H fun x H'=>∃k,rp X.K x H' k/\Q k H'):=by
 intro aI s σ H Q I h
 exact isTrue_plain (iX (ha aI s σ H _ I h) fun v s1 ⟨x,H1,I1,r1,q1⟩=>gn aI s1 σ H1 x v Q I1 r1 q1) (he _)
theorem vh{x:V}(r:fN [x] us):∃u,us=[u]/\gC x u:=by
 cases r with
 |cons r1 r2=>cases r2;exact⟨_,rfl,r1⟩
end
structure EZ(h:Heap)(x dx C:Addr)(mA:Str->Option Value):Prop where
 obj:h.get? x=some (lB C dx)
 ns:h.Ns1 dx mA
 ne:dx≠x
theorem KJ{dx:Addr}(n:h.Ns1 dx mA):∃od,h.get? dx=some od/\∀name,zI name od=some (mA name):=by
 obtain⟨o,es,ep,ho,hd,hk,_,hm⟩:=n;refine⟨o,ho,fun name=>?_⟩;have e:=hm name;unfold nsFind findBy at e;rw[<-Array.find?_toList]at e;unfold zI;rw[hd];dsimp only;split
 .rename_i y q;rw[q]at e;exact gL some e
 .rename_i q;rw[q]at e;have a:es.toList.any (·.refKey)=false:=by rw[List.any_eq_false];intro y hy;obtain⟨z,t,wI⟩:=hk y (Array.mem_toList_iff.mp hy);simp[DictEntry.refKey,wI]
  have a':¬es.toList.any (·.refKey)=true:=by rw[a];exact bY
  rw[if_neg a'];exact gL some e
theorem EZ.look{x dx:Addr}(I:EZ h x dx C mA):∃od,PySem.W.InstAt h x (lB C dx) C (some od)/\∀name,zI name od=some (mA name):=
 let ⟨od,ho,hl⟩:=KJ I.ns
 ⟨od,⟨I.obj,rfl,rfl,ho⟩,hl⟩
section
variable {prog:dJ} {w:World} {A:gQ} {E:Value->aZ->Prop} {s:aZ} {K:aX} {x dx C f:Addr} {mA:Str->Option Value} {name:Str} {v:Value}
theorem VU{expr:Bool}(X:K.In s.heap)(I:EZ s.heap x dx C mA)(hg:rE K C name=true)(hh:uP K C=true)
  (ha:gG K (.ref C) name=some none) (hv:mA name=some v) (da:IU v=true) (h:Q v {s with toks:=s.toks+1}):
  wpAny (model prog w) A (getAttr (.ref x) name expr) Q E s:=by
 obtain⟨od,J,hl⟩:=I.look
 exact PySem.W.get_value X J (Bn hg).1 (PySem.W.findObj_own hh ha rfl (by rw[hl,hv])) da h
theorem SU{Q:Value×Lu->aZ->Prop}(X:K.In s.heap)(I:EZ s.heap x dx C mA)(hg:rE K C name=true)
  (hf:gG K (.ref C) name=some (some (.ref f))) (ht:xF K (.ref f)=true) (hv:mA name=none) (h:Q (.ref f,[.ref x]) s):
  wpAny (model prog w) A (Hw (.ref x) name pl) Q E s:=by
 obtain⟨od,J,hl⟩:=I.look
 exact PySem.W.method_fn X J (Bn hg).1 (Bn hg).2 hf (beq_iff_eq.mp ht) (by show(zI name od).map (·.isSome)=some false;rw[hl,hv];rfl) h
theorem XM{ns:List Str}{Q:Unit->aZ->Prop}(X:K.In s.heap)(I:EZ s.heap x dx C mA)
  (hs:gG K (.ref C) "__setattr__"=some (some (.builtin "object.__setattr__"))) (hp:Ds K C=true) (ht:Jb K C name=some none) (hh:uP K C=true)
  (hw:Wn mA ns) (hsz:ns.length<=sizeLine)
  (h:∀h',EZ h' x dx C (fun y=>if y=name then some v else mA y)->rA dx s.heap h'->Q () {s with heap:=h',toks:=s.toks+2}):
  wpAny (model prog w) A (setAttr (.ref x) name v) Q E s:=by
 obtain⟨od,J,hl⟩:=I.look
 refine PySem.W.set_plain X J hs (PySem.W.osa_open (s:={s with toks:=s.toks+1}) (r:=none) X J hp ht fun b=>?_)
 obtain⟨cd,hc,M1⟩:=PySem.W.any_some hh
 have hx:s.heap.get? x=some ⟨.ref C,some dx,.plain,#[]⟩:=I.obj
 refine aS (bO (aS (aS (wpAny_loadPart hx (aS (PySem.W.Looks.here (s:={s with toks:=s.toks+1}) (PySem.W.looks_clsIn X hc) ?_))))))
 rw[M1]
 refine bO (a:=some dx) (aS (bO (aS ?_)))
 refine wpAny_nsSet1 (s:={s with toks:=s.toks+1}) I.ns fun h' hn2 G9=>?_
 obtain⟨oD,esD,epD,hoD,VO,hcD⟩:=hn2.count (PySem.Within.cons name v hw)
 refine aS (wpAny_lookBehind hoD (by rw[VO];exact pastItsLine_dict (bK hcD (by rw[cV];lia))) ?_)
 exact bO (h _ ⟨(G9.2 _ (Ne.symm I.ne)).trans I.obj,hn2,I.ne⟩ G9)
theorem QY{R:Result->aZ->Prop}{vs:Lu}(X:K.In s.heap)(hm:Jc K C=true)
  (hi:gG K (.ref C) "__init__"=some (some (.ref f))) (hf:PySem.W.typeIn K (.ref f)=some (.type "function"))
  (h:codeAny (model prog w) (A.under (.builtin "type.__call__" ⟨.ref C::vs,kw⟩)) (.call (.ref f) ⟨.ref (s.heap.objs.size+1)::vs,kw⟩) (PySem.W.InitBack (s.heap.objs.size+1) R)
   {s with heap:=(s.heap.push iN).push (lB C s.heap.objs.size)}):
  codeAny (model prog w) A (.call (.ref C) ⟨vs,kw⟩) R s:=by
 obtain⟨hh,g,d,t,os⟩:=s
 exact PySem.W.make_core (PySem.W.makes_of X hm) (PySem.W.looks_findIn X hi) (fun self=>PySem.W.bind_fn X self hf) (.inl rfl) h
end
def iG(f:Str)(v:V):List (Str×V)->List (Str×V)
 |[]=>[(f,v)]
 |(g,x)::r=>if g=f then (g,v)::r else (g,x)::iG f v r
theorem pY(f g:Str)(v:V):∀fs:List (Str×V),(iG f v fs).lookup g=if g=f then some v else fs.lookup g
 |[]=>by
  show qL g [(f,v)]=_;by_cases h:g=f
  .have hb:(g==f)=true:=beq_iff_eq.mpr h;simp only[qL,hb,if_pos h]
  .have hb:(g==f)=false:=lN.mpr h;simp only[qL,hb,if_neg h]
 |(k,x)::r=>by
  have ih:=pY f g v r;rw[show iG f v ((k,x)::r)=(if k=f then (k,v)::r else (k,x)::iG f v r) from rfl];by_cases hk:k=f
  .rw[if_pos hk];by_cases h:g=k
   .have hb:(g==k)=true:=beq_iff_eq.mpr h;simp only[qL,hb,if_pos (h.trans hk)]
   .have hb:(g==k)=false:=lN.mpr h;simp only[qL,hb,if_neg (fun e:g=f=>h (e.trans hk.symm))]
  .rw[if_neg hk];by_cases h:g=k
   .have hb:(g==k)=true:=beq_iff_eq.mpr h;simp only[qL,hb,if_neg (fun e:g=f=>hk (h.symm.trans e))]
   .have hb:(g==k)=false:=lN.mpr h;simp only[qL,hb];exact ih
theorem Hj(f:Str)(v:V):∀fs:List (Str×V),f∈(iG f v fs).map (·.1)/\∀g,g∈fs.map (·.1)->g∈(iG f v fs).map (·.1)
 |[]=>⟨by simp[iG],fun g h=>by simp at h⟩
 |(k,x)::r=>by
  obtain⟨i1,i2⟩:=Hj f v r;rw[show iG f v ((k,x)::r)=(if k=f then (k,v)::r else (k,x)::iG f v r) from rfl];by_cases hk:k=f
  .rw[if_pos hk];subst hk;exact⟨by simp,fun g h=>by simpa using h⟩
  .rw[if_neg hk];refine⟨?_,fun g h=>?_⟩
   .rw[bL];exact aD _ i1
   .rw[bL]at h ⊢;rcases aW.mp h with e|e
    .exact aW.mpr (.inl e)
    .exact aD _ (i2 g e)
theorem Ip(f:Str)(v:V):∀fs:List (Str×V),(iG f v fs).length<=fs.length+1
 |[]=>by simp[iG]
 |(k,x)::r=>by
  have ih:=Ip f v r;rw[show iG f v ((k,x)::r)=(if k=f then (k,v)::r else (k,x)::iG f v r) from rfl];by_cases hk:k=f
  .rw[if_pos hk,cV,cV];lia
  .rw[if_neg hk,cV,cV];lia
theorem yS.some_of{o:Option Value}(r:yS (some v) o):∃u,o=some u/\gC v u:=by
 cases o with
 |none=>exact(show False from r).elim
 |some u=>exact⟨u,rfl,r⟩
theorem yS.none_of{o:Option Value}(r:yS none o):o=none:=by
 cases o with
 |none=>rfl
 |some u=>exact(show False from r).elim
theorem LF(r:gC v u):IU u=true:=by
 cases v with
 |iU=>cases (show u=rX from r);rfl
 |bl b=>cases (show u=qA b from r);rfl
 |int i=>obtain⟨t,e⟩:=(show ∃t,u=xE i t from r);cases e;rfl
 |str x=>obtain⟨t,e⟩:=(show ∃t,u=Vu x t from r);cases e;rfl
 |Wi b=>obtain⟨t,e⟩:=(show ∃t,u=Value.bytes b t from r);cases e;rfl
 |V3 b=>obtain⟨t,e⟩:=(show ∃t,u=Value.float b t from r);cases e;rfl
 |ref a=>cases (show u=dE a from r);rfl
 |ty n=>cases (show u=uJ n from r);rfl
section
variable {P:dJ} {w:World} {H H':Hp} {h h':Heap} {a C dx:Addr} {fs MO:List (Str×V)}
theorem Uu(iW:An P w H h)(e:H a=some (.ins C dx fs)):∃mA,EZ h a dx C mA/\(∀f,yS (fs.lookup f) (mA f))/\Wn mA (fs.map (·.1))/\fs.length<=1000/\H dx=some (.own a):=by obtain⟨d,z,ne,ob,mA,n,r,q⟩:=(show mH P w H h a (.ins C dx fs) from iW a _ e);exact⟨mA,⟨ob,n,ne⟩,r,q,z,d⟩
end
structure AX(K:aX)(C:Addr):Prop where
 pg:rE K C Str.empty=true
 hd:uP K C=true
 po:Ds K C=true
 sa:gG K (.ref C) "__setattr__"=some (some (.builtin "object.__setattr__"))
theorem AX.get(c:AX K C)(f:Str):rE K C f=true:=c.pg
def iK(K:aX)(C:Addr)(f:Str):Prop:=gG K (.ref C) f=some none
theorem iK.vq{f:Str}(n:iK K C f):Jb K C f=some none:=by unfold Jb;rw[show gG K (.ref C) f=some none from n];rfl
structure MY(K:aX)(C:Addr)(m:Str)(f:Addr):Prop where
 at_:gG K (.ref C) m=some (some (.ref f))
 fn:xF K (.ref f)=true
 kp:gZ K (.ref f)=true
section
variable {X:Cx} {aI:List (Addr×Obj)} {σ:St} {H:Hp} {s:aZ} {a C dx:Addr} {fs:List (Str×V)} {f:Str} {v:V} {A:gQ} {E:Value->aZ->Prop}
theorem Nb{b:Bool}(I:dP X aI σ H s)(e:H a=some (.ins C dx fs))(c:AX X.K C)(n:iK X.K C f)(l:fs.lookup f=some v)
  (h:∀u s',dP X aI σ H s'->gC v u->Q u s'):wpAny (model X.prog X.w) A (getAttr (.ref a) f b) Q E s:=by
 obtain⟨mA,O,r,_,_,_⟩:=Uu I.iW e
 obtain⟨u,hu,ru⟩:=yS.some_of (v:=v) (o:=mA f) (by rw[<-l];exact r f)
 exact VU I.Yv O (c.get f) c.hd n hu (LF ru) (h u _ (I.tok _) ru)
theorem Na{m:Str}{g:Addr}{Q:Value×Lu->aZ->Prop}(I:dP X aI σ H s)(e:H a=some (.ins C dx fs))(c:AX X.K C)(k:MY X.K C m g)(l:fs.lookup m=none)
  (h:Q (.ref g,[.ref a]) s):wpAny (model X.prog X.w) A (Hw (.ref a) m pl) Q E s:=by
 obtain⟨mA,O,r,_,_,_⟩:=Uu I.iW e
 have hn:mA m=none:=yS.none_of (by rw[<-l];exact r m)
 exact SU I.Yv O (c.get m) k.at_ k.fn hn h
theorem Lf{y:V}{Q:Unit->aZ->Prop}(I:dP X aI σ H s)(e:H a=some (.ins C dx fs))(c:AX X.K C)(n:iK X.K C f)(hl:fs.length<1000)(ry:gC y u)
  (h:∀s',dP X aI σ (upd H a (.ins C dx (iG f y fs))) s'->Q () s'):wpAny (model X.prog X.w) A (setAttr (.ref a) f u) Q E s:=by
 obtain⟨mA,O,r,wi,_,ho⟩:=Uu I.iW e
 have hz:(fs.map (·.1)).length<=sizeLine:=by rw[aA,Vt];lia
 refine XM I.Yv O c.sa c.po n.vq c.hd wi hz fun h' O' sb=>h _ ?_
 have hd:∃o,h'.get? dx=some o:=let ⟨o,_,_,e',_⟩:=O'.ns;⟨o,e'⟩
 refine I.write (x:=a) (e:=dx) (by rw[e];exact True.intro) (.inr ho) (fun b q hb z=>(sb.2 b hb).trans z) hd ?_
 refine⟨by rw[aH O.ne];exact ho,?_,O.ne,O'.obj,_,O'.ns,fun g=>?_,fun g hg=>?_⟩
 .have:=Ip f y fs;lia
 .show yS ((iG f y fs).lookup g) (if g=f then some u else mA g);rw[pY];by_cases q:g=f
  .rw[if_pos q,if_pos q];exact ry
  .rw[if_neg q,if_neg q];exact r g
 .by_cases q:g=f
  .rw[q];exact(Hj f y fs).1
  .refine(Hj f y fs).2 g (wi g fun z=>hg ?_);show(if g=f then some u else mA g)=none;rw[if_neg q];exact z
theorem dP.made(I:dP X aI σ H s):dP X aI σ (upd (upd H s.heap.objs.size (.own (s.heap.objs.size+1))) (s.heap.objs.size+1) (.ins C s.heap.objs.size []))
  {s with heap:=(s.heap.push iN).push (lB C s.heap.objs.size)}:=by
 have e1:(s.heap.push iN).get? s.heap.objs.size=some iN:=cG s.heap rfl
 have e2:((s.heap.push iN).push (lB C s.heap.objs.size)).get? (s.heap.objs.size+1)=some (lB C s.heap.objs.size):=by have:=cG (s.heap.push iN) (o:=lB C s.heap.objs.size) rfl;rwa[iD]at this
 have e3:(s.heap.push iN).Ns s.heap.objs.size (fun _=>none):=⟨iN,#[],_,e1,rfl,(fun e he=>absurd he (by simp)),fun _=>rfl⟩
 have I1:=I.laid (a:=s.heap.objs.size) (o:=.own (s.heap.objs.size+1)) (h':=s.heap.push iN) (t':=s.toks) (fun b u q=>bU _ q) (aY _) ⟨_,e1⟩
 refine I1.laid (a:=s.heap.objs.size+1) (o:=.ins C s.heap.objs.size []) (t':=s.toks) (fun b u q=>bU _ q) (Jh (iD _ _)) ?_
 have ne:s.heap.objs.size≠s.heap.objs.size+1:=fA (sE _)
 refine⟨by rw[aH ne,aC],cI _,ne,e2,fun _=>none,(Heap.Ns1.of_empty e3).at fun o q=>bU _ q,fun _=>True.intro,fun y hy=>absurd rfl hy⟩
theorem ax{prog:dJ}{env:Env}(hb:uF e f env (eval e env)=eval e env)
  (h:wpAny (model prog w) A (eval e env) (fun o s₁=>wpAny (model prog w) A (getAttr o f true) Q E s₁) E s):wpAny (model prog w) A (eval (.Attribute e f pos) env) Q E s:=
 Attribute_any_ h (by rw[arm_eval_Attribute,hb])
end
inductive R3(K:aX)(f:Str)(Q:VK)(x:V)(H:Hp):Prop|mk (a C dx:Addr) (fs:List (Str×V)) (v:V):x=.ref a->H a=some (.ins C dx fs)->AX K C->iK K C f->fs.lookup f=some v->Q v H->R3 K f Q x H def gq (K:aX) (ta:TE) (f:Str):TE:=fun σ H Q=>ta σ H (R3 K f Q)
def g7(K:aX)(ta tv:TE)(f:Str):TS:=fun D σ H=>tv σ H fun y H1=>ta σ H1 fun x H2=>E4 fun a C dx fs=>A6 (x=.ref a) (H2 a=some (.ins C dx fs)) (AX K C) (iK K C f) (fs.length<1000)
 (D.nx σ (upd H2 a (.ins C dx (iG f y fs))))
def acN(X:Cx)(op:Operator)(rd:V->V->Hp->VK->Prop):Prop:=
 ∀(aI:List (Addr×Obj)) (s:aZ) (σ:St) (H:Hp) (x y:V) (u v:Value) (Q:VK),dP X aI σ H s->gC x u->gC y v->rd x y H Q->wpAny (model X.prog X.w) X.A (inplaceOp op u v) (EP X aI σ Q) X.xe s
def XQ(K:aX)(ta tv:TE)(rd:V->V->Hp->VK->Prop)(f:Str):TS:=fun D σ H=>ta σ H fun x H1=>E5 fun a C dx fs v=>A6 (x=.ref a) (H1 a=some (.ins C dx fs)) (AX K C) (iK K C f) (fs.lookup f=some v)
 (tv σ H1 fun y H2=>rd v y H2 fun z H3=>E2 fun W0 MO=>A3 (H3 a=some (.ins C W0 MO)) (MO.length<1000) (D.nx σ (upd H3 a (.ins C W0 (iG f z MO)))))
section
variable {X:Cx} {o e value:Expr} {f:Str} {pos pos' Oz:Pos} {ta tv:TE}
theorem cT(he:PE X e ta)(hb:uF e f X.env (eval e X.env)=eval e X.env):PE X (.Attribute e f pos) (gq X.K ta f):=by intro aI s σ H Q I h;refine ax hb (iX (he aI s σ H _ I h) fun u s1 ⟨x,H1,I1,rx,a,C,dx,fs,v,ex,ea,c,n,l,q⟩=>?_);subst ex;obtain rfl:u=dE a:=rx;exact Nb I1 ea c n l fun u' s2 I2 ru=>⟨v,H1,I2,ru,q⟩
theorem iV(ha:PE X o ta)(hv:PE X value tv)(hs:wY value (some (.Attribute o f pos')) pos.line X.env=pure false):PS X (.Assign [.Attribute o f pos'] value pos) (g7 X.K ta tv f):=by intro aI s σ H D I h;refine plainObj_wpAny_Assign_Attribute (iX (hv aI s σ H _ I h) fun u s1 ⟨y,H1,I1,ry,q⟩=>iX (ha aI s1 σ H1 _ I1 q) fun ov s2 ⟨x,H2,I2,rx,a,C,dx,fs,ex,ea,c,n,l,q2⟩=>?_) hs;subst ex;obtain rfl:ov=dE a:=rx;exact Lf I2 ea c n l ry fun s3 I3=>⟨σ,_,I3,q2⟩
theorem wB{op:Operator}{rd:V->V->Hp->VK->Prop}(ha:PE X o ta)(hv:PE X value tv)(hop:acN X op rd):PS X (.AugAssign (.Attribute o f Oz) op value pos) (XQ X.K ta tv rd f):=by intro aI s σ H D I h;refine wpAny_AugAssign_AttributeAny (iX (ha aI s σ H _ I h) fun ov s1 ⟨x,H1,I1,rx,a,C,dx,fs,v,ex,ea,c,n,l,q⟩=>?_);subst ex;obtain rfl:ov=dE a:=rx;refine Nb I1 ea c n l fun u s2 I2 ru=>iX (hv aI s2 σ H1 _ I2 q) fun w3 s3 ⟨y,H2,I3,ry,q3⟩=>iX (hop aI s3 σ H2 v y u w3 _ I3 ru ry q3) fun w4 s4 ⟨z,H3,I4,rz,W0,MO,ea',l',q4⟩=>?_;exact Lf I4 ea' c n l' rz fun s5 I5=>⟨σ,_,I5,q4⟩
end
section
variable {X:Cx} {aI:List (Addr×Obj)} {σ:St} {H:Hp} {s:aZ} {A:gQ} {E:Value->aZ->Prop} {Q:Value->aZ->Prop} {c:Value} {b:Bool}
end
structure oF(k:Nat)(A:gQ):Prop where
 hd:A.handled=none
 dp:A.depth+3*k+5<recursionLimit
 un:A.units+16*k+200<cLine
theorem oF.mono{j:Nat}(r:oF k A)(h:j<=k):oF j A:=⟨r.hd,by have:=r.dp;lia,by have:=r.un;lia⟩
theorem oF.deeper(r:oF (k+1) A)(env:Env):oF k (A.deeper env):=
 ⟨r.hd,by have:=r.dp;show A.depth+1+3*k+5<_;lia,by have:=r.un;show A.units+3+16*k+200<_;lia⟩
theorem CS:(A.under (.builtin "type.__call__" ⟨.ref C::us,kw⟩)).depth=A.depth+1:=by first|rfl|simp[We,Code.weight,Code.isCreation,Code.isGuard,Code.isCaller,Code.frames,AM,guardIds]
theorem CQ:(A.under (.builtin "type.__call__" ⟨.ref C::us,kw⟩)).units=A.units+1:=by first|rfl|simp[We,Code.cUnits,Code.frames,AM]
theorem oF.make(r:oF (k+1) A)(C:Addr)(us:Lu)(kw:List (Str×Value)):oF k (A.under (.builtin "type.__call__" ⟨.ref C::us,kw⟩)):=
 ⟨r.hd,by have:=r.dp;rw[CS];lia,by have:=r.un;rw[CQ];lia⟩
theorem oF.depth(r:oF k A):A.depth<recursionLimit:=by have:=r.dp;lia
theorem oF.units(r:oF k A):A.units+64<cLine:=by have:=r.un;lia
theorem oF.gk(r:oF k A):A.units<cLine:=by have:=r.un;lia
def oW:TA:=fun _ H Q=>Q [] H
def gS(ta:TE)(tr:TA):TA:=fun σ H Q=>ta σ H fun x H1=>tr σ H1 fun xs H2=>Q (x::xs) H2
section
variable {X:Cx} {e:Expr} {es:List Expr} {te:TE} {t:TA} {pos:Pos}
theorem aP:PA X [] oW:=fun _ _ _ _ H Q I h=>Gu ⟨[],H,I,.nil,h⟩
theorem aB(ha:PE X e te)(hr:PA X es t)(hs:dD (e::es) X.env=(false,eval e X.env)::dD es X.env:=by rfl):PA X (e::es) (gS te t):=by intro pos aI s σ H Q I h;rw[hs];show wpAny _ _ (spliced ((false,eval e X.env)::pL pos (dD es X.env))) _ _ s;refine qD (iX (ha aI s σ H _ I h) fun u s1 ⟨x,H1,I1,r1,q1⟩=>?_);exact iX (hr pos aI s1 σ H1 _ I1 q1) fun us s2 ⟨xs,H2,I2,r2,q2⟩=>⟨x::xs,H2,I2,.cons r1 r2,q2⟩
def WV(t:TA):TE:=fun σ H Q=>t σ H fun xs H1=>xs.length<=sizeLine/\∀p,H1 p=none->Q (.ref p) (upd H1 p (.tup xs))
def Ky(t:TA):TE:=fun σ H Q=>t σ H fun xs H1=>xs.length<=sizeLine/\∀p,H1 p=none->Q (.ref p) (upd H1 p (.lst xs))
theorem oX{x1}(h:PA X es t):PE X (.Tuple es x1 pos) (WV t):=by intro aI s σ H Q I hq;refine wpAny_Tuple_spliced (iX (h pos aI s σ H _ I hq) fun us s1 ⟨xs,H1,I1,r,z,q⟩=>⟨by rw[<-r.length];exact z,?_⟩);have hf:H1 s1.heap.objs.size=none:=I1.iW.fresh (aY _);refine⟨.ref s1.heap.objs.size,upd H1 s1.heap.objs.size (.tup xs),I1.laid (t':=s1.toks) (fun b u e=>bU _ e) (aY _) ?_,rfl,q _ hf⟩;exact⟨z,us,r,⟨_,cG _ rfl,rfl,_,rfl⟩⟩
theorem fE(h:PA X es t):PE X (.List es pos) (Ky t):=by intro aI s σ H Q I hq;refine wpAny_List_spliced (iX (h pos aI s σ H _ I hq) fun us s1 ⟨xs,H1,I1,r,z,q⟩=>⟨by rw[<-r.length];exact z,?_⟩);have hf:H1 s1.heap.objs.size=none:=I1.iW.fresh (aY _);refine⟨.ref s1.heap.objs.size,upd H1 s1.heap.objs.size (.lst xs),I1.laid (t':=s1.toks) (fun b u e=>bU _ e) (aY _) ?_,rfl,q _ hf⟩;exact⟨z,us,0,r,cG _ rfl⟩
end
abbrev Sp:=Lv->Hp->VK->XK->Prop
abbrev MS:=List Env->Hp->aZ->XK->Value->aZ->Prop
structure FC(P:dJ)(w:World)(K:aX)(mg:Str->Option Value)(aT:Heap)(A:gQ)(iA:List Env)(s:aZ)(H:Hp):Prop where
 frames:A.frames=some iA
 mod:Mod K mg aT
 bs:∀b o,aT.get? b=some o->s.heap.get? b=some o/\H b=none
 aw:aT.objs.size<=s.heap.objs.size
 Jq:s.heap.FunFrames aT iA
 qp:∀b∈DT iA,H b=none
 iW:An P w H s.heap
 bare:Ox s.gens
inductive CE(iA:List Env)(P:dJ)(w:World)(H:Hp)(s:aZ)(Q:VK)(u:Value)(s':aZ):Prop|mk
 v H':s'.os=s.os->Ox s'.gens->Un (DT iA) [] H H' s.heap s'.heap->An P w H' s'.heap->gC v u->Q v H'->CE iA P w H s Q u s'
def CR(CX:MS)(iA:List Env)(P:dJ)(w:World)(H:Hp)(s:aZ)(Q:VK)(E:XK)(r:Result)(s':aZ):Prop:=
 match r with
 |.ok (.ret u)=>CE iA P w H s Q u s'
 |.ok _=>False
 |.error e=>CX iA H s E e s'
structure eN(P:dJ)(w:World)(K:aX)(mg:Str->Option Value)(aT:Heap)(CX:MS)(k:Nat)(f:Addr)(fd:oI)(ps:List Str)(sp:Sp):Prop where
 len:∀vs H Q E,sp vs H Q E->vs.length=ps.length
 run:∀(A:gQ) (iA:List Env) (s:aZ) (H:Hp) (args:Args) (us:Lu) (vs:Lv) (Q:VK) (E:XK),oF k A->FC P w K mg aT A iA s H->NL s fd args (ps.zip us)->fN vs us->sp vs H Q E->
  codeAny (model P w) A (.call (.ref f) args) (CR CX iA P w H s Q E) s
theorem FC.make(e:FC P w K mg aT A iA s H)(C:Addr)(us:Lu)(kw:List (Str×Value)):
  FC P w K mg aT (A.under (.builtin "type.__call__" ⟨.ref C::us,kw⟩)) iA s H:=⟨by first|exact e.frames|(simpa[We,Code.envs,AM,pushEnvs]using e.frames),e.mod,e.bs,e.aw,e.Jq,e.qp,e.iW,e.bare⟩
section
variable {X:Cx} {aI:List (Addr×Obj)} {σ:St} {H:Hp} {s s':aZ}
theorem dP.P1(I:dP X aI σ H s):FC X.prog X.w X.K X.mg X.aT X.A X.stack s H:=
 ⟨I.ok.frames,I.ok.mod,I.bs,bK I.ok.aw I.sz,I.stack,I.FX,I.iW,I.bare⟩
theorem dP.after{Q:VK}(I:dP X aI σ H s)(h:CE X.stack X.prog X.w H s Q u s'):EP X aI σ Q u s':=by obtain⟨v,H',os,bare,un,iW,r,q⟩:=h;obtain⟨hh,g,d,t,os'⟩:=s';obtain rfl:os'=s.os:=os;exact⟨v,H',I.call (h':=hh) (g':=g) (d':=d) (t':=t) (ch:=[]) un iW bare (fun b z=>absurd z (by simp)),r,q⟩
end
def FU(C:Addr)(m:Str)(sp:Sp)(dvs:Lv)(E:XK)(ta:TE)(t:TA):TE:=fun σ H Q=>ta σ H fun x H1=>E3 fun a dx fs=>A4 (x=.ref a) (H1 a=some (.ins C dx fs)) (fs.lookup m=none)
 (t σ H1 fun vs H2=>sp (x::(vs++dvs)) H2 Q E)
def FV(C:Addr)(sp:Sp)(dvs:Lv)(E:XK)(t:TA):TE:=fun σ H Q=>t σ H fun vs H1=>∀x dx,H1 x=none->H1 dx=none->dx≠x->
 sp (.ref x::(vs++dvs)) (upd (upd H1 dx (.own x)) x (.ins C dx [])) (fun v H2=>v=.iU/\Q (.ref x) H2) E
def tL(K:aX)(fd:oI)(ps:List Str)(ds:Lu):Prop:=
 ∀(s:aZ) (us:Lu),K.In s.heap->(us++ds).length=ps.length->NL s fd ⟨us,[]⟩ (ps.zip (us++ds))
theorem tL.all{fd:oI}{ps:List Str}(h:∀us:Lu,us.length=ps.length->BD fd ⟨us,[]⟩=pure (ps.zip us)):tL K fd ps []:=fun s us _ hl=>by rw[dN]at hl ⊢;exact .of_eq (h us hl)
def Cb(CX:MS)(X:Cx)(E:XK):Prop:=∀(aI:List (Addr×Obj)) (σ:St) (H:Hp) (s:aZ) (e:Value) (s':aZ),dP X aI σ H s->CX X.stack H s E e s'->X.xe e s'
section
variable {X:Cx} {CX:MS} {k:Nat} {f C:Addr} {fd:oI} {ps:List Str} {sp:Sp} {dvs:Lv} {ds:Lu} {E:XK} {x m:Str} {p pos apos:Pos} {e o:Expr} {es:List Expr} {ta:TE} {t:TA}
theorem Tq{σ:St}{Q:VK}(F:eN X.prog X.w X.K X.mg X.aT CX k f fd ps sp)(hr:oF k X.A)(hb:tL X.K fd ps ds)(hd:fN dvs ds)(hx:Cb CX X E)
  (I:dP X aI σ H s) (r:fN vs us) (h:sp (vs++dvs) H Q E):wpAny (model X.prog X.w) X.A (call (.ref f) us) (EP X aI σ Q) X.xe s:=by
 have r2:fN (vs++dvs) (us++ds):=r.append hd
 have hl:(us++ds).length=ps.length:=by rw[<-r2.length];exact F.len _ _ _ _ h
 refine wpAny_call (Oq (F.run X.A X.stack s H ⟨us,[]⟩ (us++ds) (vs++dvs) Q E hr I.P1 (hb s us I.Yv hl) r2 h) fun r s' hq=>?_)
 cases r with
 |error e=>exact hx aI σ H s e s' I hq
 |ok fl=>
  cases fl with
  |ret u=>exact I.after hq
  |next=>exact fP hq
  |brk=>exact fP hq
  |cont=>exact fP hq
theorem YA{pl:Sem Bool}(he:PE X o ta)(c:AX X.K C)(hm:MY X.K C m f)(F:eN X.prog X.w X.K X.mg X.aT CX k f fd ps sp)(hr:oF k X.A)(hb:tL X.K fd ps ds)(hd:fN dvs ds)(hx:Cb CX X E)(ha:PA X (e::es) t)
  (Wh:dD (e::es) X.env=(false,eval e X.env)::dD es X.env:=by rfl) (Pl:(pL pos (dD es X.env)).any (·.1)=false:=by rfl)
  (ht:eval (.Call (.Attribute o m apos) (e::es) [] pos) X.env=(do
   let ov<-eval o X.env
   standAt apos.atName
   let (f,first)<-holding [ov] (Hw ov m pl)
   BC pos f first (pL pos (dD (e::es) X.env)) (Ot pos (yW [] X.env))):=by rfl):
  PE X (.Call (.Attribute o m apos) (e::es) [] pos) (FU C m sp dvs E ta t):=by
 intro aI s σ H Q I h
 refine Vy (pl:=pl) (iX (he aI s σ H _ I h) fun u s1 ⟨x,H1,I1,rx,a,dx,fs,ex,ea,l,q⟩=>?_) ht
 subst ex
 obtain rfl:u=dE a:=rx
 refine Na I1 ea c hm l ?_
 refine tM (first:=[.ref a]) (h₀:=X.aT) I.ok.mod.ud hm.kp (iX (ha pos aI s1 σ H1 _ I1 q) fun us s2 ⟨vs,H2,I2,r,q2⟩=>⟨I2.Yv,?_⟩) Wh Pl
 exact Tq (us:=.ref a::us) (vs:=.ref a::vs) F hr hb hd hx I2 (.cons rfl r) q2
theorem PY{pl:Sem Bool}(he:PE X o ta)(c:AX X.K C)(hm:MY X.K C m f)(F:eN X.prog X.w X.K X.mg X.aT CX k f fd ps sp)(hr:oF k X.A)(hb:tL X.K fd ps ds)(hd:fN dvs ds)(hx:Cb CX X E)
  (ht:eval (.Call (.Attribute o m apos) [] [] pos) X.env=(do
   let ov<-eval o X.env
   standAt apos.atName
   let (f,first)<-holding [ov] (Hw ov m pl)
   BC pos f first (pL pos (dD [] X.env)) (Ot pos (yW [] X.env))):=by rfl):
  PE X (.Call (.Attribute o m apos) [] [] pos) (FU C m sp dvs E ta oW):=by
 intro aI s σ H Q I h
 refine Vy (pl:=pl) (iX (he aI s σ H _ I h) fun u s1 ⟨x,H1,I1,rx,a,dx,fs,ex,ea,l,q⟩=>?_) ht
 subst ex
 obtain rfl:u=dE a:=rx
 refine Na I1 ea c hm l ?_
 exact AJ (first:=[.ref a]) I1.Yv hm.kp (Tq (us:=[.ref a]) (vs:=[.ref a]) F hr hb hd hx I1 (.cons rfl .nil) q)
structure Mk(K:aX)(C f:Addr):Prop where
 makes:Jc K C=true
 init:gG K (.ref C) "__init__"=some (some (.ref f))
 fn:xF K (.ref f)=true
 kp:gZ K (.ref C)=true
theorem Xm{σ:St}{Q:VK}(M:Mk X.K C f)(F:eN X.prog X.w X.K X.mg X.aT CX k f fd ps sp)(hr:oF (k+1) X.A)(hb:tL X.K fd ps ds)(hd:fN dvs ds)
  (hx:Cb CX X E) (I:dP X aI σ H s) (r:fN vs us)
  (h:∀x dx,H x=none->H dx=none->dx≠x->sp (.ref x::(vs++dvs)) (upd (upd H dx (.own x)) x (.ins C dx [])) (fun v H2=>v=.iU/\Q (.ref x) H2) E):
  wpAny (model X.prog X.w) X.A (call (.ref C) us) (EP X aI σ Q) X.xe s:=by
 have hq:=h (s.heap.objs.size+1) s.heap.objs.size (I.iW.fresh (Nat.le_succ _)) (I.iW.fresh (aY _)) (fA (sE _))
 have I2:=dP.made (C:=C) I
 have r2:fN (V.ref (s.heap.objs.size+1)::(vs++dvs)) (dE (s.heap.objs.size+1)::(us++ds)):=.cons rfl (r.append hd)
 have hl:(dE (s.heap.objs.size+1)::us++ds).length=ps.length:=by have e:=r2.length;rw[F.len _ _ _ _ hq]at e;exact e.symm
 refine wpAny_call (QY (f:=f) I.Yv M.makes M.init (beq_iff_eq.mp M.fn) (Oq (F.run _ X.stack _ _ ⟨dE (s.heap.objs.size+1)::us,[]⟩ (dE (s.heap.objs.size+1)::(us++ds)) _ _ E (hr.make C us [])
  (I2.P1.make C us []) (hb _ (dE (s.heap.objs.size+1)::us) I2.Yv hl) r2 hq) fun r s' dj=>?_))
 cases r with
 |error e=>exact hx aI σ _ _ e s' I2 dj
 |ok fl=>
  cases fl with
  |ret u=>obtain⟨v,H',I3,rv,ev,q3⟩:=I2.after dj;subst ev;exact⟨rv,⟨V.ref (s.heap.objs.size+1),H',I3,rfl,q3⟩⟩
  |next=>exact fP dj
  |brk=>exact fP dj
  |cont=>exact fP dj
theorem YB(M:Mk X.K C f)(F:eN X.prog X.w X.K X.mg X.aT CX k f fd ps sp)(hr:oF (k+1) X.A)(hg:Gl X x)(hm:X.mg x=some (.ref C))(hb:tL X.K fd ps ds)(hd:fN dvs ds)(hx:Cb CX X E)
  (ha:PA X (e::es) t) (HS:(x==("__debug__":Str))=false:=by decide) (he:dD (e::es) X.env=(false,eval e X.env)::dD es X.env:=by rfl) (Pl:(pL pos (dD es X.env)).any (·.1)=false:=by rfl):
  PE X (.Call (.Name x p) (e::es) [] pos) (FV C sp dvs E t):=by
 intro aI s σ H Q I h
 refine rB (Fe I hg hm ?_ HS)
 refine tM (h₀:=X.aT) I.ok.mod.ud M.kp (iX (ha pos aI s σ H _ I h) fun us s1 ⟨vs,H1,I1,r,q⟩=>⟨I1.Yv,?_⟩) he Pl
 exact Xm M F hr hb hd hx I1 r q
theorem PZ(M:Mk X.K C f)(F:eN X.prog X.w X.K X.mg X.aT CX k f fd ps sp)(hr:oF (k+1) X.A)(hg:Gl X x)(hm:X.mg x=some (.ref C))(hb:tL X.K fd ps ds)(hd:fN dvs ds)(hx:Cb CX X E)
  (HS:(x==("__debug__":Str))=false:=by decide):PE X (.Call (.Name x p) [] [] pos) (FV C sp dvs E oW):=by
 intro aI s σ H Q I h
 refine rB (Fe I hg hm ?_ HS)
 exact AJ I.Yv M.kp (Xm (us:=[]) M F hr hb hd hx I .nil h)
end
section
variable {X:Cx} {CX:MS} {k:Nat} {f C:Addr} {fd:oI} {ps ks:List Str} {sp:Sp} {E:XK} {x m:Str} {p pos apos ag9:Pos} {e o:Expr} {es:List Expr} {kws:List Keyword} {te ta:TE} {t tk:TA} {nm:Option Str}
variable {g:Lu->Lu->Lu} {gV:Lv->Lv->Lv}
end
structure cB(N P:List Str)(sc:Scope):Prop where
 kind:sc.kind=.function
 co:sc.isCoroutine=false
 gen:sc.isGenerator=false
 nd:N.Nodup
 pre:N.take P.length=P
 par:∀x∈P,sc.names.lookup x=some .local∨sc.names.lookup x=some .cell
 mx:∀y∈sc.names,y.2≠.free
theorem Sd:∀{binds:List (Str×Value)} {m:Str->Option Value},(∀v,(x,v)∉binds)->bindL kindOf binds m x=m x
 |[],_,_=>rfl
 |(n,v)::r,m,h=>by
  unfold bindL;rw[Sd fun w hw=>h w (aD _ hw)];split
  .have:x≠n:=by rintro rfl;exact h v aF
   simp[this]
  .rfl
theorem Sf:∀{binds:List (Str×Value)} {m:Str->Option Value},(∀v,(x,v)∉binds)->bindC kindOf binds m x=m x
 |[],_,_=>rfl
 |(n,v)::r,m,h=>by
  unfold bindC;rw[Sf fun w hw=>h w (aD _ hw)];split
  .rfl
  .have:x≠n:=by rintro rfl;exact h v aF
   simp[this]
theorem Se{v:Value}:∀{P:List Str} {vs:Lu} {i:Nat} {m:Str->Option Value},P.Nodup->P[i]? =some x->vs[i]? =some v->kindOf x=some .local->
  bindL kindOf (P.zip vs) m x=some v
 |[],_,_,_,_,h,_,_=>by simp at h
 |_::_,[],_,_,_,_,h,_=>by simp at h
 |p::P,w::vs,0,m,nd,h1,h2,hk=>by simp at h1 h2;subst h1;subst h2;show bindL kindOf ((p,w)::P.zip vs) m p=_;unfold bindL;rw[Sd fun v hv=>(cQ.mp nd).1 (Of hv).1,if_pos hk];simp
 |p::P,w::vs,i+1,m,nd,h1,h2,hk=>by show bindL kindOf ((p,w)::P.zip vs) m x=_;unfold bindL;exact Se (i:=i) (cQ.mp nd).2 (by simpa using h1) (by simpa using h2) hk
theorem Sg{v:Value}:∀{P:List Str} {vs:Lu} {i:Nat} {m:Str->Option Value},P.Nodup->P[i]? =some x->vs[i]? =some v->kindOf x≠some .local->
  bindC kindOf (P.zip vs) m x=some v
 |[],_,_,_,_,h,_,_=>by simp at h
 |_::_,[],_,_,_,_,h,_=>by simp at h
 |p::P,w::vs,0,m,nd,h1,h2,hk=>by simp at h1 h2;subst h1;subst h2;show bindC kindOf ((p,w)::P.zip vs) m p=_;unfold bindC;rw[Sf fun v hv=>(cQ.mp nd).1 (Of hv).1,if_neg hk];simp
 |p::P,w::vs,i+1,m,nd,h1,h2,hk=>by show bindC kindOf ((p,w)::P.zip vs) m x=_;unfold bindC;exact Sg (i:=i) (cQ.mp nd).2 (by simpa using h1) (by simpa using h2) hk
def start(N:List Str)(vs:Lv):St:=vs.map some++List.replicate (N.length-vs.length) none
def EN(CX:MS)(P:dJ)(w:World)(K:aX)(mg:Str->Option Value)(aT:Heap)(N:List Str)(qual:Str)(scope:Scope)(f:Addr)(cd:Value)(A:gQ)(iA:List Env)(s:aZ)(H:Hp)(E:XK):Cx where
 prog:=P
 w:=w
 K:=K
 mg:=mg
 aT:=aT
 A:=A.deeper (Gp qual scope s.heap.objs.size f cd)
 N:=N
 Qq:=s
 si:=H
 env:=Gp qual scope s.heap.objs.size f cd
 iA:=iA
 stack:=Gp qual scope s.heap.objs.size f cd::iA
 ex:=[]
 calm:=true
 fn:=fun _=>true
 pn:=[]
 xe:=fun e s'=>wpAny (model P w) (A.deeper (Gp qual scope s.heap.objs.size f cd)) (leaving (Gp qual scope s.heap.objs.size f cd) e) (fun _ i9=>CX iA H s E e i9) (fun e' i9=>CX iA H s E e' i9) s'
theorem Zz{sc:Scope}{n:Nat}(h:sc.names.lookup x=some .cell):∃c,(gY n sc.names []).lookup x=some c:=by have q:=Sx sc.names n [] (.inl h);exact fR.mp q
theorem KP{CX:MS}{N ps:List Str}{qual:Str}{scope:Scope}{f:Addr}{cd:Value}{s1:aZ}{E:XK}
  (S:cB N ps scope) (hd:A.handled=none) (e0:FC P w K mg aT A iA s H) (hl:vs.length=ps.length) (r:fN vs us)
  (x:InCallC s s.heap.objs.size (bindL (Gp qual scope s.heap.objs.size f cd).kindOf (ps.zip us) fun _=>none) (gY (s.heap.objs.size+1) scope.names []) (bindC (Gp qual scope s.heap.objs.size f cd).kindOf (ps.zip us) fun _=>none) s1):
  dP (EN CX P w K mg aT N qual scope f cd A iA s H E) [] (start N vs) H s1:=by
 have Pl:ps.length<=N.length:=by have:=gL jU S.pre;rw[dB]at this;lia
 obtain⟨h1,tk,rfl,hk⟩:=x.done
 have tw:∀b:Addr,b∉(EN CX P w K mg aT N qual scope f cd A iA s H E).ex:=fun b z=>absurd (show b∈([]:La) from z) (by simp)
 refine⟨⟨e0.mod,S.kind,rfl,rfl,aY _,fun y z c h1 h2=>?_,fun y hy=>?_,fun y c _ h=>?_,fun _=>hd,Around.frames_deeper e0.frames,.inr ⟨rfl,rfl⟩,fun b z=>absurd z (tw b),e0.bs,e0.aw,fun b _ _=>tw b,fun b z=>absurd z (tw b),e0.Jq,e0.qp⟩,
  rfl,e0.bare,Un.kept hk,⟨_,x.toInCall.ns,fun i y v h1 h2 h3=>?_⟩,fun y c h=>⟨_,x.cell y c h⟩,e0.iW.fresh (aY _),fun y c h=>?_,fun p hp=>absurd (show p∈([]:List (Addr×Obj)) from hp) (by simp),e0.iW.kept hk,?_⟩
 .exact name_of_addr x.apart (dH h1) (dH h2)
 .have hy:scope.names.lookup y=some .cell∨scope.names.lookup y=some .free:=hy;rcases hy with hy|hy
  .exact Zz hy
  .exact absurd rfl (S.mx _ (dH hy))
 .exact zK (x.above y c (dH h))
 .have hi:i<vs.length:=by
   unfold start at h2;by_cases hi:i<vs.length
   .exact hi
   .rw[fJ (by simpa using hi)]at h2;rw[List.getElem?_replicate]at h2;split at h2<;>cases h2
  have ha:vs[i]? =some v:=by
   unfold start at h2;rw[jB (by simpa using hi),bT]at h2;cases e:vs[i]? with
   |none=>rw[e]at h2;cases h2
   |some a=>rw[e]at h2;cases h2;rfl
  obtain⟨u,hu,rv⟩:=r.get ha;have hp:ps[i]? =some y:=by rw[<-S.pre,Wa (by lia)];exact h1
  have ndP:ps.Nodup:=by rw[<-S.pre];exact S.nd.sublist (List.take_sublist _ _)
  refine⟨u,rv,?_⟩;rcases S.par y (aG hp)with k|k
  .exact .inl ⟨k,Se ndP hp hu k⟩
  .obtain⟨c,e⟩:=Zz (n:=s.heap.objs.size+1) k;refine .inr ⟨.inl k,c,e,?_⟩;have q:=x.cell y c e;rw[Sg ndP hp hu (by show scope.names.lookup y≠_;rw[k];decide)]at q;exact q
 .exact e0.iW.fresh (zK (x.above y c (dH h)))
 .unfold start;show _=N.length;rw[bA,aA,List.length_replicate];lia
theorem O7{CX:MS}{f:Addr}{name qual:Str}{params:Arguments}{scope:Scope}{dV kV doc pm cdv ct oc:Value}{an od:Option Addr}
  {osl:Array (Option Value)} {N ps:List Str} {sp:Sp} (lk:K.lookup f=some ⟨oc,od,.func (jF name qual params body scope dV kV doc pm an cdv ct),osl⟩) (hcd:qK K cdv qual=true) (S:cB N ps scope)
  (len:∀vs H Q E,sp vs H Q E->vs.length=ps.length)
  (SO:∀(A:gQ) (iA:List Env) (s:aZ) (H:Hp) (vs:Lv) (Q:VK) (E:XK),oF k (A.deeper (Gp qual scope s.heap.objs.size f cdv))->sp vs H Q E->
   ∃t,EY (EN CX P w K mg aT N qual scope f cdv A iA s H E) body t/\t {nx:=fun _ H'=>Q .iU H',rt:=Q} (start N vs) H):
  eN P w K mg aT CX (k+1) f (jF name qual params body scope dV kV doc pm an cdv ct) ps sp:=by
 refine⟨len,fun A iA s H args us vs Q E hr e0 hb r VI=>?_⟩
 have hl:=len _ _ _ _ VI
 have KX:K.In s.heap:=e0.mod.ud.keeps fun b o e=>(e0.bs b o e).1
 have lim:s.heap.NoLimit:=e0.mod.nolimit.keeps fun b o e=>(e0.bs b o e).1
 have L1:∀y∈ps.zip us,scope.names.lookup y.1=some .local∨(scope.names.lookup y.1=some .cell/\((gY (s.heap.objs.size+1) scope.names []).lookup y.1).isSome=true):=fun⟨n,v⟩ hy=>by
  rcases S.par n (Of hy).1 with q|q
  .exact .inl q
  .exact .inr ⟨q,Sx _ _ _ (.inl q)⟩
 refine codeAny_call_function hr.depth (KX _ _ lk) rfl S.co S.gen rfl (PySem.W.codeRec_of KX hcd) (hb _ _ _ _ ?_)
 refine wpAny_newFunctionEnv_cells S.kind L1 fun env he s1 x=>?_
 subst he
 refine⟨lim.keeps x.toInCall.keep,codeAny_func ?_⟩
 obtain⟨t,ht,hq⟩:=SO A iA s H vs Q E (hr.deeper _) VI
 have I:dP (EN CX P w K mg aT N qual scope f cdv A iA s H E) [] (start N vs) H s1:=KP S hr.hd e0 hl r x
 refine iE (ht [] s1 (start N vs) H _ I hq) (fun fl s' hs=>?_) fun e s' hs=>hs
 have fin:∀{σ':St} {H':Hp} {v:V} {u:Value},dP (EN CX P w K mg aT N qual scope f cdv A iA s H E) [] σ' H' s'->gC v u->Q v H'->CE iA P w H s Q u s':=
  fun{σ' H' v u} J rv q=>⟨v,H',J.os,J.bare,J.aT,J.iW,rv,q⟩
 cases fl with
 |ret u=>obtain⟨v,σ',H',J,rv,q⟩:=hs;exact fin J rv q
 |next=>obtain⟨σ',H',J,q⟩:=hs;exact fin (v:=V.iU) (u:=rX) J rfl q
 |brk=>obtain⟨_,_,_,q⟩:=hs;exact fP q
 |cont=>obtain⟨_,_,_,q⟩:=hs;exact fP q
section
variable {X:Cx} {x:Str} {p pos:Pos} {e:Expr} {es:List Expr} {t:TA} {id T:String} {r:Lv->Hp->VK->Prop}
def tCB(r:Lv->Hp->VK->Prop)(t:TA):TE:=fun σ H Q=>t σ H fun vs H1=>r vs H1 Q
theorem eT(hc:Sl X (.builtin id) r)(hg:Gl X x)(hm:X.mg x=none)(hv:pZ x=some (.builtin id))(ha:PA X (e::es) t)(hn:x≠"__name__":=by decide)(HS:(x==("__debug__":Str))=false:=by decide)
  (he:dD (e::es) X.env=(false,eval e X.env)::dD es X.env:=by rfl) (Pl:(pL pos (dD es X.env)).any (·.1)=false:=by rfl):PE X (.Call (.Name x p) (e::es) [] pos) (tCB r t):=by
 intro aI s σ H Q I h
 refine rB (Hi I hg hm hv ?_ hn HS)
 exact PyProof.Rows.callWith_builtin1 (iX (ha pos aI s σ H _ I h) fun us s1 ⟨vs,H1,I1,r1,q1⟩=>hc aI s1 σ H1 vs us Q I1 r1 q1) he Pl
end
end L2
namespace HT
open PySem PyProof.Rows
def Dq:List Int->List Int->Bool
 |[],[]=>false
 |[],_::_=>true
 |_::_,[]=>false
 |x::xs,y::ys=>if x=y then Dq xs ys else decide (x<y)
theorem Mr(x y:Int)(xs ys:List Int):Dq (x::xs) (y::ys)=if x=y then Dq xs ys else decide (x<y):=rfl
theorem PK(A:gQ)(s:aZ)(a:Int)(t:Tok)(c:Int)(u:Tok)(prog:dJ)(w:World)(E:Value->aZ->Prop)(Q:Value->aZ->Prop)(h:Q (.bool (decide (a<c))) s):
  wpAny (model prog w) A (richCompare .Lt (.int a t) (.int c u)) Q E s:=
 (PyProof.Rows.lt_int h:wpAny (model prog w) A (gD .Lt (.int a t) (.int c u)) Q E s)
section
open PySem.SeqAt
open PySem.AutoSeq1 (wpAny_loadPart')
open PySem.MeetsSeq PySem.MeetsSeq2 PySem.MeetsSeq3
end
section
variable {prog:dJ} {w:World} {A:gQ} {E:Value->aZ->Prop} {s:aZ}
def Xk(n d:Nat):Option Int->Nat
 |none=>d
 |some v=>if v<0 then (v+(n:Int)).toNat else min v.toNat n
theorem Ef(n d:Nat):Xk n d none=d:=rfl
theorem Aw(n d k:Nat):Xk n d (some (k:Int))=min k n:=by show(if (k:Int)<0 then ((k:Int)+(n:Int)).toNat else min (k:Int).toNat n)=min k n;rw[if_neg (by lia),gE]
end
end HT
namespace L2
open PySem PySem.Spec PyProof.Rows
variable {a d:Addr} {A:gQ} {es:Array qB} {f:Array Value->Array Value} {X:Cx} {env:Env} {elt iter tg:Expr} {H:Hp} {Qd:Hp->Prop} {aI:List (Addr×Obj)} {xs:List (List iM×Addr×Value)} {kvs:List (List iM×V)} {cells:List (Str×Addr)} {own:List (Str×Nat)} {bq:List (TE×TE)} {elts ifs:List Expr} {gF us:Lu} {ep kk n t':Nat} {use:Option (Value->Sem Unit)} {o:Option V} {pos Oz:Pos} {P prog:dJ} {K:aX} {scope:Scope} {s:aZ} {σ:St} {te:TE} {g:TG} {tt:TT} {x y:V} {r:V->Option Int->Option Int->Hp->VK->Prop} {u v:Value} {E Q:Value->aZ->Prop} {w:World}
abbrev TO:=St->Hp->(Option Int->Hp->Prop)->Prop
def PO(X:Cx)(e:Option Expr)(t:TO):Prop:=
 ∀(aI:List (Addr×Obj)) (s:aZ) (σ:St) (H:Hp) (Q:Option Int->Hp->Prop),dP X aI σ H s->t σ H Q->
  wpAny (model X.prog X.w) X.A (evalPart e X.env) (fun u s'=>∃o H',dP X aI σ H' s'/\IsPart u o/\Q o H') X.xe s
def WW:TO:=fun _ H Q=>Q none H
def vv(t:TE):TO:=fun σ H Q=>t σ H fun x H1=>∃i,x=.int i/\Q (some i) H1
theorem Ki{ns:List Int}:∀{us:Lu},fN (ns.map V.int) us->Ou us ns:=by
 induction ns with
 |nil=>intro us r;rw[lS]at r;cases r;exact .nil
 |cons n ns ih=>
  intro us r;rw[bL]at r;cases r with
  |cons r1 r2=>obtain⟨t,e⟩:=r1;subst e;exact .cons n t (ih r2)
section
variable {X:Cx} {e:Expr} {te:TE} {lo hi:Option Expr} {tl th:TO} {pos p2:Pos}
theorem Az:PO X none WW:=by intro aI s σ H Q I h;rw[evalPart_none];exact bO ⟨none,H,I,.none,h⟩
theorem uX(h:PE X e te):PO X (some e) (vv te):=by intro aI s σ H Q I hw;rw[evalPart_some];refine iX (h aI s σ H _ I hw) fun u s1 ⟨x,H1,I1,r1,q1⟩=>?_;obtain⟨i,rfl,q⟩:=q1;obtain⟨t,rfl⟩:=r1;exact⟨some i,H1,I1,.int i t,q⟩
def SlR(X:Cx)(r:V->Option Int->Option Int->Hp->VK->Prop):Prop:=
 ∀(aI:List (Addr×Obj)) (s:aZ) (σ:St) (H:Hp) (x:V) (v vl vu:Value) (lo hi:Option Int) (sl:Addr) (Q:VK),dP X aI σ H s->gC x v->s.heap.IsSliceOf sl vl vu .none->IsPart vl lo->IsPart vu hi->r x lo hi H Q->
  ∃T id,typeLookup (.type T) "__getitem__"=pure (some (.builtin id))/\s.TypeIs v T/\wpAny (model X.prog X.w) X.A (AH v (.ref sl)) (EP X aI σ Q) X.xe s
def tSl(r:V->Option Int->Option Int->Hp->VK->Prop)(te:TE)(tl th:TO):TE:=fun σ H Q=>te σ H fun x H1=>tl σ H1 fun l H2=>th σ H2 fun u H3=>r x l u H3 Q
theorem tT(hr:SlR X r)(he:PE X e te)(hl:PO X lo tl)(hu:PO X hi th):PE X (.Subscript e (.Slice lo hi none p2) pos) (tSl r te tl th):=by intro aI s σ H Q I h;refine Subscript_ (iX (he aI s σ H _ I h) fun v s1 ⟨x,H1,I1,r1,q1⟩=>?_);refine wpAny_Slice (iX (hl aI s1 σ H1 _ I1 q1) fun vl s2 ⟨l,H2,I2,pl,q2⟩=>iX (hu aI s2 σ H2 _ I2 q2) fun vu s3 ⟨u,H3,I3,pu,q3⟩=>?_);rw[evalPart_none];refine bO ?_;have I4:dP X aI σ H3 {s3 with heap:=s3.heap.push {cls:=.type "slice",data:=.fields #[vl,vu,.none]}}:=I3.kept (t':=s3.toks) fun b ob q=>bU _ q;obtain⟨T,id,hT,ht,hg⟩:=hr aI {s3 with heap:=s3.heap.push {cls:=.type "slice",data:=.fields #[vl,vu,.none]}} σ H3 x v vl vu l u s3.heap.objs.size Q I4 r1 (Heap.IsSliceOf.new ..) pl pu q3;show wpAny (model X.prog X.w) X.A (IT e (.Slice lo hi none p2) v (.ref s3.heap.objs.size)) (EP X aI σ Q) X.xe {s3 with heap:=s3.heap.push {cls:=.type "slice",data:=.fields #[vl,vu,.none]}};exact tail_any (ops:=[.ref s3.heap.objs.size,v]) ht hT hg (by with_unfolding_all rfl)
def Ad(xs:Lv)(lo hi:Option Int):Lv:=(xs.drop (HT.Xk xs.length 0 lo)).take (HT.Xk xs.length xs.length hi-HT.Xk xs.length 0 lo)
theorem Zw(xs:Lv)(lo hi:Option Int):(Ad xs lo hi).length<=xs.length:=by unfold Ad;rw[dB,jK];lia
end
def cy(n:Nat)(i:Int):Option Nat:=if 0<=i then (if i<n then some i.toNat else none)else if-(n:Int)<=i then some (i+n).toNat else none
def ay{α:Type}(xs:List α)(i:Int):Option α:=(cy xs.length i).bind fun j=>xs[j]?
theorem YW{i:Int}{j:Nat}(h:cy n i=some j):seqIndex? i n=some j/\j<n/\ -(n:Int)<=i/\i<n:=by
 unfold cy at h;by_cases h0:0<=i
 .rw[if_pos h0]at h;by_cases h1:i<n
  .rw[if_pos h1]at h;have e:i.toNat=j:=bC h;exact⟨by rw[seqIndex_of h0 h1,e],by lia,by lia,h1⟩
  .rw[if_neg h1]at h;cases h
 .rw[if_neg h0]at h;by_cases h1: -(n:Int)<=i
  .rw[if_pos h1]at h;have e:(i+n).toNat=j:=bC h;exact⟨by rw[seqIndex_neg (by lia) h1,e],by lia,h1,by lia⟩
  .rw[if_neg h1]at h;cases h
theorem IK{α:Type}{xs:List α}{i:Int}{v:α}(h:ay xs i=some v):∃j,seqIndex? i xs.length=some j/\xs[j]? =some v/\j<xs.length/\ -(xs.length:Int)<=i/\i<xs.length:=by
 unfold ay at h;cases e:cy xs.length i with
 |none=>rw[e]at h;cases h
 |some j=>rw[e]at h;obtain⟨h1,h2,h3,h4⟩:=YW e;exact⟨j,h1,h,h2,h3,h4⟩
theorem fY{α:Type}{xs:List α}{j:Nat}{v:α}(h:xs[j]? =some v):ay xs (j:Int)=some v:=by
 have hj:j<xs.length:=(aL.mp h).1;have e:cy xs.length (j:Int)=some j:=by unfold cy;rw[if_pos (by lia),if_pos (by lia)];simp
 unfold ay;rw[e];exact h
theorem Ny{α:Type}(xs:List α)(v:α):ay (xs++[v]) (-1)=some v:=by
 have hl:(xs++[v]).length=xs.length+1:=by simp
 have e:cy (xs++[v]).length (-1)=some xs.length:=by unfold cy;rw[hl,if_neg (by decide),if_pos (by lia)];congr 1;lia
 unfold ay;rw[e];show(xs++[v])[xs.length]? =some v;simp
def bg(b:Expr):Prop:=∀o i,Vs b false o i=operate [o,i] (AH o i)
def Q8(X:Cx)(r:R2):Prop:=
 ∀(value slice:Expr) (aI:List (Addr×Obj)) (s:aZ) (σ:St) (H:Hp) (x y:V) (v u:Value) (Q:VK),dP X aI σ H s->gC x v->gC y u->r x y H Q->
  Vs slice false v u=operate [v,u] (AH v u)->wpAny (model X.prog X.w) X.A (IT value slice v u) (EP X aI σ Q) X.xe s
def MtR(X:Cx)(id:String)(r:V->Lv->Hp->VK->Prop):Prop:=
 ∀(aI:List (Addr×Obj)) (s:aZ) (σ:St) (H:Hp) (x:V) (xs:Lv) (v:Value) (us:Lu) (Q:VK),dP X aI σ H s->gC x v->fN xs us->r x xs H Q->
  wpAny (model X.prog X.w) X.A (call (.builtin id) (v::us)) (EP X aI σ Q) X.xe s
section
variable {X:Cx} {a b:Expr} {ta tb:TE} {pos:Pos}
theorem jM{r:R2}(hr:Q8 X r)(ha:PE X a ta)(hb:PE X b tb)(hs:bg b):PE X (.Subscript a b pos) (NX r ta tb):=by intro aI s σ H Q I h;exact Subscript_ (rh ha hb I h fun v u s2 x y H2 I2 rx ry q=>hr a b aI s2 σ H2 x y v u Q I2 rx ry q (hs _ _))
inductive PQ(K:aX)(x y:V)(H:Hp)(Q:VK):Prop|mk (p:Addr) (xs:Lv) (i:Int) (v:V):x=.ref p->y=.int i->iY K H p xs->ay xs i=some v->Q v H->PQ K x y H Q
def yy(K:aX):R2:=fun x y H Q=>E4 fun p xs i v=>A5 (x=.ref p) (y=.int i) (Wj K H p xs) (ay xs i=some v) (Q v H)
theorem gU:Q8 X (PQ X.K):=by
 intro value slice aI s σ H x y v u Q I rx ry h hs;obtain⟨p,xs,i,z,rfl,rfl,hq,he,q⟩:=h;cases rx;obtain⟨t,rfl⟩:=ry;obtain⟨gF,r,pl,hz⟩:=I.list hq;obtain⟨j,h1,h2,h3,h4,h5⟩:=IK he;obtain⟨w,ew,OX⟩:=r.get h2;have hl:=r.length;have hn:=Ur;have fin:EP X aI σ Q w s:=⟨z,H,I,OX,q⟩;by_cases h0:0<=i
 .have hj:i.toNat=j:=by rw[seqIndex_of h0 h5]at h1;exact bC h1
  exact item_listR pl.isList h0 (by lia) (by rw[hj];simpa using ew) fin hs
 .have hj:(i+(gF.toArray.size:Int)).toNat=j:=by rw[seqIndex_neg (by lia) h4]at h1;rw[cD,<-hl];exact bC h1
  exact NB (x:=w) pl.isList.typeIs slot_list_getitem.lookup
   (wpAny_getItem_list_neg (Q:=fun r s'=>r=w/\EP X aI σ Q r s') pl.isList (by lia) (by rw[cD]<;>lia) (by lia) (by rw[hj];simpa using ew) ⟨rfl,fin⟩) hs
theorem Cv:Q8 X (yy X.K):=by
 intro value slice aI s σ H x y v u Q I rx ry h hs;obtain⟨p,xs,i,z,rfl,rfl,hq,he,q⟩:=h;cases rx;obtain⟨t,rfl⟩:=ry;obtain⟨gF,r,pl,hz⟩:=I.tuple hq;obtain⟨j,h1,h2,h3,h4,h5⟩:=IK he;obtain⟨w,ew,OX⟩:=r.get h2;have hl:=r.length;have hn:=Ur;have fin:EP X aI σ Q w s:=⟨z,H,I,OX,q⟩
 exact NB (x:=w) pl.typeIs slot_tuple_getitem.lookup
  (getItem_tuple (j:=j) (Q:=fun r s'=>r=w/\EP X aI σ Q r s') pl (by lia) (by lia) (by rw[cD,<-hl];exact h1) (by simpa using ew) ⟨rfl,fin⟩) hs
theorem dP.lst{p:Addr}{xs:Lv}(I:dP X aI σ H s)(h:H p=some (.lst xs)):
  ∃(gF:Lu) (n:Nat),fN xs gF/\s.heap.get? p=some {cls:=.type "list",data:=.seq gF.toArray n}/\xs.length<=sizeLine:=by
 obtain⟨z,gF,n,r,e⟩:=I.iW p _ h
 exact⟨gF,n,r,e,z⟩
theorem Tn(lo hi:Option Int)(n:Nat):(uH lo hi none n).1=((HT.Xk n 0 lo:Nat):Int)/\(uH lo hi none n).2.1=((HT.Xk n n hi:Nat):Int)/\(uH lo hi none n).2.2=1:=by
 refine⟨?_,?_,rfl⟩
 .cases lo with
  |none=>simp[uH,HT.Xk]
  |some i=>
   simp only[uH,HT.Xk,LZ,show(1:Int)>0 by decide,if_true];by_cases h:i<0
   .simp only[h,if_true]<;>lia
   .simp only[h,if_false]<;>lia
 .cases hi with
  |none=>simp[uH,HT.Xk]
  |some i=>
   simp only[uH,HT.Xk,LZ,show(1:Int)>0 by decide,if_true];by_cases h:i<0
   .simp only[h,if_true]<;>lia
   .simp only[h,if_false]<;>lia
theorem Pb(gF:Lu)(lo hi:Option Int):slicePick gF.toArray lo hi none=((gF.drop (HT.Xk gF.length 0 lo)).take (HT.Xk gF.length gF.length hi-HT.Xk gF.length 0 lo)).toArray:=by obtain⟨h1,h2,h3⟩:=Tn lo hi gF.toArray.size;unfold slicePick;rw[h1,h2,h3];simp only[sliceRange_one,pick_run,cD]<;>rfl
def j2(K:aX):V->Option Int->Option Int->Hp->VK->Prop:=fun x lo hi H Q=>E2 fun a xs=>A3 (x=.ref a) (iY K H a xs) (∀p,H p=none->Q (.ref p) (upd H p (.lst (Ad xs lo hi))))
theorem xI:SlR X (j2 X.K):=by intro aI s σ H x v vl vu lo hi sl Q I rx hs pl pu h;obtain⟨a,xs,rfl,hx,q⟩:=h;cases rx;obtain⟨gF,r,ht,hz⟩:=I.list hx;have hlen:=r.length;refine⟨"list",_,slot_list_getitem.lookup,ht.isList.typeIs,?_⟩;refine wpAny_getItem_list_slice ht.isList hs pl pu .none (by simp) ?_ (by rw[cD]<;>lia);rw[Pb,<-hlen];refine⟨.ref s.heap.objs.size,_,I.laid (t':=s.toks) (o:=.lst (Ad xs lo hi)) (fun b ob q=>bU _ q) (aY _) ?_,rfl,q _ (I.iW.fresh (aY _))⟩;exact⟨bK (Zw xs lo hi) hz,_,0,(r.drop (HT.Xk xs.length 0 lo)).take (HT.Xk xs.length xs.length hi-HT.Xk xs.length 0 lo),cG _ rfl⟩
def By:V->Bool
 |.iU=>true
 |.bl _=>true
 |.int _=>true
 |.str _=>true
 |_=>false
def dy:V->V->Bool
 |.iU,.iU=>true
 |.bl a,.bl b=>a==b
 |.bl a,.int b=>(if a then 1 else 0)==b
 |.int a,.bl b=>a==(if b then 1 else 0)
 |.int a,.int b=>a==b
 |.str a,.str b=>a==b
 |_,_=>false
theorem qu(ry:gC y u)(rx:gC x v)(fy:By y=true)(fx:By x=true):SeqAt.EqAt A s u v (dy y x):=by
 cases y with
 |iU=>
  cases ry;cases x with
  |iU=>cases rx;exact SeqAt.EqAt.same _
  |bl b=>cases rx;exact SeqAt.EqAt.none_bool b
  |int b=>obtain⟨t,rfl⟩:=rx;exact SeqAt.EqAt.none_int b t
  |str b=>obtain⟨t,rfl⟩:=rx;exact SeqAt.EqAt.none_str b t
  |_=>exact absurd (show false=true from fx) bY
 |bl a=>
  cases ry;cases x with
  |iU=>cases rx;exact SeqAt.EqAt.bool_none a
  |bl b=>cases rx;exact SeqAt.EqAt.bool_bool a b
  |int b=>obtain⟨t,rfl⟩:=rx;exact SeqAt.EqAt.bool_int a b t
  |str b=>obtain⟨t,rfl⟩:=rx;exact SeqAt.EqAt.bool_str a b t
  |_=>exact absurd (show false=true from fx) bY
 |int a=>
  obtain⟨t',rfl⟩:=ry;cases x with
  |iU=>cases rx;exact SeqAt.EqAt.int_none a t'
  |bl b=>cases rx;exact SeqAt.EqAt.int_bool a t' b
  |int b=>obtain⟨t,rfl⟩:=rx;exact As a t' b t
  |str b=>obtain⟨t,rfl⟩:=rx;exact Vw a t' b t
  |_=>exact absurd (show false=true from fx) bY
 |str a=>
  obtain⟨t',rfl⟩:=ry;cases x with
  |iU=>cases rx;exact SeqAt.EqAt.str_none a t'
  |bl b=>cases rx;exact SeqAt.EqAt.str_bool a t' b
  |int b=>obtain⟨t,rfl⟩:=rx;exact Vv a t' b t
  |str b=>obtain⟨t,rfl⟩:=rx;exact SeqAt.EqAt.str_str a t' b t
  |_=>exact absurd (show false=true from fx) bY
 |_=>exact absurd (show false=true from fy) bY
def ZV(x:V)(u:Value):Bool:=match u with
 |.none=>dy .iU x
 |.bool b=>dy (.bl b) x
 |.int i _=>dy (.int i) x
 |.str z _=>dy (.str z) x
 |_=>false
theorem TJ(r:gC y u)(f:By y=true):ZV x u=dy y x:=by
 cases y with
 |iU=>cases r;rfl
 |bl b=>cases r;rfl
 |int i=>obtain⟨t,rfl⟩:=r;rfl
 |str z=>obtain⟨t,rfl⟩:=r;rfl
 |_=>exact absurd (show false=true from f) bY
theorem Vp:∀{xs:Lv} {us:Lu},fN xs us->xs.all By=true->us.any (ZV x)=xs.any fun y=>dy y x
 |_,_,.nil,_=>rfl
 |y::xs,u::us,.cons r t,f=>by rw[jP,bJ]at f;rw[pS,pS,TJ r f.1,Vp t f.2]
theorem Ml(rx:gC x v)(fx:By x=true):∀{xs:Lv} {us:Lu},fN xs us->xs.all By=true->∀u∈us,SeqAt.EqAt A s u v (ZV x u)
 |_,_,.nil,_=>fun u hu=>by cases hu
 |y::xs,u::us,.cons r t,f=>fun u' hu=>by
  rw[jP,bJ]at f;rcases aW.mp hu with rfl|hu
  .rw[TJ r f.1];exact qu r rx f.1 fx
  .exact Ml rx fx t f.2 u' hu
def G0(x:V)(xs:Lv):Bool:=xs.any fun y=>dy y x
def rIn(K:aX)(neg:Bool):R2:=fun x y H Q=>E2 fun p xs=>A5 (y=.ref p) (iY K H p xs∨Wj K H p xs) (By x=true) (xs.all By=true) (Q (.bl (if neg then !G0 x xs else G0 x xs)) H)
theorem JX:Ge X (gD .In) (rIn X.K false):=by
 intro aI s σ H x y v u Q I rx ry h;obtain⟨p,xs,rfl,hq,fx,fs,q⟩:=h;cases ry;rcases hq with hq|hq
 .obtain⟨gF,r,pl,hz⟩:=I.list hq;refine SeqAt.in_listAt (ZV x) pl.isList (fun w hw=>Ml rx fx r fs w (by simpa using hw)) ⟨.bl _,H,I,rfl,?_⟩;rw[show gF.toArray.any (ZV x)=gF.any (ZV x) by simp,Vp r fs];exact q
 .obtain⟨gF,r,pl,hz⟩:=I.tuple hq;refine SeqAt.in_tupleAt (ZV x) pl (fun w hw=>Ml rx fx r fs w (by simpa using hw)) ⟨.bl _,H,I,rfl,?_⟩;rw[show gF.toArray.any (ZV x)=gF.any (ZV x) by simp,Vp r fs];exact q
theorem eB:Sl X (.builtin "len") (fun xs H Q=>E2 fun p ys=>A3 (xs=[.ref p]) (iY X.K H p ys∨Wj X.K H p ys) (Q (.int ys.length) H)):=by
 intro aI s σ H xs us Q I r h;obtain⟨p,ys,rfl,hq,q⟩:=h;obtain⟨u,rfl,rx⟩:=vh r;cases rx;have hn:=Ur;rcases hq with hq|hq
 .obtain⟨gF,r',pl,hz⟩:=I.list hq;have hlen:=r'.length;exact Calls.call_len_list pl.isList (by simp only[cD]<;>lia) ⟨.int ys.length,H,I.tok _,⟨s.toks+1,by rw[cD,hlen]⟩,q⟩
 .obtain⟨gF,r',pl,hz⟩:=I.tuple hq;have hlen:=r'.length;exact len_tuple pl (by simp only[cD]<;>lia) ⟨.int ys.length,H,I.tok _,⟨s.toks+1,by rw[cD,hlen]⟩,q⟩
def vo(K:aX)(T:String)(x:V)(H:Hp):Prop:=match x with
 |.str _=>T="str"
 |.int _=>T="int"
 |.ref p=>(T="list"/\∃xs,iY K H p xs)∨(T="tuple"/\∃o,K.lookup p=some o/\o.cls=.type "tuple"/\o.dict=none)∨
   (T="dict"/\((∃kvs,H p=some (.dK kvs))∨∃kvs,H p=some (.dT kvs)))∨(T="set"/\∃S n,H p=some (.set S n))
 |_=>False
theorem NS{T:String}(I:dP X aI σ H s)(r:gC x v)(ty:vo X.K T x H):
  s.TypeIs v T/\∀a,v=.ref a->∃ob,s.heap.get? a=some ob/\ob.dict=none:=by
 cases x with
 |str z=>obtain⟨t,rfl⟩:=r;cases (show T="str" from ty);exact⟨typeIs_str s z t,fun _ e=>nomatch e⟩
 |int i=>obtain⟨t,rfl⟩:=r;cases (show T="int" from ty);exact⟨typeIs_int s i t,fun _ e=>nomatch e⟩
 |ref p=>
  cases r;rcases ty with ⟨rfl,xs,hq⟩|⟨rfl,o,hk,hc,hd⟩|⟨rfl,hk⟩|⟨rfl,S,n,hk⟩
  .obtain⟨gF,_,pl,_⟩:=I.list hq;refine⟨pl.isList.typeIs,fun a e=>?_⟩;cases e;obtain⟨o,n,e,c,hd,_⟩:=pl;exact⟨o,e,hd⟩
  .refine⟨⟨o,I.Yv p o hk,hc⟩,fun a e=>?_⟩;cases e;exact⟨o,I.Yv _ o hk,hd⟩
  .have z:∃o,s.heap.get? p=some o/\o.ExactDict:=by
    rcases hk with ⟨kvs,hk⟩|⟨kvs,hk⟩
    .obtain⟨_,_,_,_,o,_,_,e,ex,_⟩:=I.iW p _ hk;exact⟨o,e,ex⟩
    .obtain⟨_,_,_,_,o,_,_,e,ex,_⟩:=I.iW p _ hk;exact⟨o,e,ex⟩
   obtain⟨o,e,ex⟩:=z;refine⟨⟨o,e,ex.1⟩,fun a e2=>?_⟩;cases e2;exact⟨o,e,ex.2.1⟩
  .obtain⟨o,_,_,_,e,ex,_⟩:=I.iW p _ hk;refine⟨⟨o,e,ex.1⟩,fun a e2=>?_⟩;cases e2;exact⟨o,e,ex.2.1⟩
 |_=>exact fP ty
def vy(K:aX)(T:String)(r:V->Lv->Hp->VK->Prop)(to:TE):TE:=fun σ H Q=>to σ H fun x H1=>vo K T x H1/\r x [] H1 Q
def tBM(K:aX)(T:String)(r:V->Lv->Hp->VK->Prop)(to:TE)(t:TA):TE:=fun σ H Q=>to σ H fun x H1=>vo K T x H1/\t σ H1 fun xs H2=>r x xs H2 Q
variable {o e:Expr} {es:List Expr} {to:TE} {t:TA} {name:Str} {apos sI:Pos} {T id:String} {r:V->Lv->Hp->VK->Prop}
theorem Ub(pa:PlainAttrs T)(slot:Slot T name id)(v9:typeOf (.builtin id)=pure (.type "method_descriptor"))(hm:MtR X id r)(ho:PE X o to)
  (Ze:uF o name X.env (eval o X.env)=eval o X.env:=by rfl) (Zc:(apos.endLine==sI.line)=true:=by rfl):PE X (.Call (.Attribute o name apos) [] [] sI) (vy X.K T r to):=by
 intro aI s σ H Q I h
 refine wpAny_Call_method0_late Ze Zc (iX (ho aI s σ H _ I h) fun v s1 ⟨x,H1,I1,r1,ty,q1⟩=>?_)
 obtain⟨h1,h2⟩:=NS I1 r1 ty
 exact⟨T,id,pa,slot,v9,h1,h2,qU rfl (FF (hm aI s1 σ H1 x [] v [] Q I1 r1 .nil q1))⟩
theorem uY(pa:PlainAttrs T)(slot:Slot T name id)(v9:typeOf (.builtin id)=pure (.type "method_descriptor"))(hm:MtR X id r)(ho:PE X o to)(ha:PA X (e::es) t)
  (Ze:uF o name X.env (eval o X.env)=eval o X.env:=by rfl)
  (aaI:((pL sI (dD (e::es) X.env)).all (fun x=>!x.1)&&(Ot sI (yW [] X.env)).all (fun x=>x.1.isSome)
   &&decide ((e::es).length+([]:List Keyword).length+(if ([]:List Keyword).isEmpty then 0 else 1)<30))=true:=by rfl)
  (Zc:(apos.endLine==sI.line)=true:=by rfl) (hs:dD (e::es) X.env=(false,eval e X.env)::dD es X.env:=by rfl) (ot:(pL sI (dD es X.env)).any (·.1)=false:=by rfl):
  PE X (.Call (.Attribute o name apos) (e::es) [] sI) (tBM X.K T r to t):=by
 intro aI s σ H Q I h
 refine wpAny_Call_method_late Ze aaI Zc rfl (iX (ho aI s σ H _ I h) fun v s1 ⟨x,H1,I1,r1,ty,q1⟩=>?_)
 obtain⟨h1,h2⟩:=NS I1 r1 ty
 refine⟨T,id,pa,slot,v9,h1,h2,?_⟩
 have hA:=ha sI aI s1 σ H1 _ I1 q1
 rw[hs]at hA ⊢
 refine qU (by show(false||(pL sI (dD es X.env)).any (·.1))=false;rw[ot]<;>rfl) (Bp ?_)
 exact iX hA fun us s2 ⟨vs,H2,I2,r2,q2⟩=>hm aI s2 σ H2 x vs v us Q I2 r1 r2 q2
end
def W7(X:Cx)(id:String)(r:V->Lv->Hp->VK->Prop):Prop:=
 ∀(aI:List (Addr×Obj)) (s:aZ) (σ:St) (H:Hp) (x:V) (xs:Lv) (v:Value) (us:Lu) (Q:VK),dP X aI σ H s->gC x v->fN xs us->r x xs H Q->
  wpAny (model X.prog X.w) X.A (call (.builtin id) (v::us)) (EP X aI σ Q) X.xe s
theorem fN.one:∀{x:V} {us:Lu},fN [x] us->∃u,us=[u]/\gC x u
 |_,_,.cons r .nil=>⟨_,rfl,r⟩
theorem fN.zero:∀{us:Lu},fN [] us->us=[]
 |_,.nil=>rfl
theorem fN.dropLast{xs:Lv}(h:fN xs us):fN xs.dropLast us.dropLast:=by
 induction h with
 |nil=>exact .nil
 |cons r t ih=>
  cases t with
  |nil=>exact .nil
  |cons q t'=>exact .cons r ih
theorem fN.reverse{xs:Lv}(h:fN xs us):fN xs.reverse us.reverse:=by
 induction h with
 |nil=>exact .nil
 |cons r t ih=>rw[jX,jX];exact fN.append ih (.cons r .nil)
theorem DX{α:Type}(l:List α):l.eraseIdx (l.length-1)=l.dropLast:=by
 induction l with
 |nil=>rfl
 |cons a r ih=>
  cases r with
  |nil=>rfl
  |cons b r=>
   have e:(a::b::r).length-1=((b::r).length-1)+1:=by have h1:(a::b::r).length=r.length+2:=rfl;have h2:(b::r).length=r.length+1:=rfl;lia
   rw[e,List.eraseIdx_cons_succ,ih];all_goals rfl
section
variable {X:Cx} {aI:List (Addr×Obj)} {σ:St} {H:Hp} {s:aZ} {l b:Addr} {xs ys zs:Lv}
theorem dP.YQ{its':Lu}{t':Nat}(I:dP X aI σ H s)(hH:H l=some (.lst xs))
  (e:s.heap.get? l=some {cls:=.type "list",data:=.seq gF.toArray n}) (hf:f gF.toArray=its'.toArray) (hv:fN ys its') (hz:ys.length<=sizeLine):
  dP X aI σ (upd H l (.lst ys)) {s with heap:=s.heap.update l (Obj.mapSeq f),toks:=t'}:=by
 have q:=PySem.IsL.update e f
 rw[hf]at q
 refine I.write (x:=l) (e:=l) (by rw[hH];exact trivial) (.inl rfl) (fun b' u hb hu=>(Heap.get?_update_other s.heap (Obj.mapSeq f) (Ne.symm hb)).trans hu) ⟨_,q⟩ ?_
 exact⟨hz,its',_,hv,q⟩
theorem dP.m7{t':Nat}(I:dP X aI σ H s)(hv:fN ys gF)(hz:ys.length<=sizeLine):
  dP X aI σ (upd H s.heap.objs.size (.lst ys)) {s with heap:=s.heap.push {cls:=.type "list",data:=.seq gF.toArray},toks:=t'}:=
 I.laid (fun _ _ q=>bU _ q) (aY _) ⟨hz,gF,0,hv,cG _ rfl⟩
theorem dP.fresh(I:dP X aI σ H s):H s.heap.objs.size=none:=I.iW.fresh (aY _)
theorem dP.CU(I:dP X aI σ H s)(hH:H l=some (.lst xs)):xs.length<=sizeLine/\∃(gF:Lu) (n:Nat),fN xs gF/\xs.length=gF.length/\s.heap.get? l=some {cls:=.type "list",data:=.seq gF.toArray n}:=by obtain⟨z,gF,n,r,e⟩:=I.iW l _ hH;exact⟨z,gF,n,r,r.length,e⟩
theorem QL(h:n<=sizeLine):tE n=false:=by unfold tE;exact bH (by lia)
end
section
variable {X:Cx}
def Tt:V->Lv->Hp->VK->Prop:=fun x vs H Q=>E3 fun l xs y=>A5 (x=.ref l) (vs=[y]) (H l=some (.lst xs)) (xs.length<sizeLine) (Q .iU (upd H l (.lst (xs++[y]))))
theorem oN:W7 X "list.append" Tt:=by intro aI s σ H x vs v us Q I rx rv h;obtain⟨l,xs,y,rfl,rfl,hH,hz,q⟩:=h;cases rx;obtain⟨u,rfl,ru⟩:=rv.one;obtain⟨z,gF,n,r,hl,e⟩:=I.CU hH;refine BB F.slot_list_append ⟨_,e,rfl⟩ F.entry_list_append (F.args_list_append_2 _ _) (PySem.list_append l gF.toArray n u (by rw[cD];lia)) ⟨e,?_⟩;refine⟨.iU,_,I.YQ (its':=gF++[u]) hH e (by simp) (r.append (.cons ru .nil)) ?_,rfl,q⟩;rw[bA,Au];lia
def GK:V->Lv->Hp->VK->Prop:=fun x vs H Q=>E4 fun l b xs zs=>A6 (x=.ref l) (vs=[.ref b]) (H l=some (.lst xs)) (H b=some (.lst zs)) (xs.length+zs.length<=sizeLine) (Q .iU (upd H l (.lst (xs++zs))))
theorem wF:W7 X "list.extend" GK:=by
 intro aI s σ H x vs v us Q I rx rv h;obtain⟨l,b,xs,zs,rfl,rfl,hH,hB,hz,q⟩:=h;cases rx;obtain⟨u,rfl,ru⟩:=rv.one;cases ru;obtain⟨z,gF,n,r,hl,e⟩:=I.CU hH;obtain⟨z2,Pj,n2,r2,ZD,e2⟩:=I.CU hB;have hsz:gF.toArray.size+Pj.toArray.size<=sizeLine:=by rw[cD,cD];lia
 have K9:¬(!gF.toArray.isEmpty&&tE (gF.toArray.size+Pj.toArray.size))=true:=by rw[QL hsz,Bool.and_false];exact bY
 refine BB F.slot_list_extend ⟨_,e,rfl⟩ F.entry_list_extend (F.args_list_extend_2 _ _)
  (AutoSeq1.list_extend_list_list_0 l gF.toArray n b Pj.toArray n2 K9 (by rw[cD];lia) (by lia)) ⟨e,e2,?_⟩
 refine⟨.iU,_,I.YQ (its':=gF++Pj) hH e (by simp) (r.append r2) ?_,rfl,q⟩;rw[bA];lia
def yx:V->Lv->Hp->VK->Prop:=fun x vs H Q=>E3 fun l xs y=>A5 (x=.ref l) (vs=[]) (H l=some (.lst xs)) (xs[xs.length-1]? =some y) (Q y (upd H l (.lst xs.dropLast)))
theorem CJ:W7 X "list.pop" yx:=by
 intro aI s σ H x vs v us Q I rx rv h;obtain⟨l,xs,y,rfl,rfl,hH,hy,q⟩:=h;cases rx;have v8:=rv.zero;subst v8;obtain⟨z,gF,n,r,hl,e⟩:=I.CU hH;obtain⟨u,hu,ru⟩:=r.get hy;have hy':gF.toArray[gF.toArray.size-1]? =some u:=by show gF.toArray[gF.length-1]? =some u;rw[<-rQ,<-hl];exact hu
 refine BB F.slot_list_pop ⟨_,e,rfl⟩ F.entry_list_pop (F.args_list_pop_1 _) (MeetsSeq.list_pop_last l gF.toArray n u hy' (by rw[cD];lia)) ⟨e,?_⟩;refine⟨y,_,I.YQ (its':=gF.dropLast) hH e ?_ r.dropLast ?_,ru,q⟩
 .show gF.toArray.eraseIdxIfInBounds (gF.toArray.size-1)=gF.dropLast.toArray;rw[cD,List.eraseIdxIfInBounds_toArray,DX]
 .rw[List.length_dropLast];lia
def PN:V->Lv->Hp->VK->Prop:=fun x vs H Q=>E2 fun l xs=>A4 (x=.ref l) (vs=[]) (H l=some (.lst xs)) (Q .iU (upd H l (.lst xs.reverse)))
theorem CH:W7 X "list.reverse" PN:=by intro aI s σ H x vs v us Q I rx rv h;obtain⟨l,xs,rfl,rfl,hH,q⟩:=h;cases rx;have v8:=rv.zero;subst v8;obtain⟨z,gF,n,r,hl,e⟩:=I.CU hH;refine BB F.slot_list_reverse ⟨_,e,rfl⟩ F.entry_list_reverse (F.args_list_reverse_1 _) (AutoSeq1.list_reverse_list_0 l gF.toArray n (by rw[cD];lia)) ⟨e,?_⟩;refine⟨.iU,_,I.YQ (its':=gF.reverse) hH e (by simp) r.reverse ?_,rfl,q⟩;rw[IZ];lia
def yz:R2:=fun x y H Q=>E4 fun l b xs zs=>A6 (x=.ref l) (y=.ref b) (H l=some (.lst xs)) (H b=some (.lst zs)) (xs.length+zs.length<=sizeLine) (∀p,H p=none->Q (.ref p) (upd H p (.lst (xs++zs))))
theorem Hc:Ge X (Gr .Add) yz:=by
 intro aI s σ H x y v u Q I rx ry h;obtain⟨l,b,xs,zs,rfl,rfl,hH,hB,hz,q⟩:=h;cases rx;cases ry;obtain⟨z,gF,n,r,hl,e⟩:=I.CU hH;obtain⟨z2,Pj,n2,r2,ZD,e2⟩:=I.CU hB;refine PySem.P.add_list e e2 ?_ (by rw[cD,cD];lia);have ea:gF.toArray++Pj.toArray=(gF++Pj).toArray:=by simp
 rw[ea];exact⟨.ref _,_,I.m7 (t':=s.toks) (r.append r2) (by rw[bA];lia),rfl,q _ I.fresh⟩
end
section
variable {prog:dJ} {w:World} {A:gQ} {E:Value->aZ->Prop} {s:aZ}
end
section
variable {X:Cx}
end
theorem fN.ints:∀{ns:List Int} {us:Lu},fN (ns.map V.int) us->Ou us ns
 |[],us,h=>by rw[lS]at h;cases h;exact IntsAre.nil
 |n::ns,us,h=>by
  rw[bL]at h;cases h with
  |cons r t=>obtain⟨k,rfl⟩:=r;exact IntsAre.cons n k (fN.ints t)
theorem fN.bls:∀{bs:List Bool} {us:Lu},fN (bs.map V.bl) us->us=bs.map qA
 |[],us,h=>by rw[lS]at h;cases h;rfl
 |b::bs,us,h=>by
  rw[bL]at h;cases h with
  |cons r t=>cases r;rw[fN.bls t,bL]
theorem fN.kd(r:fN [V.ref a] us):us=[dE a]:=by
 cases r with
 |cons r t=>cases t;cases r;rfl
section
variable {prog:dJ} {w:World} {A:gQ} {E:Value->aZ->Prop} {s:aZ} {l:Addr} {gF:Lu} {ns:List Int} {Q:Value->aZ->Prop}
theorem XC(hh:A.handled=none)(hl:s.heap.IsList l gF.toArray)(hi:Ou gF ns)
  (h:∀h' tk t',(∀b o,s.heap.get? b=some o->h'.get? b=some o)->Q (.int ns.sum t') {s with heap:=h',toks:=tk}):wpAny (model prog w) A (call (.builtin "sum") [.ref l]) Q E s:=by
 obtain⟨xs,e⟩:=hi.allInts.items
 have hn:numsOf (intItems xs).toList=ns:=by rw[<-e];exact hi.numsOf
 rw[nums_intItems]at hn
 rw[e]at hl
 refine PySem.sum_intListG hh hl fun h' tk t' hk=>?_
 have:=h h' tk t' hk
 rw[preSum_eq,eU (by simp),hn];exact this
end
section
variable {X:Cx}
def ke(K:aX):Lv->Hp->VK->Prop:=fun vs H Q=>E2 fun(a:Addr) (ns:List Int)=>A3 (vs=[V.ref a]) (iY K H a (ns.map V.int)) (Q (.int ns.sum) H)
theorem UE(hc:X.calm=true):Sl X (.builtin "sum") (ke X.K):=by intro aI s σ H vs us Q I r h;obtain⟨a,ns,rfl,hs,q⟩:=h;obtain⟨gF,rv,hl,_⟩:=I.list hs;rw[fN.kd r];exact XC (I.ok.hd hc) hl.isList rv.ints fun h' tk t' hk=>⟨.int _,H,I.kept hk,⟨_,rfl⟩,q⟩
end
section
variable {X:Cx}
end
section
variable {X:Cx}
end
theorem Yw{prog:dJ}{w:World}{A:gQ}{E:Value->aZ->Prop}{l:Addr}{items:Array Value}{Q:Value->aZ->Prop}(hl:s.heap.IsList l items)
  (h:∀s₂:aZ,s₂={s with heap:=s.heap.push {cls:=.type "list_iterator",data:=.fields #[.ref l,.int 0 0]}}->
   (s₂.heap.IsListIter s.heap.objs.size l 0/\s₂.heap.IsList l items)->l≠s.heap.objs.size->Q (.ref s.heap.objs.size) s₂):wpAny (model prog w) A (NC (.ref l)) Q E s:=by
 have oT:l<s.heap.objs.size:=by obtain⟨_,e,_⟩:=hl;exact cM e
 exact wpAny_pyIter_list hl (h _ rfl ⟨⟨_,cG _ rfl,rfl,rfl⟩,hl.push _⟩ (fA oT))
theorem Ia{bs:List Bool}(e:gF=bs.map qA):
  TruthOf prog w A (fun i v=>gF.toArray[i]? =some v) (fun i=>bs.getD i false):=fun i v s Q E hv hq=>by
 have da:gF[i]? =some v:=by simpa using hv
 rw[e,bT]at da
 obtain⟨b,hb,rfl⟩:=dY.mp da
 have hg:bs.getD i false=b:=by rw[uQ,hb]<;>rfl
 have dj:Q (bs.getD i false) s:=hq
 rw[hg]at dj
 exact fQ dj
theorem Pt:∀bs:List Bool,(bD bs.length).any (fun i=>bs.getD i false)=bs.any id
 |[]=>rfl
 |b::bs=>by rw[cV,AL,pS,zE,pS,<-Pt bs];all_goals rfl
theorem Pu:∀bs:List Bool,(bD bs.length).all (fun i=>bs.getD i false)=bs.all id
 |[]=>rfl
 |b::bs=>by rw[cV,AL,jP,Hz,jP,<-Pu bs];all_goals rfl
section
variable {X:Cx}
def PR(K:aX):Lv->Hp->VK->Prop:=fun vs H Q=>E2 fun(a:Addr) (bs:List Bool)=>A3 (vs=[V.ref a]) (iY K H a (bs.map V.bl)) (Q (.bl (bs.any id)) H)
def XU(K:aX):Lv->Hp->VK->Prop:=fun vs H Q=>E2 fun(a:Addr) (bs:List Bool)=>A3 (vs=[V.ref a]) (iY K H a (bs.map V.bl)) (Q (.bl (bs.all id)) H)
theorem Vl(hc:X.calm=true):Sl X (.builtin "any") (PR X.K):=by
 intro aI s σ H vs us Q I r h;obtain⟨a,bs,rfl,hs,q⟩:=h;obtain⟨gF,rv,hl,_⟩:=I.list hs;rw[fN.kd r];have hb:=rv.bls;refine call_any_walk (Yw hl.isList fun s₂ e2 st Iq=>?_);subst e2;refine⟨_,_,_,_,_,_,_,rfl,Walks.list (A:=X.A.in1) (I.ok.hd hc) _ a Iq gF.toArray,st,Ia hb,fun h' tk hk=>?_⟩;refine⟨.bl _,H,I.kept fun b o eo=>hk b o (fun pP=>?_) (bU _ eo),?_,q⟩
 .rcases aW.mp pP with e1|pP
  .exact absurd (e1 ▸ cM eo) (jR _)
  .cases pP
 .show qA _=qA _;rw[<-Pt,hb,cD,aA]
theorem EO(hc:X.calm=true):Sl X (.builtin "all") (XU X.K):=by
 intro aI s σ H vs us Q I r h;obtain⟨a,bs,rfl,hs,q⟩:=h;obtain⟨gF,rv,hl,_⟩:=I.list hs;rw[fN.kd r];have hb:=rv.bls;refine call_all_walk (Yw hl.isList fun s₂ e2 st Iq=>?_);subst e2;refine⟨_,_,_,_,_,_,_,rfl,Walks.list (A:=X.A.in1) (I.ok.hd hc) _ a Iq gF.toArray,st,Ia hb,fun h' tk hk=>?_⟩;refine⟨.bl _,H,I.kept fun b o eo=>hk b o (fun pP=>?_) (bU _ eo),?_,q⟩
 .rcases aW.mp pP with e1|pP
  .exact absurd (e1 ▸ cM eo) (jR _)
  .cases pP
 .show qA _=qA _;rw[<-Pu,hb,cD,aA]
end
section
variable {X:Cx} {aI:List (Addr×Obj)} {σ:St} {H:Hp} {s:aZ}
end
section
variable {X:Cx}
end
abbrev UQ(h:Heap)(c:Addr)(v:Option Value):Prop:=h.IsCell c v
def j1(scope sc:Scope):Scope:=
 {scope with names:=scope.names.map fun(n,k)=>if (k==.free&&sc.kind==.function&&sc.names.lookup n==some .cell)then (n,.cell)else (n,k)}
def jJ(cells:List (Str×Addr)):List (Str×pN)->List (Str×Addr)->List (Str×Addr)
 |[],acc=>acc
 |(n,k)::r,acc=>if k==.free then jJ cells r ((n,(cells.lookup n).getD 0)::acc)else jJ cells r acc
theorem Fw(env:Env)(f:Str×pN->List (Str×Addr)->Sem (ForInStep (List (Str×Addr))))
  (hf:∀n k c,f (n,k) c=if k==.free then (do let a<-cellOf env n;pure (.yield ((n,a)::c)))else pure (.yield c)):
  ∀(names:List (Str×pN)) (acc:List (Str×Addr)),(∀y∈names,y.2=.free->∃c,env.cells.lookup y.1=some c)->forIn names acc f=pure (jJ env.cells names acc)
 |[],acc,_=>by rw[Pz];rfl
 |(n,k)::r,acc,h=>by
  rw[WM,hf];have ih:=fun acc=>Fw env f hf r acc fun y hy=>h y (aD _ hy);unfold jJ;by_cases hk:(k==rF)=true
  .rw[if_pos hk,if_pos hk];obtain⟨c,hc⟩:=h (n,k) aF (by simpa using hk);have e:cellOf env n=pure c:=by unfold cellOf;rw[hc]
   rw[e];have e2:(env.cells.lookup n).getD 0=c:=by rw[hc];rfl
   rw[e2];exact ih _
  .rw[if_neg hk,if_neg hk];exact ih _
theorem ES(h:∀y∈scope.names,y.2=.free->∃c,env.cells.lookup y.1=some c):closureFor scope env=pure (jJ env.cells scope.names []):=by simp only[closureFor];rw[Fw env _ (fun n k c=>rfl) scope.names [] h];rfl
theorem Ca{α:Type}:∀{l:List (Str×α)} {n:Str} {c:α},(n,c)∈l->∃c',l.lookup n=some c'
 |(k,v)::r,n,c,h=>by
  rw[mL];cases hb:n==k with
  |true=>exact⟨_,rfl⟩
  |false=>
   rcases aW.mp h with e|h
   .cases e;simp at hb
   .exact Ca h
theorem vB:∀{names:List (Str×pN)} {acc:List (Str×Addr)} {n:Str} {c:Addr},(n,c)∈jJ cells names acc->(n,c)∈acc∨((n,.free)∈names/\c=(cells.lookup n).getD 0)
 |[],_,_,_,h=>.inl h
 |(m,k)::r,acc,n,c,h=>by
  unfold jJ at h;split at h
  .rename_i hk;have hk:k=.free:=by simpa using hk
   rcases vB h with h|⟨h1,h2⟩
   .rcases aW.mp h with e|h
    .cases e;exact .inr ⟨hk ▸ aF,rfl⟩
    .exact .inl h
   .exact .inr ⟨aD _ h1,h2⟩
  .rcases vB h with h|⟨h1,h2⟩
   .exact .inl h
   .exact .inr ⟨aD _ h1,h2⟩
theorem Ai:∀{names:List (Str×pN)} {acc:List (Str×Addr)} {p:Str×Addr},p∈acc->p∈jJ cells names acc
 |[],_,_,h=>h
 |(m,k)::r,acc,p,h=>by
  unfold jJ;split
  .exact Ai (aD _ h)
  .exact Ai h
theorem Ah:∀{names:List (Str×pN)} {acc:List (Str×Addr)} {n:Str},(n,.free)∈names->(n,(cells.lookup n).getD 0)∈jJ cells names acc
 |(m,k)::r,acc,n,h=>by
  unfold jJ;rcases aW.mp h with e|h
  .cases e;exact Ai aF
  .split
   .exact Ah h
   .exact Ah h
theorem wO:∀{names:List (Str×pN)} {h:Heap} {acc:List (Str×Addr)} {x:Str} {c:Addr},(x,c)∈gY h.objs.size names acc->
  (x,c)∈acc∨((x,.cell)∈names/\h.objs.size<=c/\UQ (wZ h names) c none)
 |[],_,_,_,_,h=>.inl h
 |(n,k)::r,h,acc,x,c,hm=>by
  unfold gY at hm;unfold wZ;split at hm
  .rename_i hk;rw[if_pos hk];have hk:k=.cell:=by simpa using hk
   rw[<-iD h {cls:=.type "cell",data:=.cell none}]at hm;rcases wO hm with hm|⟨h1,h2,h3⟩
   .rcases aW.mp hm with e|hm
    .cases e;exact .inr ⟨hk ▸ aF,aY _,_,Dj r _ _ _ (cG _ rfl),rfl⟩
    .exact .inl hm
   .rw[iD]at h2;exact .inr ⟨aD _ h1,xB h2,h3⟩
  .rename_i hk;rw[if_neg hk];rcases wO hm with hm|⟨h1,h2,h3⟩
   .exact .inl hm
   .exact .inr ⟨aD _ h1,h2,h3⟩
theorem Bk:∀{names:List (Str×pN)} {n:Nat} {acc:List (Str×Addr)} {p:Str×Addr},p∈acc->p∈gY n names acc
 |[],_,_,_,h=>h
 |(m,k)::r,n,acc,p,h=>by
  unfold gY;split
  .exact Bk (aD _ h)
  .exact Bk h
theorem Hs:∀{names:List (Str×pN)} {n:Nat} {acc:List (Str×Addr)} {x:Str},(x,.cell)∈names->∃c,(x,c)∈gY n names acc
 |(m,k)::r,n,acc,x,h=>by
  unfold gY;rcases aW.mp h with e|h
  .cases e;exact⟨n,Bk aF⟩
  .split
   .exact Hs h
   .exact Hs h
theorem Hr:∀{names:List (Str×pN)} {h:Heap} {acc:List (Str×Addr)} {x y:Str} {c:Addr},(∀p∈acc,p.2<h.objs.size)->(∀x y c,(x,c)∈acc->(y,c)∈acc->x=y)->
  (x,c)∈gY h.objs.size names acc->(y,c)∈gY h.objs.size names acc->x=y
 |[],_,_,_,_,_,_,hi,h1,h2=>hi _ _ _ h1 h2
 |(n,k)::r,h,acc,x,y,c,hl,hi,h1,h2=>by
  unfold gY at h1 h2;split at h1
  .rename_i hk;rw[if_pos hk]at h2;rw[<-iD h {cls:=.type "cell",data:=.cell none}]at h1 h2;refine Hr (h:=h.push _) (fun p hp=>?_) (fun x y c a b=>?_) h1 h2
   .rw[iD];rcases aW.mp hp with rfl|hp
    .exact sE _
    .exact xA (hl p hp)
   .rcases aW.mp a with e|a<;>rcases aW.mp b with e'|b
    .cases e;cases e';rfl
    .cases e;exact absurd (hl _ b) (jR _)
    .cases e';exact absurd (hl _ a) (jR _)
    .exact hi _ _ _ a b
  .rename_i hk;rw[if_neg hk]at h2;exact Hr hl hi h1 h2
theorem Yj{M:Model}{A:gQ}{E:Value->aZ->Prop}{globals:Addr}{closure:List (Str×Addr)}{qual:Str}{func:Option Addr}{code:Value}{around:Env}{builtins:Addr}{Q:Env->aZ->Prop}
  (h:Q (newEnv scope s.heap.objs.size globals (gY (s.heap.objs.size+1) scope.names closure) qual func code (some around) builtins)
   {s with heap:=wZ (s.heap.push {cls:=.type "dict",data:=.dict #[]}) scope.names}):
  wpAny M A (newFunctionEnv scope globals closure [] qual func code (some around) builtins) Q E s:=by
 simp only[newFunctionEnv,FG,if_true]
 refine aS (wpAny_alloc ?_)
 refine aS (wpAny_layCells _ (fun n k c=>rfl) scope.names closure _ _ ?_)
 rw[show({s with heap:=s.heap.push {cls:=.type "dict",data:=.dict #[]}}:aZ).heap.objs.size=s.heap.objs.size+1 from iD ..]
 rw[Pz]
 exact aS (bO (bO h))
theorem Aa{sc:Scope}:∀{names:List (Str×pN)} {x:Str} {k:pN},
  (names.map fun(n,k)=>if (k==rF&&sc.kind==.function&&sc.names.lookup n==some .cell)then (n,Od)else (n,k)).lookup x=some k->
  ∃k',names.lookup x=some k'/\(k=k'∨(k'=.free/\k=.cell))
 |[],_,_,h=>by simp at h
 |(n,k₀)::r,x,k,h=>by
  have ih:= @Aa sc r x k;have h':qL x ((if (k₀==rF&&sc.kind==.function&&sc.names.lookup n==some .cell)=true then (n,Od)else (n,k₀))::(r.map _))=some k:=h;cases hx:x==n with
  |true=>
   simp only[mL,hx];by_cases hc:(k₀==rF&&sc.kind==.function&&sc.names.lookup n==some .cell)=true
   .rw[if_pos hc]at h';simp only[mL,hx]at h';cases h';simp only[bJ,beq_iff_eq]at hc;exact⟨k₀,rfl,.inr ⟨hc.1.1,rfl⟩⟩
   .rw[if_neg hc]at h';simp only[mL,hx]at h';cases h';exact⟨_,rfl,.inl rfl⟩
  |false=>
   simp only[mL,hx];by_cases hc:(k₀==rF&&sc.kind==.function&&sc.names.lookup n==some .cell)=true
   .rw[if_pos hc]at h';simp only[mL,hx]at h';exact ih h'
   .rw[if_neg hc]at h';simp only[mL,hx]at h';exact ih h'
structure AG(N:List Str)(sc scope:Scope)(own:List (Str×Nat)):Prop where
 kind:scope.kind=.function
 uniq:∀y∈scope.names,scope.names.lookup y.1=some y.2
 ix:∀p∈own,N[p.2]? =some p.1
 free:∀y∈scope.names,y.2=.free->sc.names.lookup y.1=some .cell∨sc.names.lookup y.1=some .free
 own:∀y∈scope.names,y.2=.local∨y.2=.cell->y.1∈own.map (·.1)∨y.1∉N
def jW(σ:St):Ln->St
 |[]=>σ
 |v::vs=>(jW σ vs).set v none
theorem zO(σ:St):∀vs:Ln,(jW σ vs).length=σ.length
 |[]=>rfl
 |v::vs=>by unfold jW;rw[tD,zO σ vs]
theorem Gv{i:Nat}:∀{vs:Ln},(jW σ vs)[i]? =some (some x)->σ[i]? =some (some x)/\i∉vs
 |[],h=>⟨h,by simp⟩
 |v::vs,h=>by
  unfold jW at h;by_cases hi:v=i
  .subst hi;by_cases hv:v<(jW σ vs).length
   .rw[zC hv]at h;cases h
   .rw[Av (by simpa using hv)]at h;cases h
  .rw[Bs hi]at h;obtain⟨h1,h2⟩:=Gv h;exact⟨h1,by simp only[aW,not_or];exact⟨fun e=>hi e.symm,h2⟩⟩
abbrev Cx.Vn(X:Cx)(s:aZ)(H:Hp)(scope:Scope)(qG:Env)(fp:La):Cx:={X with Qq:=s,si:=H,env:=qG,iA:=X.stack,ex:=fp,fn:=fun x=>scope.names.lookup x==some .cell,pn:=[],xe:=fun _ _=>False}
section
variable {X:Cx} {aI:List (Addr×Obj)} {σ:St} {H:Hp} {s:aZ}
theorem AD{fp:La}(I:dP X aI σ H s)(ok:AG X.N X.env.scope scope own)(hN:X.N.Nodup)(uu:∀b∈fp,Ob X aI H b/\b<s.heap.objs.size):
  dP (X.Vn s H scope (pK scope (gY (s.heap.objs.size+1) scope.names (jJ X.env.cells scope.names [])) s.heap.objs.size X.env) fp) [] (jW σ (own.map (·.2))) H {s with heap:=wZ (s.heap.push {cls:=.type "dict",data:=.dict #[]}) scope.names}:=by
 have Rq:∀y∈scope.names,y.2=.free->∃c,X.env.cells.lookup y.1=some c:=fun y hy e=>by
  rcases ok.free y hy e with k|k
  .exact I.ok.has _ (.inl k)
  .exact I.ok.has _ (.inr k)
 generalize Zd:pK scope (gY (s.heap.objs.size+1) scope.names (jJ X.env.cells scope.names [])) s.heap.objs.size X.env=qG
 have kp:∀b o,s.heap.get? b=some o->(wZ (s.heap.push {cls:=.type "dict",data:=.dict #[]}) scope.names).get? b=some o:=fun b o e=>Dj _ _ _ _ (bU _ e)
 have hL:qG.locals=s.heap.objs.size:=by rw[<-Zd];rfl
 have SN:qG.cells=gY (s.heap.objs.size+1) scope.names (jJ X.env.cells scope.names []):=by rw[<-Zd];rfl
 have x4:qG.scope=j1 scope X.env.scope:=by rw[<-Zd];rfl
 rw[<-iD s.heap {cls:=.type "dict",data:=.dict #[]}]at SN
 have cm:∀{y c},(y,c)∈jJ X.env.cells scope.names []->X.env.cells.lookup y=some c/\c<s.heap.objs.size:=fun{y c} hm=>by
  rcases vB hm with hm|⟨h1,rfl⟩
  .cases hm
  .obtain⟨c,hc⟩:=Rq _ h1 rfl;rw[hc];obtain⟨w,z⟩:=I.cell _ _ hc;exact⟨rfl,z.lt⟩
 have mem:∀{y c},qG.cells.lookup y=some c->(X.env.cells.lookup y=some c/\c<s.heap.objs.size)∨(s.heap.objs.size+1<=c/\UQ (wZ (s.heap.push {cls:=.type "dict",data:=.dict #[]}) scope.names) c none):=fun{y c} e=>by
  rw[SN]at e;rcases wO (dH e)with hm|⟨_,h2,h3⟩
  .exact .inl (cm hm)
  .rw[iD]at h2;exact .inr ⟨h2,h3⟩
 have look:∀{y},scope.names.lookup y=some .free->∃c,qG.cells.lookup y=some c/\X.env.cells.lookup y=some c:=fun{y} hl=>by
  have hy:(y,rF)∈scope.names:=dH hl;obtain⟨c',e'⟩:=Ca (Bk (names:=scope.names) (n:=(s.heap.push {cls:=.type "dict",data:=.dict #[]}).objs.size) (Ah (cells:=X.env.cells) (acc:=[]) hy));rw[<-SN]at e';refine⟨c',e',?_⟩;rw[SN]at e';rcases wO (dH e')with hm|⟨h1,_,_⟩
  .exact(cm hm).1
  .have:=ok.uniq _ h1;rw[hl]at this;cases this
 have okB:(X.Vn s H scope qG fp).Ok:=by
  refine⟨I.ok.mod,by show qG.scope.kind=_;rw[x4];exact ok.kind,by show qG.globals=_;rw[<-Zd];exact I.ok.glob,by show qG.builtins=_;rw[<-Zd];exact I.ok.blt,by show s.heap.objs.size<=qG.locals;rw[hL];exact aY _,
   fun y z c e1 e2=>?_,fun y hy=>?_,fun y c z e=>?_,I.ok.hd,I.ok.frames,.inl rfl,fun b hb=>⟨?_,fun y c e z=>?_⟩,I.bs,bK I.ok.aw I.sz,fun b o e hb=>?_,fun b hb z=>?_,I.stack,I.FX⟩
  .have e1:qG.cells.lookup y=some c:=e1
   have e2:qG.cells.lookup z=some c:=e2
   rw[SN]at e1 e2
   refine Hr (fun p hp=>?_) (fun y z c a b=>I.ok.inj y z c (cm a).1 (cm b).1) (dH e1) (dH e2)
   rw[iD]
   exact xA (cm (y:=p.1) (c:=p.2) hp).2
  .show ∃c,qG.cells.lookup y=some c
   have key:∀k,qG.kindOf y=some k->(k=.cell∨k=.free)->∃c,qG.cells.lookup y=some c:=fun k hk Hl=>by
    unfold Env.kindOf at hk
    rw[x4]at hk
    obtain⟨k',e,r⟩:=Aa hk
    have:k'=.cell∨k'=.free:=by
     rcases r with rfl|⟨rfl,_⟩
     .exact Hl
     .exact .inr rfl
    rcases this with rfl|rfl
    .obtain⟨c,hm⟩:=Hs (n:=(s.heap.push {cls:=.type "dict",data:=.dict #[]}).objs.size) (acc:=jJ X.env.cells scope.names []) (dH e)
     obtain⟨c',e'⟩:=Ca hm
     exact⟨c',by rw[SN];exact e'⟩
    .obtain⟨c,h1,_⟩:=look e
     exact⟨c,h1⟩
   rcases hy with hy|hy
   .exact key _ hy (.inl rfl)
   .exact key _ hy (.inr rfl)
  .have z:(scope.names.lookup y==some Od)=true:=z
   have z:scope.names.lookup y=some .cell:=by simpa using z
   have e:qG.cells.lookup y=some c:=e
   rw[SN]at e
   rcases wO (dH e)with hm|⟨_,h2,_⟩
   .rcases vB hm with hm|⟨h1,_⟩
    .cases hm
    .have q:=ok.uniq _ h1
     rw[z]at q;cases q
   .rw[iD]at h2
    exact xB h2
  .show b≠qG.locals
   rw[hL];exact fA (uu b hb).2
  .have e:qG.cells.lookup y=some c:=e
   rcases mem e with ⟨h1,_⟩|⟨h1,_⟩
   .exact(uu b hb).1.2.2.2.2.1 y c h1 z
   .have h2:s.heap.objs.size+1<=b:=by rw[<-z];exact h1
    exact absurd (cA (uu b hb).2 (xB h2)) (jR _)
  .rcases(uu b hb).1.2.2.2.1 with z|z
   .exact I.ok.QM b o e z
   .exact absurd (cA (cM e) (bK I.ok.aw z)) (jR _)
  .rcases aW.mp (I.BW b z)with z|z
   .exact(uu b hb).1.2.1 z
   .exact(uu b hb).1.2.2.1 z
 refine⟨okB,rfl,I.bare,Un.kept kp,⟨fun _=>none,?_,fun i y av e1 e2 e3=>?_⟩,fun y c e=>?_,?_,fun y c e=>?_,fun p hp=>?_,I.iW.kept kp,by rw[zO];exact I.len⟩
 .show Heap.Ns _ qG.locals _;rw[hL];exact Heap.Ns.keeps (Heap.Ns.new ..) fun b o e=>Dj _ _ _ _ e
 .obtain⟨e2,Iq⟩:=Gv e2
  have DQ:scope.names.lookup y=some .free/\(qG.kindOf y=some .cell∨qG.kindOf y=some .free):=by
   have key:∀k,qG.scope.names.lookup y=some k->k=.local∨k=.cell∨k=.free->scope.names.lookup y=some .free/\(qG.kindOf y=some .cell∨qG.kindOf y=some .free):=fun k hk Hl=>by
    have HP:=hk;rw[x4]at hk;obtain⟨k',e,r⟩:=Aa hk
    have no:¬(k'=.local∨k'=.cell):=fun hh=>by
     rcases ok.own _ (dH e) hh with e'|e'
     .obtain⟨p,hp,hpy⟩:=aE.mp e';have e3:=ok.ix p hp;have:p.1=y:=hpy;rw[this]at e3;exact Iq (aE.mpr ⟨p,hp,Me hN e3 e1⟩)
     .exact e' (aG e1)
    rcases r with rfl|⟨rfl,rfl⟩
    .rcases Hl with rfl|rfl|rfl
     .exact absurd (.inl rfl) no
     .exact absurd (.inr rfl) no
     .exact⟨e,.inr HP⟩
    .exact⟨e,.inl HP⟩
   have e3:ro qG.scope y:=e3;rcases e3 with e3|e3|e3
   .exact key _ e3 (.inl rfl)
   .exact key _ e3 (.inr (.inl rfl))
   .exact key _ e3 (.inr (.inr rfl))
  obtain⟨m,hn,hl⟩:=I.loc;have r9:ro X.env.scope y:=(ok.free _ (dH DQ.1) rfl).elim (fun k=>.inr (.inl k)) (fun k=>.inr (.inr k));obtain⟨w,r,q⟩:=hl i y av e1 e2 r9;refine⟨w,r,.inr ⟨DQ.2,?_⟩⟩;obtain⟨c,h1,h2⟩:=look DQ.1;rcases q with ⟨k,_⟩|⟨_,c',e',z⟩
  .have k:X.env.scope.names.lookup y=some .local:=k;rcases ok.free _ (dH DQ.1) rfl with k'|k'<;>rw[show X.env.scope.names.lookup y=_ from k']at k<;>cases k
  .rw[h2]at e';cases e';exact⟨c,h1,z.keeps kp⟩
 .have e:qG.cells.lookup y=some c:=e;rcases mem e with ⟨h1,_⟩|⟨_,z⟩
  .obtain⟨w,z⟩:=I.cell y c h1;exact⟨w,z.keeps kp⟩
  .exact⟨_,z⟩
 .show H qG.locals=none;rw[hL];exact I.iW.fresh (aY _)
 .have e:qG.cells.lookup y=some c:=e;rcases mem e with ⟨h1,_⟩|⟨h1,_⟩
  .exact I.wK y c h1
  .exact I.iW.fresh (xB h1)
 .exact absurd (show p∈([]:List (Addr×Obj))++[] from hp) (by simp)
theorem rl{D:Addr}{xs:Lv}(I:dP X aI σ H s)(hD:H D=some (.lst xs))(hz:xs.length<sizeLine)(r:gC y v)
  (h:∀s',dP X aI σ (upd H D (.lst (xs++[y]))) s'->Q .none s'):wpAny (model X.prog X.w) X.A (call (.builtin "list.append") [.ref D,v]) Q E s:=by
 obtain⟨Rm,gF,n,ri,e⟩:=I.iW D _ hD
 have hl:=ri.length
 refine append_at (hsz:=by rw[cD];lia) e fun h' sb AS=>?_
 refine h {s with heap:=h'} (I.write (t':=s.toks) (by rw[hD];trivial) (.inl rfl) (fun b u hb q=>(sb.2 b hb).trans q) ⟨_,AS⟩ ⟨by rw[bA];exact hz,gF++[v],n+1,ri.append (.cons r .nil),?_⟩)
 rw[AS]
 simp
def Q6(X:Cx)(ifs:List Expr)(t:TT):Prop:=
 ∀(aI:List (Addr×Obj)) (s:aZ) (σ:St) (H:Hp) (Q:Bool->Hp->Prop),dP X aI σ H s->t σ H Q->
  wpAny (model X.prog X.w) X.A (forIn ifs true fun c r=>if r=true then do let ok<-isTrue c X.env (eval c X.env);pure (pC ok)else pure (pC r)) (TP X aI σ Q) X.xe s
def Tf:TT:=fun _ H Q=>Q true H
theorem oK:Q6 X [] Tf:=fun _ _ _ H _ I h=>wpAny_tests_nil ⟨H,I,h⟩
theorem Ax{c:Expr}{t:TT}(h:PT X c t):Q6 X [c] t:=fun aI s σ H Q I hw=>wpAny_tests_one (h aI s σ H Q I hw)
end
theorem JG{α:Type}{t:Sem α}{Q Q':α->aZ->Prop}{M:Model}(h:wpAny M A t Q (fun _ _=>False) s)(hQ:∀a s,Q a s->Q' a s):wpAny M A t Q' E s:=iE h hQ fun _ _ z=>fP z
theorem Vm{R:Result->aZ->Prop}{cE:Expr}{it acc:Value}(I:Nat->aZ->Prop)
  (turn:∀n s,I n s->wpAny (model prog w) A (AZ it) (fun r s₁=>match r with
   |none=>R (.ok .next) s₁
   |some v=>wpAny (model prog w) A (letOwnedTupleGo cE it v) (fun _ s₁'=>wpAny (model prog w) A (assign cE env v) (fun _ s₂=>
     wpAny (model prog w) A (forIn ifs true fun c r=>if r=true then do let ok<-isTrue c env (eval c env);pure (pC ok)else pure (pC r)) (fun ok s₃=>
      if ok=true then wpAny (model prog w) A (eval elt env) (fun x s₄=>
       wpAny (model prog w) A (call (.builtin "list.append") [acc,x]) (fun _ s₅=>∃m,m<n/\I m s₅) (Cc (model prog w) A env fun e s'=>R (.error e) s') s₄) (Cc (model prog w) A env fun e s'=>R (.error e) s') s₃
      else ∃m,m<n/\I m s₃) (Cc (model prog w) A env fun e s'=>R (.error e) s') s₂) (Cc (model prog w) A env fun e s'=>R (.error e) s') s₁') (Cc (model prog w) A env fun e s'=>R (.error e) s') s₁) (Cc (model prog w) A env fun e s'=>R (.error e) s') s)
  (n:Nat) (h:I n s):
  codeAny (model prog w) A (.compLoop (.ListComp elt [⟨cE,iter,ifs,0⟩] scope pos) 0 it acc env) R s:=by
 refine codeAny_loop rfl I (fun n s hI=>?_) n h
 show wpAny _ A ((compTurn (.ListComp elt [⟨cE,iter,ifs,0⟩] scope pos) 0 it acc env).onRaise (fun x=>do noteFrame x env;theTreesLotGoes x)) _ _ s
 refine wpAny_noted ?_
 rw[compTurn_list]
 refine aS (IS (aS (iE (turn n s hI) (fun r s₁ h₁=>?_) fun _ _ h'=>h')))
 cases r with
 |none=>exact bO h₁
 |some v=>
  refine aS (iE h₁ (fun _ s₁' h₁'=>?_) fun _ _ h'=>h');refine aS (iE h₁' (fun _ s₂ h₂=>aS (iE h₂ (fun ok s₃ h₃=>?_) fun _ _ h'=>h')) fun _ _ h'=>h');cases ok with
  |false=>exact bO ⟨rfl,h₃⟩
  |true=>exact aS (aS (iE h₃ (fun x s₄ h₄=>aS (iE h₄ (fun _ s₅ h₅=>bO (bO ⟨rfl,h₅⟩)) fun _ _ h'=>h')) fun _ _ h'=>h'))
section
variable {X:Cx}
def JH(wi:TI)(g:TG)(tt:TT)(te:TE)(vs:Ln):TE:=fun σ H Q=>wi σ H fun J H1=>∀D,H1 D=none->∃W:Nat->Nat->Hp->Prop,(∃m,W 0 m (upd H1 D (.lst [])))/\∀i m H,W i m H->
 (J.stop i H/\Q (.ref D) H)∨(J.go i H/\∃Nx:Hp->Prop,(∀H',Nx H'->∃m',m'<m/\W (i+1) m' H')/\∀x H',J.BL i H x H'->g x (jW σ vs) H' fun σ2 H2=>jW σ2 vs=jW σ vs/\tt σ2 H2 fun b H3=>
  if b=true then te σ2 H3 fun y H4=>∃acc,H4 D=some (.lst acc)/\acc.length<sizeLine/\Nx (upd H4 D (.lst (acc++[y])))else Nx H3)
theorem HA{Q:VK}{pos':Pos}{wi:TI}{Qf:Value->aZ->Prop}
  (hc:X.calm=true) (hN:X.N.Nodup) (I:dP X aI σ H s) (hi:PI X tg iter wi) (ok:AG X.N X.env.scope scope own)
  (hg:∀(s:aZ) (H:Hp) (C:Addr) (cl:List (Str×Addr)) (fp:La),PG (X.Vn s H scope (pK scope cl C X.env) fp) tg g) (ht:∀(s:aZ) (H:Hp) (C:Addr) (cl:List (Str×Addr)) (fp:La),Q6 (X.Vn s H scope (pK scope cl C X.env) fp) ifs tt)
  (he:∀(s:aZ) (H:Hp) (C:Addr) (cl:List (Str×Addr)) (fp:La),PE (X.Vn s H scope (pK scope cl C X.env) fp) elt te) (hs:∀x,yY iter X.env x=pure x)
  (h:JH wi g tt te (own.map (·.2)) σ H Q)
  (qe:∀D C s' m H',dP X aI σ H' s'->Q (.ref D) H'->s'.heap.Ns C m->Ob X aI H' C->compPost (model X.prog X.w) X.A X.xe use Qf (.ref D) C (.ok .next) s'):
  wpAny (model X.prog X.w) X.A (comprehension (.ListComp elt [⟨tg,iter,ifs,0⟩] scope pos) scope X.env pos' (newList []) false (eval iter X.env) use) Qf X.xe s:=by
 have Rq:∀y∈scope.names,y.2=.free->∃c,X.env.cells.lookup y.1=some c:=fun y hy e=>by
  rcases ok.free y hy e with k|k
  .exact I.ok.has _ (.inl k)
  .exact I.ok.has _ (.inr k)
 refine wpAny_comprehension_free (use:=use) rfl hs (ES Rq) ok.kind (fun y hy e=>by rw[ok.uniq y hy,e])
  (iX (hi aI s σ H _ I h) fun xv s1 hx=>iX hx fun T1 s2 h2=>?_)
 obtain⟨it,fp,tn,J,H2,e,I2,T,S0,f2,q⟩:=h2
 subst e
 refine yU (Yj ?_) (by show 0<=sizeLine;decide)
 generalize hD:s2.heap.objs.size=D
 have hDn:H2 D=none:=I2.iW.fresh (Jh hD)
 obtain⟨W,⟨m0,w0⟩,turn⟩:=q D hDn
 generalize hs3:({s2 with heap:=s2.heap.push {cls:=.type "list",data:=.seq ([]:Lu).toArray}}:aZ)=s3
 have I3:dP X aI σ (upd H2 D (.lst [])) s3:=by rw[<-hs3];refine I2.laid (t':=s2.toks) (fun b o e=>bU _ e) (Jh hD) ⟨cI _,[],0,.nil,?_⟩;rw[<-hD];exact cG _ rfl
 have h3:s3.heap=s2.heap.push {cls:=.type "list",data:=.seq ([]:Lu).toArray}:=by rw[<-hs3]
 have sz:∀b∈fp,b<s2.heap.objs.size:=fun b hb=>by obtain⟨o,e,_⟩:=T.obj _ _ S0 b hb;exact cM e
 have f3:∀b∈fp,Ob X aI (upd H2 D (.lst [])) b/\b<s3.heap.objs.size:=fun b hb=>by have oT:=sz b hb;refine⟨⟨?_,(f2 b hb).2⟩,by rw[h3,iD];exact xA oT⟩;rw[aH (by rw[<-hD];exact fA oT)];exact(f2 b hb).1
 have R9:tn 0 s3.heap:=T.keep _ _ _ S0 fun b _ o e=>by rw[h3];exact bU _ e
 have I4:=AD I3 ok hN f3
 have pg:=hg s3 (upd H2 D (.lst [])) s3.heap.objs.size (gY (s3.heap.objs.size+1) scope.names (jJ X.env.cells scope.names [])) fp
 have pt:=ht s3 (upd H2 D (.lst [])) s3.heap.objs.size (gY (s3.heap.objs.size+1) scope.names (jJ X.env.cells scope.names [])) fp
 have pe:=he s3 (upd H2 D (.lst [])) s3.heap.objs.size (gY (s3.heap.objs.size+1) scope.names (jJ X.env.cells scope.names [])) fp
 show codeAny _ _ (.compStart (.ListComp elt [⟨tg,iter,ifs,0⟩] scope pos) 0 (.ref it) (.ref D) (pK scope (gY (s3.heap.objs.size+1) scope.names (jJ X.env.cells scope.names [])) s3.heap.objs.size X.env)) (compPost (model X.prog X.w) X.A X.xe use Qf (.ref D) s3.heap.objs.size) {s3 with heap:=wZ (s3.heap.push {cls:=.type "dict",data:=.dict #[]}) scope.names}
 have nfp:∀b∈fp,(upd H2 D (.lst [])) b=none:=fun b hb=>(f3 b hb).1.1
 generalize hce:pK scope (gY (s3.heap.objs.size+1) scope.names (jJ X.env.cells scope.names [])) s3.heap.objs.size X.env=ce at I4 pg pt pe ⊢
 have cL:ce.locals=s3.heap.objs.size:=by subst hce;rfl
 generalize hH3:upd H2 D (.lst [])=H3 at I3 I4 pg pt pe w0 nfp f3
 generalize hs4:({s3 with heap:=wZ (s3.heap.push {cls:=.type "dict",data:=.dict #[]}) scope.names}:aZ)=s4 at I4 ⊢
 have st4:tn 0 s4.heap:=T.keep _ _ _ R9 fun b _ o e=>by rw[<-hs4];exact Dj _ _ _ _ (bU _ e)
 have BY:∀{σ':St} {H':Hp} {s':aZ},dP (X.Vn s3 H3 scope ce fp) [] σ' H' s'->(∀b∈fp,H' b=none)->∀b∈fp,Ob (X.Vn s3 H3 scope ce fp) [] H' b:=fun{σ' H' s'} I' hn b hb=>⟨hn b hb,(I'.ok.V5 b hb).1,I'.ok.TH b hb,.inl hb,fun x c e=>(I'.ok.V5 b hb).2 x c e,fun p hp=>absurd (show p∈([]:List (Addr×Obj))++[] from hp) (by simp)⟩
 have loop:codeAny (model X.prog X.w) X.A (.compLoop (.ListComp elt [⟨tg,iter,ifs,0⟩] scope pos) 0 (.ref it) (.ref D) ce) (compPost (model X.prog X.w) X.A X.xe use Qf (.ref D) s3.heap.objs.size) s4:=by
  refine Vm (fun n s'=>∃i H',dP (X.Vn s3 H3 scope ce fp) [] (jW σ (own.map (·.2))) H' s'/\tn i s'.heap/\(∀b∈fp,H' b=none)/\W i n H') ?_ m0 ⟨0,H3,I4,st4,nfp,w0⟩;rintro n s5 ⟨i,H5,I5,tj,n5,w5⟩;rcases turn i n H5 w5 with ⟨stop,qq⟩|⟨go,Nx,hNx,step⟩
  .have td:=T.done (X.Vn s3 H3 scope ce fp) rfl rfl rfl hc i [] s5 _ H5 (fun _ _=>False) I5 (BY I5 n5) tj stop;refine JG td fun r s6 ⟨hr,I6⟩=>?_;subst hr;have I7:dP X aI σ H5 s6:=I3.P8 (ch:=fp) I6.os I6.aT I6.iW I6.bare fun b hb=>⟨(f3 b hb).1.2.2.2.1,(f3 b hb).1.2.1,(f3 b hb).1.2.2.2.2.1,(f3 b hb).1.2.2.2.2.2⟩;have nC:H5 s3.heap.objs.size=none:=by have z:H5 ce.locals=none:=I6.free;rw[cL]at z;exact z
   obtain⟨m,hn,_⟩:=I6.loc;have hn:s6.heap.Ns ce.locals m:=hn;rw[cL]at hn;exact qe D s3.heap.objs.size s6 m H5 I7 qq hn (I3.SV (aY _) nC)
  .have ti:=T.item (X.Vn s3 H3 scope ce fp) rfl rfl rfl hc i [] s5 _ H5 (fun _ _=>False) I5 (BY I5 n5) tj go;refine JG ti fun r s6 ⟨u,hr,h6⟩=>?_;subst hr;refine JG h6 fun _ s7 ⟨x,H7,I7,r7,y7,Y4,n7⟩=>?_;have I7':=I7.pinned (BY I7 n7) (T.obj _ _ Y4);refine JG (pg _ s7 _ H7 x u _ I7' r7 (step x H7 y7)) fun _ s8 ⟨σ8,H8,I8,hw8,q8⟩=>?_;refine JG (pt _ s8 σ8 H8 _ I8 q8) fun b s9 ⟨H9,I9,q9⟩=>?_
   have fin:∀{s':aZ} {H':Hp},dP (X.Vn s3 H3 scope ce fp) ([]++Lq fp s7.heap) σ8 H' s'->Nx H'->∃m,m<n/\∃i H',dP (X.Vn s3 H3 scope ce fp) [] (jW σ (own.map (·.2))) H' s'/\tn i s'.heap/\(∀b∈fp,H' b=none)/\W i m H':=fun{s' H'} I' nx=>by
    obtain⟨m',hm,w'⟩:=hNx H' nx;have za:∀b∈fp,∀o,s7.heap.get? b=some o->s'.heap.get? b=some o/\H' b=none:=fun b hb o e=>let z:=I'.pin (b,o) (dR _ (dR _ (Cu hb e)));⟨z.1,z.2.1⟩;have hl:(jW σ (own.map (·.2))).length=σ8.length:=(by rw[<-hw8,zO]);refine⟨m',hm,i+1,H',(I'.Dv (aI:=[])).weak hl (fun j v e=>?_),T.keep _ _ _ Y4 fun b hb o e=>(za b hb o e).1,fun b hb=>?_,w'⟩
    .rw[<-hw8]at e;exact(Gv e).1
    .obtain⟨o,e,_⟩:=T.obj _ _ Y4 b hb;exact(za b hb o e).2
   cases b with
   |false=>simp only[iI,if_false]at q9 ⊢;exact fin I9 q9
   |true=>simp only[if_true]at q9 ⊢;refine JG (pe _ s9 σ8 H9 _ I9 q9) fun z s10 ⟨yv,H10,I10,r10,acc,abH,o9,nx⟩=>?_;exact rl (X:=X.Vn s3 H3 scope ce fp) I10 abH o9 r10 fun s11 I11=>fin I11 nx
 exact codeAny_compStart_list loop (T.self X.A 0 _ _ _ st4 loop)
theorem sO{pos:Pos}{wi:TI}(hc:X.calm=true)(hN:X.N.Nodup)(hi:PI X tg iter wi)(ok:AG X.N X.env.scope scope own)
  (hg:∀(s:aZ) (H:Hp) (C:Addr) (cl:List (Str×Addr)) (fp:La),PG (X.Vn s H scope (pK scope cl C X.env) fp) tg g) (ht:∀(s:aZ) (H:Hp) (C:Addr) (cl:List (Str×Addr)) (fp:La),Q6 (X.Vn s H scope (pK scope cl C X.env) fp) ifs tt)
  (he:∀(s:aZ) (H:Hp) (C:Addr) (cl:List (Str×Addr)) (fp:La),PE (X.Vn s H scope (pK scope cl C X.env) fp) elt te) (hs:∀x,yY iter X.env x=pure x:=by intro _;rfl):
  PE X (.ListComp elt [⟨tg,iter,ifs,0⟩] scope pos) (JH wi g tt te (own.map (·.2))):=by
 intro aI s σ H Q I h
 rw[eval_ListComp]
 refine HA hc hN I hi ok hg ht he hs h fun D C s' m H' I' q hn f=>⟨m,hn,fun dv sb=>?_⟩
 obtain⟨f0,f1,f2,f3,f4,f5⟩:=f
 exact⟨.ref D,H',I'.turned (t':=s'.toks) (fun b o hb e=>(sb.2 b hb).trans e) f0 f1 f3 f4 f5,rfl,q⟩
theorem Lp{i:Nat}{y:Str}{py:Pos}{wc:Pos}{wi:TI}(hc:X.calm=true)(hN:X.N.Nodup)(hy:X.N[i]? =some y)(hyl:X.env.scope.names.lookup y=some .local)
  (hsw:wY (.ListComp elt [⟨tg,iter,ifs,0⟩] scope pos) (some (.Name y py)) wc.line X.env=pure true) (hi:PI X tg iter wi) (ok:AG X.N X.env.scope scope own)
  (hg:∀(s:aZ) (H:Hp) (C:Addr) (cl:List (Str×Addr)) (fp:La),PG (X.Vn s H scope (pK scope cl C X.env) fp) tg g) (ht:∀(s:aZ) (H:Hp) (C:Addr) (cl:List (Str×Addr)) (fp:La),Q6 (X.Vn s H scope (pK scope cl C X.env) fp) ifs tt)
  (he:∀(s:aZ) (H:Hp) (C:Addr) (cl:List (Str×Addr)) (fp:La),PE (X.Vn s H scope (pK scope cl C X.env) fp) elt te) (hs:∀x,yY iter X.env x=pure x:=by intro _;rfl):
  PS X (.Assign [.Name y py] (.ListComp elt [⟨tg,iter,ifs,0⟩] scope pos) wc) (Xb (JH wi g tt te (own.map (·.2))) (mF i)):=by
 intro aI s σ H D I h
 rw[exec_Assign_Name_used _ _ _ _ hsw]
 refine aS (IS (aS ?_))
 show wpAny _ X.A (do let _<-comprehension (.ListComp elt [⟨tg,iter,ifs,0⟩] scope pos) scope X.env (firstIterPos [⟨tg,iter,ifs,0⟩] pos) (newList []) false (eval iter X.env) (some (assign (.Name y py) X.env))) _ _ s
 have h:JH wi g tt te (own.map (·.2)) σ H (fun x H1=>mF i x σ H1 D.nx):=h
 refine aS (iX (HA (Qf:=fun _ s'=>SP X aI D .next s') hc hN I hi ok hg ht he hs h fun L C s' m H' I' q hn f=>?_) fun _ s' hq=>bO (bO hq))
 show wpAny _ _ (assign (.Name y py) X.env (.ref L)) _ _ _
 refine wpAny_assign_Name (Qn (v:=V.ref L) I' hN hy (.inl hyl) rfl (fun s2 I2 ⟨a,sb,ha⟩=>?_) (.inr hyl))
 obtain⟨f0,f1,f2,f3,f4,f5⟩:=f
 have haC:C≠a:=by
  rcases ha with z|z
  .rw[z];exact f1
  .exact fun e=>f4 y a z e.symm
 refine⟨m,hn.sameBut sb haC,fun h3 sb3=>?_⟩
 exact⟨_,H',I2.turned (t':=s2.toks) (fun b o hb e=>(sb3.2 b hb).trans e) f0 f1 f3 f4 f5,q⟩
theorem Th{gs:List Comprehension}{py:Pos}{y:Str}{l:Nat}(hk:env.scope.kind=.function)(hy:env.scope.names.lookup y=some .local)(hl:(py.line==pos.line)=true)
  (ha:(scope.names.any fun(n,k)=>n==y&&(k==.local||k==.cell))=false):wY (.ListComp elt gs scope pos) (some (.Name y py)) l env=pure true:=by
 have ky:env.kindOf y=some .local:=hy
 have hb:env.blockKind=.function:=by unfold Env.blockKind;rw[hk];rfl
 unfold wY
 simp only[hb,ky,ha,Expr.pos,hl]
 rfl
end
theorem Ms{lo:Int}{vs:Ln}{H1:Hp}{D:Addr}(Pv:Nat->Hp->Prop)(h0:Pv 0 (upd H1 D (.lst [])))
  (hs:∀i H,i<n->Pv i H->g (.int (lo+i)) (jW σ vs) H fun σ2 H2=>jW σ2 vs=jW σ vs/\tt σ2 H2 fun b H3=>
   if b=true then te σ2 H3 fun y H4=>∃acc,H4 D=some (.lst acc)/\acc.length<sizeLine/\Pv (i+1) (upd H4 D (.lst (acc++[y])))else Pv (i+1) H3) (hd:∀H,Pv n H->Qd H):
  ∃W:Nat->Nat->Hp->Prop,(∃m,W 0 m (upd H1 D (.lst [])))/\∀i m H,W i m H->
   ((VS lo n).stop i H/\Qd H)∨((VS lo n).go i H/\∃Nx:Hp->Prop,(∀H',Nx H'->∃m',m'<m/\W (i+1) m' H')/\∀x H',(VS lo n).BL i H x H'->g x (jW σ vs) H' fun σ2 H2=>jW σ2 vs=jW σ vs/\tt σ2 H2 fun b H3=>
    if b=true then te σ2 H3 fun y H4=>∃acc,H4 D=some (.lst acc)/\acc.length<sizeLine/\Nx (upd H4 D (.lst (acc++[y])))else Nx H3):=by
 refine⟨fun i m H=>m=n-i/\i<=n/\Pv i H,⟨n,by simp,cI _,h0⟩,?_⟩
 rintro i m H ⟨rfl,hi,p⟩
 by_cases oT:i<n
 .refine .inr ⟨oT,Pv (i+1),fun H' p'=>⟨n-(i+1),by lia,rfl,oT,p'⟩,fun x H' y=>?_⟩;obtain⟨e,y⟩:=y;subst e y;exact hs i _ oT p
 .have e:i=n:=by lia
  subst e;exact .inl ⟨aY _,hd H p⟩
theorem Ff{xs:Lv}{vs:Ln}{H1:Hp}{D:Addr}(Pv:Nat->Hp->Prop)(h0:Pv 0 (upd H1 D (.lst [])))(hl:∀i H,i<=xs.length->Pv i H->iY K H a xs)
  (hs:∀i x H,xs[i]? =some x->Pv i H->g x (jW σ vs) H fun σ2 H2=>jW σ2 vs=jW σ vs/\tt σ2 H2 fun b H3=>
   if b=true then te σ2 H3 fun y H4=>∃acc,H4 D=some (.lst acc)/\acc.length<sizeLine/\Pv (i+1) (upd H4 D (.lst (acc++[y])))else Pv (i+1) H3) (hd:∀H,Pv xs.length H->Qd H):
  ∃W:Nat->Nat->Hp->Prop,(∃m,W 0 m (upd H1 D (.lst [])))/\∀i m H,W i m H->
   ((fj K a).stop i H/\Qd H)∨((fj K a).go i H/\∃Nx:Hp->Prop,(∀H',Nx H'->∃m',m'<m/\W (i+1) m' H')/\∀x H',(fj K a).BL i H x H'->g x (jW σ vs) H' fun σ2 H2=>jW σ2 vs=jW σ vs/\tt σ2 H2 fun b H3=>
    if b=true then te σ2 H3 fun y H4=>∃acc,H4 D=some (.lst acc)/\acc.length<sizeLine/\Nx (upd H4 D (.lst (acc++[y])))else Nx H3):=by
 refine⟨fun i m H=>m=xs.length-i/\i<=xs.length/\Pv i H,⟨xs.length,by simp,cI _,h0⟩,?_⟩
 rintro i m H ⟨rfl,hi,p⟩
 have q:=hl i H hi p
 by_cases oT:i<xs.length
 .refine .inr ⟨⟨xs,xs[i],q,by simp[oT]⟩,Pv (i+1),fun H' p'=>⟨xs.length-(i+1),by lia,rfl,oT,p'⟩,fun x H' y=>?_⟩;obtain⟨e,y⟩:=y;subst e;exact hs i x _ (y xs q) p
 .have e:i=xs.length:=by lia
  subst e;exact .inl ⟨⟨xs,q,aY _⟩,hd H p⟩
def vK(N:List Str)(sc scope:Scope)(own:List (Str×Nat)):Bool:=
 (match scope.kind with|.function=>true|_=>false)&&(scope.names.all fun y=>decide (scope.names.lookup y.1=some y.2))&&(own.all fun p=>decide (N[p.2]? =some p.1))&&
  (scope.names.all fun y=>match y.2 with
   |.free=>(match sc.names.lookup y.1 with|some .cell=>true|some .free=>true|_=>false)
   |.local=>decide (y.1∈own.map (·.1))||decide (y.1∉N)
   |.cell=>decide (y.1∈own.map (·.1))||decide (y.1∉N)
   |_=>true)
theorem iR{N:List Str}{sc:Scope}(h:vK N sc scope own=true):AG N sc scope own:=by
 unfold vK at h;simp only[bJ,cX,decide_eq_true_eq]at h;obtain⟨⟨⟨h1,h2⟩,h3⟩,h4⟩:=h;refine⟨?_,h2,h3,fun y hy e=>?_,fun y hy e=>?_⟩
 .split at h1
  .assumption
  .cases h1
 .have q:=h4 y hy;simp only[e]at q;split at q<;>first|exact .inl (by assumption)|exact .inr (by assumption)|cases q
 .have q:=h4 y hy;rcases e with e|e<;>(simp only[e,eI,decide_eq_true_eq]at q;exact q)
section
variable {prog:dJ} {w:World} {A:gQ} {R:Result->aZ->Prop} {s:aZ} {elt t0 i0 t1 i1:Expr} {ahE ahD:List Expr} {scope:Scope} {pos:Pos} {it acc:Value} {env:Env}
end
section
variable {X:Cx}
end
section
variable {κ:Type} [DecidableEq κ]
def eO(kvs:List (κ×V))(k:κ):Option V:=(kvs.find? fun kv=>decide (kv.1=k)).map (·.2)
def kG(kvs:List (κ×V))(k:κ)(v:V):List (κ×V):=
 if (kvs.any fun kv=>decide (kv.1=k))=true then kvs.map (fun kv=>if kv.1=k then (kv.1,v)else kv)else kvs++[(k,v)]
theorem lC{p:κ×V}{r:List (κ×V)}{k:κ}(e:p.1=k):eO (p::r) k=some p.2:=by simp[eO,kF,e]
theorem lD{p:κ×V}{r:List (κ×V)}{k:κ}(e:¬p.1=k):eO (p::r) k=eO r k:=by simp[eO,kF,e]
theorem pE(k:κ):∀kvs:List (κ×V),(kvs.any fun kv=>decide (kv.1=k))=(eO kvs k).isSome
 |[]=>rfl
 |p::r=>by
  rw[pS];by_cases e:p.1=k
  .simp only[lC e,bB e,Bool.true_or,FG]
  .rw[lD e,bH e,Bool.false_or];exact pE k r
theorem Wt(k j:κ)(y:V):∀kvs:List (κ×V),eO (kvs.map fun kv=>if kv.1=k then (kv.1,y)else kv) j=(eO kvs j).map fun x=>if j=k then y else x
 |[]=>rfl
 |p::r=>by
  have ih:=Wt k j y r;rw[bL];by_cases h:p.1=k
  .rw[if_pos h];by_cases e:p.1=j
   .rw[lC (p:=(p.1,y)) e,lC e,sM,if_pos (e.symm.trans h)]
   .rw[lD (p:=(p.1,y)) e,lD e,ih]
  .rw[if_neg h];by_cases e:p.1=j
   .rw[lC (p:=p) e,lC e,sM,if_neg (fun z=>h (e.trans z))]
   .rw[lD (p:=p) e,lD e,ih]
theorem Qk(k j:κ)(y:V):∀kvs:List (κ×V),eO kvs k=none->eO (kvs++[(k,y)]) j=if j=k then some y else eO kvs j
 |[],_=>by
  by_cases e:k=j
  .rw[if_pos e.symm];exact lC (p:=(k,y)) e
  .rw[if_neg (fun z=>e z.symm)];exact lD (p:=(k,y)) e
 |p::r,hn=>by
  rw[kU];have hk:¬p.1=k:=fun z=>by rw[lC z]at hn;cases hn
  rw[lD hk]at hn;have ih:=Qk k j y r hn;by_cases e:p.1=j
  .rw[lC e,lC e,if_neg (fun z=>hk (e.trans z))]
  .rw[lD e,lD e,ih]
theorem Kv(kvs:List (κ×V))(k j:κ)(y:V):eO (kG kvs k y) j=if j=k then some y else eO kvs j:=by
 unfold kG;by_cases a:(kvs.any fun kv=>decide (kv.1=k))=true
 .rw[if_pos a,Wt];rw[pE]at a;by_cases e:j=k
  .obtain⟨x,hx⟩:=fR.mp a;rw[if_pos e,e,hx,sM,if_pos rfl]
  .rw[if_neg e];cases eO kvs j with
   |none=>rfl
   |some x=>rw[sM,if_neg e]
 .rw[if_neg a];refine Qk k j y kvs ?_;rw[pE]at a;cases q:eO kvs k with
  |none=>rfl
  |some x=>rw[q]at a;exact(a rfl).elim
theorem rZ(kvs:List (κ×V))(k:κ)(v:V):(kG kvs k v).length<=kvs.length+1:=by
 unfold kG;split
 .rw[aA];lia
 .rw[bA,cV,zL];lia
theorem Ej{kvs:List (κ×V)}{k:κ}(v:V)(h:eO kvs k=none):kG kvs k v=kvs++[(k,v)]:=by unfold kG;rw[pE,h];exact if_neg (by decide)
theorem yS.wH{u:Option Value}(r:yS o u):o.isSome=u.isSome:=by
 cases o with
 |none=>cases u with
  |none=>rfl
  |some _=>exact(show False from r).elim
 |some _=>cases u with
  |none=>exact(show False from r).elim
  |some _=>rfl
theorem yS.getD{u:Option Value}{d:V}{d':Value}(r:yS o u)(rd:gC d d'):gC (o.getD d) (u.getD d'):=by
 cases o with
 |none=>cases u with
  |none=>exact rd
  |some _=>exact(show False from r).elim
 |some _=>cases u with
  |none=>exact(show False from r).elim
  |some _=>exact r
theorem KV.val{kvs:List (κ×V)}{vs:List (κ×Value)}(r:KV kvs vs)(k:κ):yS (eO kvs k) (mX vs k):=by
 unfold KV at r;induction r with
 |nil=>exact True.intro
 | @cons p q ps qs h t ih=>
  obtain⟨h1,h2⟩:=h;by_cases e:p.1=k
  .have e':q.1=k:=h1.symm.trans e;have b:mX (q::qs) k=some q.2:=by simp[mX,kF,e']
   rw[lC e,b];exact h2
  .have e':¬q.1=k:=fun z=>e (h1.trans z);have b:mX (q::qs) k=mX qs k:=by simp[mX,kF,e']
   rw[lD e,b];exact ih
theorem KV.any{kvs:List (κ×V)}{vs:List (κ×Value)}(r:KV kvs vs)(k:κ):(kvs.any fun kv=>decide (kv.1=k))=vs.any fun kv=>decide (kv.1=k):=by
 unfold KV at r;induction r with
 |nil=>rfl
 |cons h t ih=>rw[pS,pS,ih,h.1]
theorem KV.kb{kvs:List (κ×V)}{vs:List (κ×Value)}(r:KV kvs vs)(k:κ)(ry:gC y u):
  KV (kvs.map fun kv=>if kv.1=k then (kv.1,y)else kv) (vs.map fun kv=>if kv.1=k then (kv.1,u)else kv):=by
 unfold KV at r ⊢
 induction r with
 |nil=>exact .nil
 | @cons p q ps qs h t ih=>
  rw[bL,bL];refine .cons ?_ ih;obtain⟨h1,h2⟩:=h;by_cases e:p.1=k
  .rw[if_pos e,if_pos (h1.symm.trans e)];exact⟨h1,ry⟩
  .rw[if_neg e,if_neg (fun z=>e (h1.trans z))];exact⟨h1,h2⟩
theorem KV.put{kvs:List (κ×V)}{vs:List (κ×Value)}(r:KV kvs vs)(k:κ)(ry:gC y u):KV (kG kvs k y) (stored vs k u):=by
 unfold kG stored;rw[r.any k];by_cases e:(vs.any fun kv=>decide (kv.1=k))=true
 .rw[if_pos e,if_pos e];exact r.kb k ry
 .rw[if_neg e,if_neg e];exact Paired.snoc r ⟨rfl,ry⟩
theorem KV.length{kvs:List (κ×V)}{vs:List (κ×Value)}(r:KV kvs vs):kvs.length=vs.length:=iO r
end
theorem Fj{k:iM}(r:gC (kV k) u):(gM P w).is k u=true:=by
 cases k with
 |inl i=>obtain⟨t,e⟩:=(show ∃t,u=xE i t from r);subst e;exact Yl P w i t
 |inr x=>obtain⟨t,e⟩:=(show ∃t,u=Vu x t from r);subst e;exact Yk P w x t
theorem Rl:∀{ks:List iM} {us:Lu},fN (ks.map kV) us->ItemsAre (gM P w) ks us
 |[],_,r=>by rw[lS]at r;cases r;exact .nil
 |k::ks,_,r=>by
  rw[bL]at r;cases r with
  |cons h t=>exact .cons (Fj h) (Rl t)
abbrev KT(H:Hp):List (List iM×V)->List (List iM×Addr×Value)->Prop:=eZ fun p q=>p.1=q.1/\H q.2.1=some (.tup (p.1.map kV))/\gC p.2 q.2.2
theorem KT.val(r:KT H kvs xs)(k:List iM):yS (eO kvs k) ((atKey xs k).map (·.2)):=by
 induction r with
 |nil=>exact True.intro
 | @cons p q ps qs h t ih=>
  obtain⟨h1,_,h2⟩:=h;by_cases e:p.1=k
  .have e':q.1=k:=h1.symm.trans e;have b:atKey (q::qs) k=some q.2:=by simp[atKey,kF,e']
   rw[lC e,b];exact h2
  .have e':¬q.1=k:=fun z=>e (h1.trans z);have b:atKey (q::qs) k=atKey qs k:=by simp[atKey,kF,e']
   rw[lD e,b];exact ih
theorem KT.kb(r:KT H kvs xs)(k:List iM)(ry:gC y u):
  KT H (kvs.map fun kv=>if kv.1=k then (kv.1,y)else kv) (xs.map (putAt k u)):=by
 induction r with
 |nil=>exact .nil
 | @cons p q ps qs h t ih=>
  rw[bL,bL];refine .cons ?_ ih;obtain⟨h1,h2,h3⟩:=h;unfold putAt;by_cases e:p.1=k
  .rw[if_pos e,if_pos (h1.symm.trans e)];exact⟨h1,h2,ry⟩
  .rw[if_neg e,if_neg (fun z=>e (h1.trans z))];exact⟨h1,h2,h3⟩
theorem KT.put(r:KT H kvs xs)(k:List iM){b:Addr}(hb:H b=some (.tup (k.map kV)))(ry:gC y u):
  KT H (kG kvs k y) (storedH xs k b u):=by
 have e:(kvs.any fun kv=>decide (kv.1=k))=(atKey xs k).isSome:=by rw[pE,(r.val k).wH,Gh]
 unfold kG storedH
 rw[e]
 by_cases q:(atKey xs k).isSome=true
 .rw[if_pos q,if_pos q];exact r.kb k ry
 .rw[if_neg q,if_neg q];exact Paired.snoc r ⟨rfl,hb,ry⟩
theorem KT.keeps{H':Hp}(r:KT H kvs xs)(ht:∀b ys,H b=some (.tup ys)->H' b=some (.tup ys)):KT H' kvs xs:=
 Paired.qE r fun _ _ z=>⟨z.1,ht _ _ z.2.1,z.2.2⟩
section
variable {P:dJ} {w:World} {H:Hp} {h:Heap} {a:Addr}
theorem ck{u:HO}(ok:An P w H h)(e:Rd H a u):mH P w H h a u:=e.ok ok
theorem Ft{kvs:List (iM×V)}(ok:An P w H h)(e:Rd H a (.dK kvs)):kvs.length<=sizeLine/\(a==fS)=false/\∃vs,KV kvs vs/\h.DictOf (gM P w) a vs:=
 show mH P w H h a (.dK kvs) from ck ok e
theorem UB{kvs:List (iM×V)}(ok:An P w H h)(e:H a=some (.dK kvs)):kvs.length<=sizeLine/\(a==fS)=false/\∃vs,KV kvs vs/\h.DictOf (gM P w) a vs:=Ft ok (.inl e)
theorem Ab{ks:List iM}(ok:An P w H h)(e:H a=some (.tup (ks.map kV))):(wX (gM P w)).is h ks a:=by obtain⟨_,gF,r,o,h1,h2,n,h3⟩:=(show mH P w H h a (.tup (ks.map kV)) from ok a _ e);exact⟨o,gF.toArray,n,h1,h2,h3,by simpa using Rl r⟩
theorem Ni(ok:An P w H h)(e:Rd H a (.dT kvs)):kvs.length<=sizeLine/\(a==fS)=false/\
  ∃xs,KT H kvs xs/\h.DictOfH (wX (gM P w)) a xs:=by
 obtain⟨z,y,xs,r,o,es,ep,h1,h2,h3,h4,h5⟩:=(show mH P w H h a (.dT kvs) from ck ok e)
 refine⟨z,y,xs,r,o,es,ep,h1,h2,h3,h4,fun x hx=>?_,h5⟩
 have all:∀{l:List (List iM×V)} {m:List (List iM×Addr×Value)},KT H l m->∀x∈m,(wX (gM P w)).is h x.1 x.2.1:=by
  intro l m q;induction q with
  |nil=>intro x hx;exact nomatch hx
  | @cons p q ps qs hq t ih=>
   intro x hx;rcases aW.mp hx with e|hx
   .subst e;exact Ab ok (by rw[<-hq.1];exact hq.2.1)
   .exact ih x hx
 exact all r x hx
theorem TY(ok:An P w H h)(e:H a=some (.dT kvs)):kvs.length<=sizeLine/\(a==fS)=false/\
  ∃xs,KT H kvs xs/\h.DictOfH (wX (gM P w)) a xs:=Ni ok (.inl e)
end
def Aq(H:Hp)(a:Addr)(y:V)(r:Option V):Prop:=
 (∃kvs k,Rd H a (.dK kvs)/\y=kV k/\r=eO kvs k)∨∃kvs k b,Rd H a (.dT kvs)/\y=.ref b/\H b=some (.tup (k.map kV))/\r=eO kvs k
def sL(H:Hp)(a:Addr)(y v:V)(H':Hp):Prop:=
 (∃kvs k,H a=some (.dK kvs)/\y=kV k/\kvs.length<sizeLine/\H'=upd H a (.dK (kG kvs k v)))∨
 ∃kvs k b,H a=some (.dT kvs)/\y=.ref b/\H b=some (.tup (k.map kV))/\kvs.length<sizeLine/\H'=upd H a (.dT (kG kvs k v))
theorem Aq.k{kvs:List (iM×V)}{k:iM}(e:H a=some (.dK kvs)):Aq H a (kV k) (eO kvs k):=.inl ⟨kvs,k,.inl e,rfl,rfl⟩
theorem sL.k{kvs:List (iM×V)}{k:iM}{v:V}(e:H a=some (.dK kvs))(hl:kvs.length<sizeLine):sL H a (kV k) v (upd H a (.dK (kG kvs k v))):=.inl ⟨kvs,k,e,rfl,hl,rfl⟩
theorem sL.t{b:Addr}{k:List iM}{v:V}(e:H a=some (.dT kvs))(eb:H b=some (.tup (k.map kV)))(hl:kvs.length<sizeLine):
  sL H a (.ref b) v (upd H a (.dT (kG kvs k v))):=.inr ⟨kvs,k,b,e,rfl,eb,hl,rfl⟩
section
variable {X:Cx} {aI:List (Addr×Obj)} {σ:St} {H:Hp} {s:aZ} {a:Addr} {y v:V} {u r:Value} {o:Option V} {A:gQ} {E:Value->aZ->Prop}
theorem dP.big(I:dP X aI σ H s):fS<s.heap.objs.size:=by have h:iS<s.heap.objs.size:=(I.mod.glob.keeps I.bk).lt;exact BF (by decide) h
theorem LL(hu:A.units+1<cLine)(I:dP X aI σ H s)(g:Aq H a y (some v))(ry:gC y u)(h:∀w' s',dP X aI σ H s'->gC v w'->Q w' s'):
  wpAny (model X.prog X.w) A (AH (.ref a) u) Q E s:=by
 rcases g with ⟨kvs,k,e,ey,l⟩|⟨kvs,k,b,e,ey,eb,l⟩
 .subst ey;obtain⟨z,hd,vs,rel,dd⟩:=Ft I.iW e;obtain⟨w',hw,OX⟩:=yS.some_of (v:=v) (o:=mX vs k) (by rw[l];exact rel.val k);exact wpAny_getItem_of (Fj ry) dd.mapOf hw (h w' _ (I.tok _) OX)
 .subst ey;cases (show u=dE b from ry);obtain⟨z,hd,xs,rel,dd⟩:=Ni I.iW e;obtain⟨w',hw,OX⟩:=yS.some_of (v:=v) (o:=(atKey xs k).map (·.2)) (by rw[l];exact rel.val k);obtain⟨p,hp,Kc⟩:=dY.mp hw;refine wpAny_getItem_heap (nT hu) (Ab I.iW eb) dd hp ?_;rw[Kc];exact h w' _ (I.tok _) OX
theorem ab8(hu:A.units+1<cLine)(I:dP X aI σ H s)(g:Aq H a y o)(ry:gC y u)(h:∀s',dP X aI σ H s'->Q (.bool o.isSome) s'):
  wpAny (model X.prog X.w) A (gD .In u (.ref a)) Q E s:=by
 rcases g with ⟨kvs,k,e,ey,l⟩|⟨kvs,k,b,e,ey,eb,l⟩
 .subst ey;obtain⟨z,hd,vs,rel,dd⟩:=Ft I.iW e;refine wpAny_in_of (Fj ry) hd dd.mapOf ?_;rw[<-(rel.val k).wH,<-l];exact h _ (I.tok _)
 .subst ey;cases (show u=dE b from ry);obtain⟨z,hd,xs,rel,dd⟩:=Ni I.iW e;refine wpAny_in_heap (nT hu) (Ab I.iW eb) hd dd ?_;have q:=(rel.val k).wH;rw[Gh]at q;rw[<-q,<-l];exact h _ (I.tok _)
theorem aj(hu:A.units+1<cLine)(I:dP X aI σ H s)(g:Aq H a y o)(ry:gC y u)(h:∀s',dP X aI σ H s'->Q (.bool (!o.isSome)) s'):
  wpAny (model X.prog X.w) A (gD .NotIn u (.ref a)) Q E s:=by
 rcases g with ⟨kvs,k,e,ey,l⟩|⟨kvs,k,b,e,ey,eb,l⟩
 .subst ey;obtain⟨z,hd,vs,rel,dd⟩:=Ft I.iW e;refine wpAny_notIn_of (Fj ry) hd dd.mapOf ?_;rw[<-(rel.val k).wH,<-l];exact h _ (I.tok _)
 .subst ey;cases (show u=dE b from ry);obtain⟨z,hd,xs,rel,dd⟩:=Ni I.iW e;refine wpAny_notIn_heap (nT hu) (Ab I.iW eb) hd dd ?_;have q:=(rel.val k).wH;rw[Gh]at q;rw[<-q,<-l];exact h _ (I.tok _)
theorem Bi{h':Heap}{t':Nat}{ob:HO}(I:dP X aI σ H s)(mu:bj (H a))(hs:rA a s.heap h')(he:∃q,h'.get? a=some q)(new:mH X.prog X.w (upd H a ob) h' a ob):
  dP X aI σ (upd H a ob) {s with heap:=h',toks:=t'}:=
 I.write (x:=a) (e:=a) mu (.inl rfl) (fun b q hb z=>(hs.2 b hb).trans z) he new
theorem EM{H':Hp}{h':Heap}{kvs:List (iM×V)}{vs:List (iM×Value)}(z:kvs.length<=sizeLine)(hd:(a==fS)=false)(rel:KV kvs vs)(dd:h'.DictOf (gM P w) a vs):
  mH P w H' h' a (.dK kvs):=⟨z,hd,vs,rel,dd⟩
theorem LK{H':Hp}{Q:Unit->aZ->Prop}(hu:A.units+1<cLine)(I:dP X aI σ H s)(g:sL H a y v H')(ry:gC y u)(rv:gC v r)(h:∀s',dP X aI σ H' s'->Q () s'):
  wpAny (model X.prog X.w) A (setItem (.ref a) u r) Q E s:=by
 rcases g with ⟨kvs,k,e,ey,l,eH⟩|⟨kvs,k,b,e,ey,eb,l,eH⟩
 .subst ey eH;obtain⟨z,hd,vs,rel,dd⟩:=UB I.iW e;have hz:vs.length<=sizeLine:=by rw[<-rel.length];exact z
  have hl:(kG kvs k v).length<=sizeLine:=by have:=rZ kvs k v;lia
  refine wpAny_setItem_pairs (hsz:=hz) (Fj ry) dd fun h' IE hs=>h _ ?_;have he:∃q,h'.get? a=some q:=let ⟨q,_,_,hq,_⟩:=IE;⟨q,hq⟩;exact Bi I (by rw[e];exact True.intro) hs he (EM hl hd (rel.put k rv) IE)
 .subst ey eH;cases (show u=dE b from ry);obtain⟨z,hd,xs,rel,dd⟩:=TY I.iW e;have hz:xs.length<=sizeLine:=by rw[<-iO rel];exact z
  have hl:(kG kvs k v).length<=sizeLine:=by have:=rZ kvs k v;lia
  refine wpAny_setItem_heap (hsz:=hz) (nT hu) (Ab I.iW eb) dd fun h' IE hs=>h _ ?_;obtain⟨q,es,ep,hq,h2,h3,h4,_,h5⟩:=IE;refine Bi I (by rw[e];exact True.intro) hs ⟨q,hq⟩ ⟨hl,hd,_,(rel.put k eb rv).keeps fun c ys ec=>?_,q,es,ep,hq,h2,h3,h4,h5⟩;rw[aH (QQ ec e (fun z=>nomatch z))];exact ec
end
section
variable {X:Cx} {aI:List (Addr×Obj)} {σ:St} {H:Hp} {s:aZ} {a:Addr} {kvs:List (iM×V)} {k:iM} {u:Value} {A:gQ} {E:Value->aZ->Prop}
end
def sf(i:Expr):Prop:=∀ov iv,Vs i false ov iv=operate [ov,iv] (AH ov iv)
theorem FW{value slice:Expr}{T id:String}
  (hl:typeLookup (.type T) "__getitem__"=pure (some (.builtin id))) (hs:sf slice)
  (h:wpAny (model prog w) A (eval value env) (fun o s₁=>wpAny (model prog w) A (eval slice env) (fun i s₂=>s₂.TypeIs o T/\wpAny (model prog w) A (AH o i) Q E s₂) E s₁) E s):
  wpAny (model prog w) A (eval (.Subscript value slice pos) env) Q E s:=by
 refine Subscript_ (iE h (fun o s₁ h₁=>iE h₁ (fun i s₂ h₂=>?_) fun _ _ x=>x) fun _ _ x=>x)
 obtain⟨hT,h₂⟩:=h₂
 unfold IT
 refine aS ?_
 rw[getitemInPython_of_ne hT.not_modules]
 refine aS (wpAny_specialOf hT hl ?_)
 have fin:wpAny (model prog w) A (Vs slice false o i) (fun r s₃=>wpAny (model prog w) A (letTemporaryGo value o r>>=fun _=>pure r) Q E s₃) E s₂:=by rw[hs o i];exact wpAny_operating (iE h₂ (fun r s₃ h₃=>aS (wpAny_letTemporaryGo (bO h₃))) fun _ _ x=>x)
 first
  |exact bO (aS fin)
  |exact aS (bO (aS fin))
  |exact aS fin
theorem Zv(I:dP X aI σ H s)(g:Aq H a y o):s.TypeIs (.ref a) "dict":=by
 rcases g with ⟨kvs,k,e,_,_⟩|⟨kvs,k,b,e,_,_,_⟩
 .obtain⟨_,_,vs,_,dd⟩:=Ft I.iW e;exact dd.typeIs
 .obtain⟨_,_,xs,_,dd⟩:=Ni I.iW e;exact dd.typeIs
def Xa(td ty:TE):TE:=fun σ H Q=>td σ H fun x H1=>ty σ H1 fun y H2=>E2 fun a v=>A3 (x=.ref a) (Aq H2 a y (some v)) (Q v H2)
def vx(ty td:TE):TE:=fun σ H Q=>ty σ H fun y H1=>td σ H1 fun x H2=>E2 fun a o=>A3 (x=.ref a) (Aq H2 a y o) (Q (.bl o.isSome) H2)
def Tg(ty td:TE):TE:=fun σ H Q=>ty σ H fun y H1=>td σ H1 fun x H2=>E2 fun a o=>A3 (x=.ref a) (Aq H2 a y o) (Q (.bl (!o.isSome)) H2)
def OW(td ty tv:TE):TS:=fun D σ H=>tv σ H fun v H1=>td σ H1 fun x H2=>ty σ H2 fun y H3=>E2 fun a H4=>A3 (x=.ref a) (sL H3 a y v H4) (D.nx σ H4)
section
variable {X:Cx} {o i e value:Expr} {pos pos' Oz:Pos} {td ty tv:TE}
theorem nM(hu:X.A.units+1<cLine)(ho:PE X o td)(hi:PE X i ty)(hs:sf i):PE X (.Subscript o i pos) (Xa td ty):=by intro aI s σ H Q I h;refine FW Oc.lookup hs (iX (ho aI s σ H _ I h) fun u s1 ⟨x,H1,I1,rx,q1⟩=>iX (hi aI s1 σ H1 _ I1 q1) fun iv s2 ⟨y,H2,I2,ry,a,v,ex,g,q2⟩=>?_);subst ex;obtain rfl:u=dE a:=rx;exact⟨Zv I2 g,LL hu I2 g ry fun w' s3 I3 OX=>⟨v,H2,I3,OX,q2⟩⟩
theorem Hb(hu:X.A.units+1<cLine)(hi:PE X i ty)(ho:PE X o td):PC X .In i o (vx ty td):=by intro aI s σ H Q I h;refine iX (hi aI s σ H _ I h) fun iv s1 ⟨y,H1,I1,ry,q1⟩=>iX (ho aI s1 σ H1 _ I1 q1) fun u s2 ⟨x,H2,I2,rx,a,ov,ex,g,q2⟩=>?_;subst ex;obtain rfl:u=dE a:=rx;exact ab8 hu I2 g ry fun s3 I3=>⟨.bl ov.isSome,H2,I3,rfl,q2⟩
theorem pV(hu:X.A.units+1<cLine)(hi:PE X i ty)(ho:PE X o td):PC X .NotIn i o (Tg ty td):=by intro aI s σ H Q I h;refine iX (hi aI s σ H _ I h) fun iv s1 ⟨y,H1,I1,ry,q1⟩=>iX (ho aI s1 σ H1 _ I1 q1) fun u s2 ⟨x,H2,I2,rx,a,ov,ex,g,q2⟩=>?_;subst ex;obtain rfl:u=dE a:=rx;exact aj hu I2 g ry fun s3 I3=>⟨.bl (!ov.isSome),H2,I3,rfl,q2⟩
theorem lV(hu:X.A.units+1<cLine)(ho:PE X o td)(hi:PE X i ty)(hv:PE X value tv)(hs:wY value (some (.Subscript o i pos')) pos.line X.env=pure false):
  PS X (.Assign [.Subscript o i pos'] value pos) (OW td ty tv):=by
 intro aI s σ H D I h
 refine wpAny_Assign_Subscript (iX (hv aI s σ H _ I h) fun r s1 ⟨v,H1,I1,rv,q1⟩=>iX (ho aI s1 σ H1 _ I1 q1) fun u s2 ⟨x,H2,I2,rx,q2⟩=>iX (hi aI s2 σ H2 _ I2 q2) fun iv s3 ⟨y,H3,I3,ry,a,H4,ex,g,q3⟩=>?_) hs
 subst ex
 obtain rfl:u=dE a:=rx
 exact LK hu I3 g ry rv fun s4 I4=>⟨σ,H4,I4,q3⟩
end
theorem Nk(h:Heap)(hb:fS<h.objs.size):mH P w H (h.push {cls:=.type "dict",data:=.dict #[]}) h.objs.size (.dK []):=
 ⟨cI _,lN.mpr (Ne.symm (fA hb)),[],.nil,Heap.DictOf.new h⟩
theorem Zo(h:Heap)(hb:fS<h.objs.size):mH P w H (h.push {cls:=.type "dict",data:=.dict #[]}) h.objs.size (.dT []):=
 ⟨cI _,lN.mpr (Ne.symm (fA hb)),[],.nil,_,#[],0,cG _ rfl,⟨rfl,rfl,rfl⟩,rfl,rfl,Py⟩
def gy:TE:=fun _ H Q=>∀p,H p=none->Q (.ref p) (upd H p (.dK []))
def gw:TE:=fun _ H Q=>∀p,H p=none->Q (.ref p) (upd H p (.dT []))
section
variable {X:Cx} {pos:Pos}
theorem mB:PE X (.Dict [] [] pos) gy:=fun aI s σ H Q I h=>Sr ⟨.ref s.heap.objs.size,_,I.laid (a:=s.heap.objs.size) (o:=.dK []) (t':=s.toks) (fun _ _ q=>bU _ q) (aY _) (Nk s.heap I.big),rfl,h _ (I.iW.fresh (aY _))⟩
theorem Ma:PE X (.Dict [] [] pos) gw:=fun aI s σ H Q I h=>Sr ⟨.ref s.heap.objs.size,_,I.laid (a:=s.heap.objs.size) (o:=.dT []) (t':=s.toks) (fun _ _ q=>bU _ q) (aY _) (Zo s.heap I.big),rfl,h _ (I.iW.fresh (aY _))⟩
end
def BR:List (TE×TE)->St->Hp->(List (V×V)->Hp->Prop)->Prop
 |[],_,H,Q=>Q [] H
 |(tk,tv)::r,σ,H,Q=>tk σ H fun x H1=>tv σ H1 fun y H2=>BR r σ H2 fun ps H3=>Q ((x,y)::ps) H3
abbrev VV:List (V×V)->List (Value×Value)->Prop:=eZ fun p q=>gC p.1 q.1/\gC p.2 q.2
def W4(X:Cx)(pos:Pos)(keys:List (Option Expr))(values:List Expr)(bq:List (TE×TE)):Prop:=
 ∀(aI:List (Addr×Obj)) (s:aZ) (σ:St) (H:Hp) (Q:List (V×V)->Hp->Prop),dP X aI σ H s->BR bq σ H Q->
  wpAny (model X.prog X.w) X.A (evalPairs (pairTrees keys values X.env pos)) (fun vs s'=>∃ps H',dP X aI σ H' s'/\VV ps vs/\Q ps H') X.xe s
theorem Ay:W4 X pos [] [] []:=fun aI s σ H Q I h=>pairTrees_nil_walk ⟨[],H,I,.nil,h⟩
theorem wC{k v:Expr}{ks:List (Option Expr)}{vs:List Expr}{tk tv:TE}(hk:PE X k tk)(hv:PE X v tv)(hr:W4 X pos ks vs bq):
  W4 X pos (some k::ks) (v::vs) ((tk,tv)::bq):=fun aI s σ H Q I h=>
 pairTrees_cons_walk (iX (hk aI s σ H _ I h) fun u s1 ⟨x,H1,I1,rx,q1⟩=>iX (hv aI s1 σ H1 _ I1 q1) fun w2 s2 ⟨y,H2,I2,ry,q2⟩=>
  iX (hr aI s2 σ H2 _ I2 q2) fun ws s3 ⟨ps,H3,I3,rel,q3⟩=>⟨(x,y)::ps,H3,I3,.cons ⟨rx,ry⟩ rel,q3⟩)
def rJ(kvs more:List (iM×V)):List (iM×V):=more.foldl (fun acc kv=>kG acc kv.1 kv.2) kvs
theorem KV.merge:∀{more:List (iM×V)} {rs:List (iM×Value)} {kvs:List (iM×V)} {vs:List (iM×Value)},KV more rs->KV kvs vs->KV (rJ kvs more) (merged vs rs):=by
 intro more rs kvs vs r;unfold KV at r;induction r generalizing kvs vs with
 |nil=>intro q;exact q
 | @cons p q ps qs h t ih=>
  intro r0;have e:KV (kG kvs p.1 p.2) (stored vs q.1 q.2):=by have:=r0.put p.1 h.2;rw[<-h.1];exact this
  exact ih e
theorem Bw:∀(more kvs:List (iM×V)),(rJ kvs more).length<=kvs.length+more.length
 |[],kvs=>by show kvs.length<=kvs.length+0;lia
 |p::r,kvs=>by have h1:=Bw r (kG kvs p.1 p.2);have h2:=rZ kvs p.1 p.2;show(rJ (kG kvs p.1 p.2) r).length<=_;rw[cV];lia
theorem Nr{P:dJ}{w:World}:∀{kvs:List (iM×V)} {ws:List (Value×Value)},VV (kvs.map fun kv=>(kV kv.1,kv.2)) ws->∃rs,Carries (gM P w) ws rs/\KV kvs rs
 |[],_,r=>by rw[lS]at r;cases r;exact⟨[],True.intro,.nil⟩
 |p::kvs,_,r=>by
  rw[bL]at r;cases r with
  | @cons a b as bs h t=>obtain⟨rs,c,q⟩:=Nr (P:=P) (w:=w) t;obtain⟨b1,b2⟩:=b;exact⟨(p.1,b2)::rs,⟨Fj h.1,rfl,c⟩,.cons ⟨rfl,h.2⟩ q⟩
def bx(bq:List (TE×TE)):TE:=fun σ H Q=>∀p,H p=none->BR bq σ (upd H p (.dK [])) fun ps H2=>H2 p=some (.dK [])/\∃kvs:List (iM×V),ps=kvs.map (fun kv=>(kV kv.1,kv.2))/\kvs.length<=15/\Q (.ref p) (upd H2 p (.dK (rJ [] kvs)))
theorem Bb{keys:List (Option Expr)}{values:List Expr}(h:W4 X pos keys values bq)(sW:keys.all (·.isSome)=true)(hl:keys.length=values.length)(h0:keys≠[])
  (h15:keys.length<=15):PE X (.Dict keys values pos) (bx bq):=by
 intro aI s σ H Q I q
 have hn:=I.iW.fresh (aY s.heap.objs.size)
 have I1:=I.laid (a:=s.heap.objs.size) (o:=.dK []) (h':=s.heap.push {cls:=.type "dict",data:=.dict #[]}) (t':=s.toks) (fun _ _ q=>bU _ q) (aY _) (Nk s.heap I.big)
 refine wpAny_Dict_walk (knd:=gM X.prog X.w) sW hl h0 h15 (iX (h aI _ σ _ _ I1 (q _ hn)) fun ws s2 ⟨ps,H2,I2,rel,e,kvs,ep,lk,q2⟩=>?_)
 subst ep
 obtain⟨rs,c,rk⟩:=Nr (P:=X.prog) (w:=X.w) rel
 obtain⟨z,hd,vs0,r0,dd⟩:=UB I2.iW e
 cases r0
 refine⟨rs,c,dd,fun h' IE hs=>⟨.ref s.heap.objs.size,_,?_,rfl,q2⟩⟩
 have hz:(rJ [] kvs).length<=sizeLine:=by have h1:=Bw kvs [];rw[zL]at h1;rw[Vt];lia
 have he:∃q,h'.get? s.heap.objs.size=some q:=let ⟨q,_,_,hq,_⟩:=IE;⟨q,hq⟩
 exact Bi I2 (by rw[e];exact True.intro) hs he (EM hz hd (rk.merge .nil) IE)
structure M2(X:Cx)(o:Expr)(m:Str)(apos:Pos)(e f:Expr)(sI:Pos):Prop where
 aT:uF o m X.env (eval o X.env)=eval o X.env
 few:((pL sI (dD [e,f] X.env)).all (fun x=>!x.1)&&(Ot sI (yW [] X.env)).all (fun x=>x.1.isSome)
  &&decide (([e,f]:List Expr).length+([]:List Keyword).length+(if ([]:List Keyword).isEmpty then 0 else 1)<30))=true
 line:(apos.endLine==sI.line)=true
 trees:pL sI (dD [e,f] X.env)=[(false,eval e X.env),(false,eval f X.env)]
def vg(H:Hp)(a:Addr):Prop:=(∃kvs,Rd H a (.dK kvs))∨∃kvs,Rd H a (.dT kvs)
theorem RT(I:dP X aI σ H s)(d:vg H a):
  s.TypeIs (.ref a) "dict"/\(∀b,dE a=.ref b->∃ob,s.heap.get? b=some ob/\ob.dict=none)/\(a==fS)=false:=by
 rcases d with ⟨kvs,e⟩|⟨kvs,e⟩
 .obtain⟨_,hd,vs,_,dd⟩:=Ft I.iW e;refine⟨dd.typeIs,fun b q=>?_,hd⟩;cases q;obtain⟨ob,_,_,h1,h2,_⟩:=dd;exact⟨ob,h1,h2.2.1⟩
 .obtain⟨_,hd,xs,_,dd⟩:=Ni I.iW e;refine⟨dd.typeIs,fun b q=>?_,hd⟩;cases q;obtain⟨ob,_,_,h1,h2,_⟩:=dd;exact⟨ob,h1,h2.2.1⟩
section
variable {X:Cx} {aI:List (Addr×Obj)} {σ:St} {H:Hp} {s:aZ} {a:Addr} {y d:V} {u r:Value} {o:Option V} {A:gQ} {E:Value->aZ->Prop}
theorem qw(hu:A.units+1<cLine)(I:dP X aI σ H s)(g:Aq H a y o)(ry:gC y u)(rd:gC d r)(h:∀w' s',dP X aI σ H s'->gC (o.getD d) w'->Q w' s'):
  wpAny (model X.prog X.w) A (call (.builtin "dict.get") [.ref a,u,r]) Q E s:=by
 rcases g with ⟨kvs,k,e,ey,l⟩|⟨kvs,k,b,e,ey,eb,l⟩
 .subst ey;obtain⟨z,hd,vs,rel,dd⟩:=Ft I.iW e;refine Cd yO dd.typeIs Sy (Px _ _ _) (meets_dict_get_default (gM X.prog X.w) a (Fj ry) hd r) ⟨_,dd.mapOf,h _ _ (I.tok _) ?_⟩;rw[l];exact(rel.val k).getD rd
 .subst ey;cases (show u=dE b from ry);obtain⟨z,hd,xs,rel,dd⟩:=Ni I.iW e;refine Cd yO dd.typeIs Sy (Px _ _ _) (meetsH_dict_get_default (wX (gM X.prog X.w)) a b hd r) ⟨nT hu,k,xs,Ab I.iW eb,dd,h _ _ (I.tok _) ?_⟩;rw[l];exact(rel.val k).getD rd
end
def BU(td ty tx:TE):TE:=fun σ H Q=>td σ H fun x H1=>∃a,A3 (x=.ref a) (vg H1 a) (ty σ H1 fun y H2=>tx σ H2 fun z H3=>∃o,Aq H3 a y o/\Q (o.getD z) H3)
section
variable {X:Cx} {o e f:Expr} {apos sI:Pos} {td ty tx:TE}
theorem kR(hu:X.A.units+1<cLine)(ho:PE X o td)(he:PE X e ty)(hf:PE X f tx)(m:M2 X o "get" apos e f sI):PE X (.Call (.Attribute o "get" apos) [e,f] [] sI) (BU td ty tx):=by
 intro aI s σ H Q I h
 refine Oo m.aT m.few m.line Pw yO PySem.F.type_dict_get (iX (ho aI s σ H _ I h) fun u s1 ⟨x,H1,I1,rx,a,ex,d,q1⟩=>?_)
 subst ex
 obtain rfl:u=dE a:=rx
 obtain⟨t1,t2,_⟩:=RT I1 d
 refine⟨t1,t2,?_⟩
 rw[m.trees]
 refine qU rfl (Bp (qD (iX (he aI s1 σ H1 _ I1 q1) fun iv s2 ⟨y,H2,I2,ry,q2⟩=>
  qD (iX (hf aI s2 σ H2 _ I2 q2) fun fv s3 ⟨z,H3,I3,rz,ov,g,q3⟩=>Gu ?_))))
 exact qw hu I3 g ry rz fun w' s4 I4 OX=>⟨_,H3,I4,OX,q3⟩
end
section
variable {X:Cx} {aI:List (Addr×Obj)} {σ:St} {H:Hp} {s:aZ} {a:Addr} {kvs:List (iM×V)} {A:gQ} {E:Value->aZ->Prop}
end
section
variable {X:Cx} {aI:List (Addr×Obj)} {σ:St} {H:Hp} {s:aZ} {a:Addr} {y:V} {u:Value} {A:gQ} {E:Value->aZ->Prop}
end
section
variable {prog:dJ} {w:World} {A:gQ} {E:Value->aZ->Prop}
end
section
variable {X:Cx}
end
theorem Nw:pZ "reversed"=some (.type "reversed"):=by decide+kernel
section
variable {X:Cx} {aI:List (Addr×Obj)} {σ:St} {H:Hp} {s:aZ} {h':Heap}
theorem dP.Ql{t':Nat}{ch:La}{T:Addr}{ob:HO}(I:dP X aI σ H s)(k:∀b o,b∉ch->s.heap.get? b=some o->h'.get? b=some o)(hf:∀b∈ch,Ob X aI H b)(hT:s.heap.objs.size<=T)
  (new:mH X.prog X.w (upd H T ob) h' T ob):dP X aI σ (upd H T ob) {s with heap:=h',toks:=t'}:=by
 have hn:H T=none:=I.iW.fresh hT
 have D6:∀b u,H b=some u->b∉ch:=fun b u e z=>by have q:=(hf b z).1;rw[q]at e;cases e
 refine I.step (g':=s.gens) (d':=s.drawn) (ch:=ch) (fun b hb=>⟨(hf b hb).2.2.2.1,(hf b hb).2.1,(hf b hb).2.2.2.2.1,(hf b hb).2.2.2.2.2⟩) (fun b o _ _ hc e _=>k b o hc e) (fun b o _ _ hc e _=>⟨o.slots,k b o hc e⟩)
  (fun b o _ e n=>?_) (fun b o hc e=>⟨o,k b o hc e⟩) (fun b xs e=>?_) (fun b o u e=>?_) (fun b ps e=>⟨#[],?_⟩) (fun m hm=>?_) (fun b u e=>?_) I.bare
 .rw[aH (fA (cA (cM e) hT))];exact n
 .rw[aH (cK e hn)];exact e
 .rw[aH (cK e hn)];exact e
 .rw[aH (cK e hn),e];simp
 .obtain⟨o,es,ep,ho,r⟩:=hm;exact⟨o,es,ep,k _ o (fun z=>(hf _ z).2.1 rfl) ho,r⟩
 .by_cases hb:b=T
  .subst hb;rw[aC]at e;cases e;exact new
  .rw[aH hb]at e;refine(I.iW b u e).pO (fun c v hc q=>k c v ?_ q) (fun c q=>by rw[aH (cK q hn)];exact q) fun c xs q=>by rw[aH (cK q hn)];exact q
   rcases hc with z|z
   .rw[z];exact D6 b u e
   .exact D6 c _ z
theorem dP.lock{u:HO}(I:dP X aI σ H s)(h:H d=some u)(mu:bj (some u)):∃od,dP X aI σ (upd H d (.kN od u)) s:=by
 have x:=I.iW d u h
 have ex:∃od,s.heap.get? d=some od:=by
  cases u with
  |lst xs=>obtain⟨_,_,_,_,e⟩:=x;exact⟨_,e⟩
  |dK kvs=>obtain⟨_,_,_,_,o,_,_,e,_⟩:=x;exact⟨o,e⟩
  |dT kvs=>obtain⟨_,_,_,_,o,_,_,e,_⟩:=x;exact⟨o,e⟩
  |set S n=>obtain⟨o,_,_,_,e,_⟩:=x;exact⟨o,e⟩
  |ins C dx fs=>obtain⟨_,_,_,e,_⟩:=x;exact⟨_,e⟩
  |ext φ=>obtain⟨_,⟨_,e⟩,_⟩:=x;exact⟨_,e⟩
  |_=>exact fP mu
 obtain⟨od,e⟩:=ex
 have new:mH X.prog X.w (upd H d (.kN od u)) s.heap d (.kN od u):=by
  refine⟨e,x.pO (fun b v _ q=>q) (fun b q=>?_) fun b xs q=>?_⟩
  .rw[aH (fun z=>by rw[z,h]at q;cases q;exact mu)];exact q
  .rw[aH (fun z=>by rw[z,h]at q;cases q;exact mu)];exact q
 exact⟨od,I.write (x:=d) (e:=d) (t':=s.toks) (h':=s.heap) (by rw[h];exact mu) (.inl rfl) (fun b v _ q=>q) ⟨od,e⟩ new⟩
theorem dP.GU{u:HO}(I:dP X aI σ H s)(h:H d=some u)(mu:bj (some u)):∀o' u',X.si d≠some (.kN o' u'):=fun o' u' e=>by have q:=I.aT.Nc d o' u' e;rw[h]at q;cases q;exact mu
theorem dP.unlock{od:Obj}{u:HO}(I:dP X aI σ H s)(h:H d=some (.kN od u))(hn:∀o' u',X.si d≠some (.kN o' u')):dP X aI σ (upd H d u) s:=by
 have ua:∀b o,H b=some o->(∀o' u',o≠.kN o' u')->b≠d:=fun b o e Iq z=>by rw[z,h]at e;cases e;exact Iq _ _ rfl
 have neN:∀b,H b=none->b≠d:=fun b e z=>by rw[z,h]at e;cases e
 refine⟨I.ok,I.os,I.bare,⟨I.aT.keep,I.aT.slot,fun b o e n hx=>?_,I.aT.there,fun b xs e=>?_,fun b o x e=>?_,fun b ps e=>?_⟩,I.loc,I.cell,?_,fun x c e=>?_,fun p hp=>?_,fun b o e=>?_,I.len⟩
 .rw[aH (neN b (I.aT.free b o e n hx))];exact I.aT.free b o e n hx
 .have q:=I.aT.Tc b xs e;rw[aH (ua b _ q (fun _ _ z=>nomatch z))];exact q
 .have q:=I.aT.Nc b o x e;rw[aH (fun z=>by rw[z]at e;exact hn _ _ e)];exact q
 .obtain⟨m,q⟩:=I.aT.Td b ps e;exact⟨m,by rw[aH (ua b _ q (fun _ _ z=>nomatch z))];exact q⟩
 .rw[aH (neN _ I.free)];exact I.free
 .rw[aH (neN c (I.wK x c e))];exact I.wK x c e
 .obtain⟨e,n,r⟩:=I.pin p hp;exact⟨e,by rw[aH (neN _ n)];exact n,r⟩
 .by_cases hb:b=d
  .rw[hb,aC]at e;cases e;rw[hb];obtain⟨_,x⟩:=I.iW d _ h;exact x.pO (fun c v _ q=>q) (fun c q=>by rw[aH (ua c _ q (fun _ _ z=>nomatch z))];exact q) fun c xs q=>by rw[aH (ua c _ q (fun _ _ z=>nomatch z))];exact q
  .rw[aH hb]at e;exact(I.iW b o e).pO (fun c v _ q=>q) (fun c q=>by rw[aH (ua c _ q (fun _ _ z=>nomatch z))];exact q) fun c xs q=>by rw[aH (ua c _ q (fun _ _ z=>nomatch z))];exact q
end
def bu(t:TS):TS:=fun D σ H=>E2 fun d u=>A3 (H d=some u) (bj (some u)) (∀od,t ⟨fun σ' H'=>H' d=some (.kN od u)/\D.nx σ' (upd H' d u),fun v H'=>H' d=some (.kN od u)/\D.rt v (upd H' d u),fun σ' H'=>H' d=some (.kN od u)/\D.bk σ' (upd H' d u),fun σ' H'=>H' d=some (.kN od u)/\D.ct σ' (upd H' d u)⟩ σ (upd H d (.kN od u)))
section
variable {X:Cx}
theorem XY{st:Stmt}{t:TS}(h:PS X st t):PS X st (bu t):=by
 intro aI s σ H D I hw;obtain⟨d,u,hd,mu,hw⟩:=hw;obtain⟨od,I1⟩:=I.lock hd mu;refine iX (h aI s σ _ _ I1 (hw od)) fun f s1 q=>?_;cases f with
 |next=>obtain⟨σ',H',I2,e,q⟩:=q;exact⟨σ',_,I2.unlock e (I.GU hd mu),q⟩
 |brk=>obtain⟨σ',H',I2,e,q⟩:=q;exact⟨σ',_,I2.unlock e (I.GU hd mu),q⟩
 |cont=>obtain⟨σ',H',I2,e,q⟩:=q;exact⟨σ',_,I2.unlock e (I.GU hd mu),q⟩
 |ret v=>obtain⟨x,σ',H',I2,r,e,q⟩:=q;exact⟨x,σ',_,I2.unlock e (I.GU hd mu),r,q⟩
theorem Ls{R:It->Hp->Prop}{J:It}{tn:Nat->Heap->Prop}{tk:Nat}(I:dP X aI σ H s)(o:Obj)
  (T:Om X.prog X.w X.K tg J [s.heap.objs.size] s.heap.objs.size tn) (st:tn 0 (s.heap.push o)) (q:R J H):Q7 X aI σ tg R (.ref s.heap.objs.size) {s with heap:=s.heap.push o,toks:=tk}:=by
 refine⟨s.heap.objs.size,[s.heap.objs.size],tn,J,H,rfl,I.kept fun b ob e=>bU _ e,T,st,fun b hb=>?_,q⟩
 have e:b=s.heap.objs.size:=by simpa using hb
 subst e
 exact I.SV (aY _) (I.iW.fresh (aY _))
end
def R1(lo c:Int)(n:Nat):It:=⟨fun i _=>i<n,fun i H x H'=>H'=H/\x=.int (lo+(i:Nat)*c),fun i _=>n<=i⟩
theorem Wv(it:Addr)(lo c:Int)(n:Nat):Om P w K tg (R1 lo c n) [it] it (fun i h=>Wb h it (lo+(i:Nat)*c) ((n:Int)-(i:Nat)) c) where
 mem:=by simp
 obj:=fun i h st b hb=>by
  have e:b=it:=by simpa using hb
  subst e;exact⟨_,st,fun v z=>nomatch z⟩
 keep:=fun i h h' st k=>k it (by simp) _ st
 item:=by intro X hP hw hK hc i aI s σ H E I hf st hg;subst hP hw hK;obtain⟨f0,f1,f2,f3,f4,f5⟩:=hf it (by simp);have W:=Walks.range (prog:=X.prog) (w:=X.w) (I.ok.hd hc) it lo c n;refine W.item i s _ _ hg st fun v h' tk hv Wf kk=>?_;obtain⟨t,rfl⟩:=hv;have I1:dP X aI σ H {s with heap:=h',toks:=tk}:=I.turned (fun b o hb e=>kk b o (by simpa using hb) e) f0 f1 f3 f4 f5;exact⟨_,rfl,Ru (s:={s with heap:=h',toks:=tk}) (n:="range_iterator") Wf rfl rfl (by decide) ⟨.int (lo+(i:Nat)*c),H,I1,⟨t,rfl⟩,⟨rfl,rfl⟩,Wf,fun b hb=>(hf b hb).1⟩⟩
 done:=by intro X hP hw hK hc i aI s σ H E I hf st hg;subst hP hw hK;obtain⟨f0,f1,f2,f3,f4,f5⟩:=hf it (by simp);exact MZ (I.ok.hd hc) st (by have:n<=i:=hg;lia) fun h' eb=>⟨rfl,I.turned (t':=s.toks) (fun b o hb e=>eb b o hb e) f0 f1 f3 f4 f5⟩
 self:=fun A i s Q E st h=>NA st h
def Q5(i j c:Int)(n:Nat):Prop:=c≠0/\c.natAbs<1073741824/\Builtin.Range.small i j c=true/\tP i j c=n
theorem Q5.neg{i j:Int}(ha: -(2^62)<=i)(ha':i<2^62)(hb: -(2^62)<=j)(Iv:j<2^62):Q5 i j (-1) (i-j).toNat:=
 ⟨by decide,by decide,PySem.W.small_down ha ha' hb Iv,PySem.W.rangeSize_downNat i j⟩
def G1(ta:TA):TI:=fun σ H R=>ta σ H fun vs H1=>E4 fun(i j c:Int) (n:Nat)=>A3 (vs=[.int i,.int j,.int c]) (Q5 i j c n) (R (R1 i c n) H1)
section
variable {X:Cx} {tg:Expr}
theorem Qx{a b c:Expr}{ta:TA}{p pos:Pos}(hg:Gl X "range")(hm:X.mg "range"=none)(ha:PA X [a,b,c] ta)
  (hs:dD [a,b,c] X.env=(false,eval a X.env)::dD [b,c] X.env:=by rfl) (Pl:(pL pos (dD [b,c] X.env)).any (·.1)=false:=by rfl):
  PI X tg (.Call (.Name "range" p) [a,b,c] [] pos) (G1 ta):=by
 intro aI s σ H R I h
 refine Call_ (Hi I hg hm boot_range (jT (iX (ha pos aI s σ H _ I h) fun us s1 ⟨vs,H1,I1,r1,q1⟩=>?_) hs Pl))
 obtain⟨i,j,k,n,e,⟨c0,c1,c2,c3⟩,q⟩:=q1
 subst e
 cases r1 with
 |cons r rr=>
  cases rr with
  |cons r' rr=>
   cases rr with
   |cons tq rr=>cases rr;obtain⟨t,rfl⟩:=r;obtain⟨t',rfl⟩:=r';obtain⟨t'',rfl⟩:=tq;refine call_range_3 c0 ?_ (.inl (PyProof.noPylong_small c1));refine wpAny_pyIter_range (IsRange.new ..) c2 ?_;have I2:dP X aI σ H1 {s1 with heap:=s1.heap.push {cls:=.type "range",data:=.fields #[.int i t,.int j t',.int k t'']}}:=I1.kept (t':=s1.toks) fun b o e=>bU _ e;refine Ls (tk:=s1.toks) I2 _ (Wv _ i k n) ?_ q;have e1:i+((0:Nat):Int)*k=i:=(by simp);have e2:(n:Int)-((0:Nat):Int)=tP i j k:=(by rw[c3];simp);show Wb _ _ (i+((0:Nat):Int)*k) ((n:Int)-((0:Nat):Int)) k;rw[e1,e2];exact cG _ rfl
end
theorem Nd{lo c:Int}{tb:TS}{D:Kk}(Pv:Nat->St->Hp->Prop)(h0:Pv 0 σ H)
  (hs:∀i σ H,i<n->Pv i σ H->g (.int (lo+(i:Nat)*c)) σ H fun σ2 H2=>tb {D with nx:=Pv (i+1),ct:=Pv (i+1),bk:=D.nx} σ2 H2) (hd:∀σ H,Pv n σ H->D.nx σ H):
  ∃W:Nat->Nat->St->Hp->Prop,(∃m,W 0 m σ H)/\∀i m σ H,W i m σ H->
   ((R1 lo c n).stop i H/\D.nx σ H)∨((R1 lo c n).go i H/\∃N:St->Hp->Prop,(∀σ' H',N σ' H'->∃m',m'<m/\W (i+1) m' σ' H')/\∀x H',(R1 lo c n).BL i H x H'->g x σ H' fun σ2 H2=>tb {D with nx:=N,ct:=N,bk:=D.nx} σ2 H2):=by
 refine⟨fun i m σ H=>m=n-i/\i<=n/\Pv i σ H,⟨n,by simp,cI _,h0⟩,?_⟩
 rintro i m σ H ⟨rfl,hi,p⟩
 by_cases oT:i<n
 .refine .inr ⟨oT,Pv (i+1),fun σ' H' p'=>⟨n-(i+1),by lia,rfl,oT,p'⟩,fun x H' y=>?_⟩;obtain⟨e,y⟩:=y;subst e y;exact hs i σ _ oT p
 .have e:i=n:=by lia
  subst e;exact .inl ⟨aY _,hd σ H p⟩
def Q9(K:aX)(a:Addr)(n:Nat):It:=
 ⟨fun i H=>i<n/\∃(xs:Lv) (x:V),iY K H a xs/\xs[n-1-i]? =some x,fun i H x H'=>H'=H/\∀xs,iY K H a xs->xs[n-1-i]? =some x,fun i _=>n<=i⟩
theorem NU(a it:Addr)(n:Nat):Om P w K tg (Q9 K a n) [it] it (fun i h=>i<=n/\h.IsRevIter it a ((n:Int)-1-(i:Nat))) where
 mem:=by simp
 obj:=fun i h st b hb=>by
  have e:b=it:=by simpa using hb
  subst e;obtain⟨_,o,e,c,d⟩:=st;exact⟨o,e,fun v z=>by rw[d]at z;cases z⟩
 keep:=fun i h h' st k=>⟨st.1,st.2.at fun o e=>k it (by simp) o e⟩
 item:=by
  intro X hP hw hK hc i aI s σ H E I hf st hg;subst hP hw hK;obtain⟨L3,xs,x,hq,hx⟩:=hg;obtain⟨gF,rv,p,hz⟩:=I.list hq;obtain⟨u,hu,ru⟩:=rv.get hx;obtain⟨f0,f1,f2,f3,f4,f5⟩:=hf it (by simp);obtain⟨_,hit⟩:=st;have e1:(n:Int)-1-((i:Nat):Int)=((n-1-i:Nat):Int):=by lia
  rw[e1]at hit;refine wpAny_pyNext_rev_item hit p.isList (x:=u) (by simpa using hu) fun h' Wf sb=>?_;have e2:((n-1-i:Nat):Int)-1=(n:Int)-1-((i+1:Nat):Int):=by lia
  rw[e2]at Wf;have I1:dP X aI σ H {s with heap:=h'}:=I.turned (t':=s.toks) (fun b o hb e=>(sb.2 b hb).trans e) f0 f1 f3 f4 f5;obtain⟨o,e,c,d⟩:=id Wf;exact⟨u,rfl,Ru (s:={s with heap:=h'}) e c d (by decide) ⟨x,H,I1,ru,⟨rfl,fun ys hy=>by rw[I.Mp hy hq];exact hx⟩,⟨L3,Wf⟩,fun b hb=>(hf b hb).1⟩⟩
 done:=by
  intro X hP hw hK hc i aI s σ H E I hf st hg;subst hP hw hK;obtain⟨f0,f1,f2,f3,f4,f5⟩:=hf it (by simp);obtain⟨L3,hit⟩:=st;have pf:n<=i:=hg;have e1:(n:Int)-1-((i:Nat):Int)= -1:=by lia
  rw[e1]at hit;exact wpAny_pyNext_rev_end (I.ok.hd hc) hit fun h' eb=>⟨rfl,I.turned (t':=s.toks) (fun b o hb e=>eb b o hb e) f0 f1 f3 f4 f5⟩
 self:=fun A i s Q E st h=>VX st.2 h
def o8(K:aX)(ta:TA):TI:=fun σ H R=>ta σ H fun vs H1=>E2 fun(a:Addr) (xs:Lv)=>A3 (vs=[.ref a]) (iY K H1 a xs) (R (Q9 K a xs.length) H1)
section
variable {X:Cx} {tg:Expr}
theorem Xv{e:Expr}{ta:TA}{p pos:Pos}(hg:Gl X "reversed")(hm:X.mg "reversed"=none)(ha:PA X [e] ta)(hs:dD [e] X.env=[(false,eval e X.env)]:=by rfl):PI X tg (.Call (.Name "reversed" p) [e] [] pos) (o8 X.K ta):=by
 intro aI s σ H R I h;refine Call_ (Hi I hg hm Nw (jT (iX (ha pos aI s σ H _ I h) fun us s1 ⟨vs,H1,I1,r1,q1⟩=>?_) hs rfl));obtain⟨a,xs,e,hq,q⟩:=q1;subst e;cases r1 with
 |cons r rr=>
  cases rr;cases r;obtain⟨gF,rv,p',hz⟩:=I1.list hq;have hl:=rv.length;have e1:((gF.toArray.size:Nat):Int)-1=(xs.length:Int)-1-((0:Nat):Int):=by simp only[cD];lia
  refine call_reversed_list p'.isList (VX (l:=a) (i:=((gF.toArray.size:Nat):Int)-1) ⟨_,cG _ rfl,rfl,rfl⟩ ?_);refine Ls (tk:=s1.toks) I1 _ (NU a _ xs.length) ⟨cI _,?_⟩ q;rw[<-e1];exact⟨_,cG _ rfl,rfl,rfl⟩
end
section
variable {prog:dJ} {w:World} {A:gQ} {E:Value->aZ->Prop} {s:aZ}
theorem Rk{o:Obj}(hd:(d==fS)=false)(ho:s.heap.get? d=some o)(hc:o.ExactDict)(M0:o.data=.dict es ep)
  (hQ:Q (.ref s.heap.objs.size) {s with heap:=s.heap.push {cls:=.type "dict_keyiterator",data:=.fields #[.ref d,.int 0 0,.int es.size 0,.int ep 0]}}):
  wpAny (model prog w) A (NC (.ref d)) Q E s:=by
 have hT:s.TypeIs (.ref d) "dict":=⟨o,ho,hc.1⟩
 refine wpAny_pyIter_slot hT F.slot_dict_iter (Bm F.slot_dict_iter hT F.entry_dict_iter ?_ (F.args_dict_iter_1 _))
 unfold Builtin.«dict.__iter__»
 refine aS ?_
 unfold Builtin.Dict.dictSlotNone
 refine aS (UR hT ?_)
 show wpAny _ _ (pure (dE d)) _ _ s
 refine bO ?_
 show wpAny _ _ (vN d>>=_) _ _ s
 unfold vN
 rw[if_neg (by rw[hd];exact bY)]
 refine aS (bO ?_)
 refine aS (kM ho M0 ?_)
 refine aS (qW ho M0 ?_)
 refine aS (yU (bO ⟨_,rfl,"dict_keyiterator",_,⟨_,cG _ rfl,rfl⟩,iJ.lookup,?_⟩))
 simpa[Ss]using hQ
theorem Pe{it:Addr}{i:Nat}{od:Obj}{en:qB}{Q:Option Value->aZ->Prop}(hit:s.heap.IsKeyIter it d i n ep)(HN:s.heap.get? d=some od)(ZH:od.data=.dict es ep)
  (hsz:es.size=n) (hx:es[i]? =some en) (hQ:∀h',h'.IsKeyIter it d (i+1) n ep->rA it s.heap h'->Q (some en.key) {s with heap:=h'}):wpAny (model prog w) A (AZ (.ref it)) Q E s:=by
 obtain⟨o,ho,hc,hd⟩:=id hit
 unfold AZ
 refine aS (wpAny_attempt (LX (name:=Str.ofString "__next__") hit.typeIs iJ
  (Bm iJ hit.typeIs Qc ?_ (Ov _))))
 refine aS (bO ?_)
 refine aS ?_
 refine aS ?_
 first|refine aS (nP hit.typeIs (bO ?_))|refine aS (qT hit.typeIs (bO ?_))
 refine aS (wpAny_fieldsOf ho hd ?_)
 have ox:zG "dict_keyiterator"=false:=by decide
 simp only[ox,iI,if_false]
 show wpAny _ _ (if (dE d==rX)=true then _ else _) _ _ s
 rw[if_neg (show ¬((dE d==rX)=true) from bY)]
 refine aS (bO ?_)
 refine aS (kM HN ZH ?_)
 rw[if_neg (by rw[hsz];simp)]
 refine aS (bO ?_)
 refine aS (qW HN ZH ?_)
 rw[if_neg (by simp)]
 refine bO ?_
 obtain⟨aaD,hen⟩:=Array.getElem?_eq_some_iff.mp hx
 simp only[show ¬((i:Int)<0) from by lia,if_false,gE,pD aaD]
 refine aS ?_
 first|refine aS (nP hit.typeIs (bO ?_))|refine aS (qT hit.typeIs (bO ?_))
 refine aS (UT hit.typeIs ?_)
 show wpAny _ _ (setField (.ref it) 1 (Ss ((i:Int)+1))>>=_) _ _ s
 refine aS (wpAny_setField ho hd (by simp) ?_)
 have ZF:(s.heap.update it (Obj.mapFields (·.setIfInBounds 1 (Ss ((i:Int)+1))))).IsKeyIter it d (i+1) n ep:=
  ⟨_,BK _ ho (Obj.isFreed_of_fields (NG hd _)),(Obj.cls_mapFields ..).trans hc,by rw[NG hd];simp[Ss]⟩
 refine aS (uD ?_)
 refine aS (UT (s:={s with heap:=s.heap.update it (Obj.mapFields (·.setIfInBounds 1 (Ss ((i:Int)+1))))}) ZF.typeIs ?_)
 show wpAny _ _ (pure es[i].key) _ _ _
 rw[hen]
 exact bO (bO ⟨_,rfl,bO (hQ _ ZF (nQ ..))⟩)
theorem Ez{it:Addr}{i:Nat}{od:Obj}{Q:Option Value->aZ->Prop}(hh:A.handled=none)(hit:s.heap.IsKeyIter it d i n ep)(HN:s.heap.get? d=some od)(ZH:od.data=.dict es ep)
  (hsz:es.size=n) (pf:n<=i) (hQ:∀h',Heap.ExtBut it s.heap h'->Q none {s with heap:=h'}):wpAny (model prog w) A (AZ (.ref it)) Q E s:=by
 obtain⟨o,ho,hc,hd⟩:=id hit
 unfold AZ
 refine aS (wpAny_attempt (LX (name:=Str.ofString "__next__") hit.typeIs iJ
  (Bm iJ hit.typeIs Qc ?_ (Ov _))))
 refine aS (bO ?_)
 refine aS ?_
 refine aS ?_
 first|refine aS (nP hit.typeIs (bO ?_))|refine aS (qT hit.typeIs (bO ?_))
 refine aS (wpAny_fieldsOf ho hd ?_)
 have ox:zG "dict_keyiterator"=false:=by decide
 simp only[ox,iI,if_false]
 show wpAny _ _ (if (dE d==rX)=true then _ else _) _ _ s
 rw[if_neg (show ¬((dE d==rX)=true) from bY)]
 refine aS (bO ?_)
 refine aS (kM HN ZH ?_)
 rw[if_neg (by rw[hsz];simp)]
 refine aS (bO ?_)
 refine aS (qW HN ZH ?_)
 rw[if_neg (by simp)]
 refine bO ?_
 have aaG:es.size<=i:=by rw[hsz];exact pf
 simp only[show ¬((i:Int)<0) from by lia,if_false,gE,Array.getElem?_eq_none aaG]
 refine aS ?_
 first|refine aS (nP hit.typeIs (bO ?_))|refine aS (qT hit.typeIs (bO ?_))
 show wpAny _ _ (setField (.ref it) 0 .none>>=_) _ _ s
 refine aS (wpAny_setField ho hd (by simp) ?_)
 show wpAny _ _ (newExc (.type "StopIteration") []>>=_) _ _ _
 refine aS ?_
 simp only[newExc,newTuple]
 refine aS (yU ?_ (by size_fits))
 refine aS (m:=firstArgMember _ _) (wpAny_of_eq (a:=rX) (by first|rfl|(simp only[firstArgMember];rfl)) ?_)
 refine yU ?_ (by size_fits)
 simp only[raiseNew]
 refine aS (wpAny_handled ?_)
 rw[show A.in1.handled=none from hh]
 refine aS (bO (wpAny_throw ?_))
 refine aS (wpAny_isInstance (T:="StopIteration") (b:=true) ⟨_,cG _ rfl,rfl⟩ isSubtype_stop ?_)
 exact bO (hQ _ (((nQ ..).extBut.push _).push _))
end
theorem RO{κ:Type}{kvs:List (κ×V)}{vs:List (κ×Value)}(h:KV kvs vs):∀{i:Nat} {k:κ} {v:V},kvs[i]? =some (k,v)->∃u,vs[i]? =some (k,u)/\gC v u:=by
 unfold KV at h;induction h with
 |nil=>intro i k v e;simp at e
 | @cons a b l₁ l₂ r t ih=>
  intro i k v e;cases i with
  |zero=>simp only[yF,Bo]at e;subst e;refine⟨b.2,?_,r.2⟩;simp only[yF];exact gL some (Prod.ext r.1.symm rfl)
  |succ j=>simp only[Ws]at e ⊢;exact ih e
theorem gI{α β:Type}{G:α->β->Prop}{l₁:List α}{l₂:List β}(h:eZ G l₁ l₂):∀{i:Nat} {a:α},l₁[i]? =some a->∃b,l₂[i]? =some b/\G a b:=by
 induction h with
 |nil=>intro i a e;simp at e
 | @cons a b l₁ l₂ r t ih=>
  intro i a' e;cases i with
  |zero=>simp only[yF,Bo]at e;subst e;exact⟨b,rfl,r⟩
  |succ j=>simp only[Ws]at e ⊢;exact ih e
theorem Xq{k:iM}(h:Fh k u=true):gC (kV k) u:=by
 rcases kK h with ⟨i,t,rfl,rfl⟩|⟨x,t,rfl,rfl⟩
 .exact⟨t,rfl⟩
 .exact⟨t,rfl⟩
section
variable {X:Cx} {aI:List (Addr×Obj)} {σ:St} {H:Hp} {s:aZ} {d:Addr} {o:Obj}
theorem dP.LH{kvs:List (iM×V)}(I:dP X aI σ H s)(h:H d=some (.kN o (.dK kvs))):
  (d==fS)=false/\s.heap.get? d=some o/\o.ExactDict/\∃(es:Array qB) (ep:Nat) (vs:List (iM×Value)),o.data=.dict es ep/\es.size=kvs.length/\KV kvs vs/\s.heap.DictAt (gM X.prog X.w) d vs ep:=by
 obtain⟨hd,z,hs,vs,kv,o',es,ep,ho,hx,Hm,r⟩:=I.iW d _ h
 rw[hd]at ho
 cases ho
 refine⟨hs,hd,hx,es,ep,vs,Hm,?_,kv,o,es,hd,hx,Hm,r⟩
 have l1:=r.2.1.length
 have l2:kvs.length=vs.length:=iO kv
 rw[Cf]at l1
 lia
theorem dP.ql(I:dP X aI σ H s)(h:H d=some (.kN o (.dT kvs))):
  (d==fS)=false/\s.heap.get? d=some o/\o.ExactDict/\∃(es:Array qB) (ep:Nat),o.data=.dict es ep/\es.size=kvs.length/\
   ∀(i:Nat) (k:List iM) (v:V),kvs[i]? =some (k,v)->∃(en:qB) (q:Addr),es[i]? =some en/\en.key=.ref q/\H q=some (.tup (k.map kV)):=by
 obtain⟨hd,z,hs,xs,pr,o',es,ep,ho,hx,Hm,he,_⟩:=I.iW d _ h
 rw[hd]at ho
 cases ho
 refine⟨hs,hd,hx,es,ep,Hm,?_,fun i k v e=>?_⟩
 .have l1:es.size=xs.length:=size_of_entries he;have l2:kvs.length=xs.length:=iO pr;lia
 .obtain⟨b,hb,e1,e2,_⟩:=gI pr e;have q:=entry_at he i;rw[hb]at q;exact⟨_,b.2.1,q,rfl,e2⟩
end
def UN(d:Addr)(o:Obj)(kvs:List (iM×V)):It:=
 ⟨fun i H=>H d=some (.kN o (.dK kvs))/\i<kvs.length,fun i H x H'=>H'=H/\∃k v,kvs[i]? =some (k,v)/\x=kV k,fun i H=>H d=some (.kN o (.dK kvs))/\kvs.length<=i⟩
def UM(d:Addr)(o:Obj)(kvs:List (List iM×V)):It:=
 ⟨fun i H=>H d=some (.kN o (.dT kvs))/\i<kvs.length,fun i H x H'=>H'=H/\∃(k:List iM) (v:V) (q:Addr),kvs[i]? =some (k,v)/\x=.ref q/\H q=some (.tup (k.map kV)),fun i H=>H d=some (.kN o (.dT kvs))/\kvs.length<=i⟩
def vf(d:Addr)(o:Obj)(kvs:List (iM×V)):It:=
 ⟨fun i H=>H d=some (.kN o (.dK kvs))/\i<kvs.length,fun i H x H'=>E3 fun T k v=>A4 (kvs[i]? =some (k,v)) (x=.ref T) (H T=none) (H'=upd H T (.tup [kV k,v])),fun i H=>H d=some (.kN o (.dK kvs))/\kvs.length<=i⟩
theorem Bh{o:Obj}{AV:Array qB}{MQ:Nat}(h:o.data=.dict es ep)(h':o.data=.dict AV MQ):AV=es/\MQ=ep:=by rw[h]at h';cases h';exact⟨rfl,rfl⟩
section
variable {P:dJ} {w:World} {K:aX} {tg:Expr} {d:Addr} {o:Obj} {es:Array qB} {ep:Nat}
theorem JD{kvs:List (iM×V)}(it:Addr)(HN:o.data=.dict es ep):Om P w K tg (UN d o kvs) [it] it (fun i h=>h.IsKeyIter it d i kvs.length ep) where
 mem:=by simp
 obj:=fun i h st b hb=>by
  have e:b=it:=by simpa using hb
  subst e;obtain⟨oi,e,c,dd⟩:=st;exact⟨oi,e,fun v z=>by rw[dd]at z;cases z⟩
 keep:=fun i h h' st k=>st.at fun oi e=>k it (by simp) oi e
 item:=by intro X hP hw hK hc i aI s σ H E I hf st hg;subst hP hw hK;obtain⟨hd,hi⟩:=hg;obtain⟨f0,f1,f2,f3,f4,f5⟩:=hf it (by simp);obtain⟨hs,LA,hx,AV,MQ,vs,Hm,hsz,kv,hm⟩:=I.LH hd;obtain⟨rfl,rfl⟩:=Bh HN Hm;obtain⟨⟨k,v⟩,dk⟩:∃p,kvs[i]? =some p:=⟨kvs[i],bM hi⟩;obtain⟨u,hu,ru⟩:=RO kv dk;have hl:kvs.length=vs.length:=iO kv;rw[hl]at st;refine wpAny_pyNext_dict_item st hm hu fun key h' wI Wf sb=>?_;have I1:dP X aI σ H {s with heap:=h'}:=I.turned (t':=s.toks) (fun b ob hb e=>(sb.2 b hb).trans e) f0 f1 f3 f4 f5;obtain⟨oi,e,c,dd⟩:=id Wf;refine⟨key,rfl,Ru (s:={s with heap:=h'}) e c dd (by decide) ⟨kV k,H,I1,Xq (show Fh k key=true from wI),⟨rfl,k,v,dk,rfl⟩,?_,fun b hb=>(hf b hb).1⟩⟩;show h'.IsKeyIter it d (i+1) kvs.length _;rw[hl];exact Wf
 done:=by intro X hP hw hK hc i aI s σ H E I hf st hg;subst hP hw hK;obtain⟨hd,hi⟩:=hg;obtain⟨f0,f1,f2,f3,f4,f5⟩:=hf it (by simp);obtain⟨hs,LA,hx,AV,MQ,vs,Hm,hsz,kv,hm⟩:=I.LH hd;obtain⟨rfl,rfl⟩:=Bh HN Hm;exact Ez (I.ok.hd hc) st LA Hm hsz hi fun h' eb=>⟨rfl,I.turned (t':=s.toks) (fun b ob hb e=>eb b ob hb e) f0 f1 f3 f4 f5⟩
 self:=fun A i s Q E st h=>wpAny_pyIter_keyiter st h
theorem BP(it:Addr)(HN:o.data=.dict es ep):Om P w K tg (UM d o kvs) [it] it (fun i h=>h.IsKeyIter it d i kvs.length ep) where
 mem:=by simp
 obj:=fun i h st b hb=>by
  have e:b=it:=by simpa using hb
  subst e;obtain⟨oi,e,c,dd⟩:=st;exact⟨oi,e,fun v z=>by rw[dd]at z;cases z⟩
 keep:=fun i h h' st k=>st.at fun oi e=>k it (by simp) oi e
 item:=by intro X hP hw hK hc i aI s σ H E I hf st hg;subst hP hw hK;obtain⟨hd,hi⟩:=hg;obtain⟨f0,f1,f2,f3,f4,f5⟩:=hf it (by simp);obtain⟨hs,LA,hx,AV,MQ,Hm,hsz,ent⟩:=I.ql hd;obtain⟨rfl,rfl⟩:=Bh HN Hm;obtain⟨⟨k,v⟩,dk⟩:∃p,kvs[i]? =some p:=⟨kvs[i],bM hi⟩;obtain⟨en,q,hen,wI,hq⟩:=ent i k v dk;refine Pe st LA Hm hsz hen fun h' Wf sb=>?_;have I1:dP X aI σ H {s with heap:=h'}:=I.turned (t':=s.toks) (fun b ob hb e=>(sb.2 b hb).trans e) f0 f1 f3 f4 f5;obtain⟨oi,e,c,dd⟩:=id Wf;exact⟨en.key,rfl,Ru (s:={s with heap:=h'}) e c dd (by decide) ⟨.ref q,H,I1,wI,⟨rfl,k,v,q,dk,rfl,hq⟩,Wf,fun b hb=>(hf b hb).1⟩⟩
 done:=by intro X hP hw hK hc i aI s σ H E I hf st hg;subst hP hw hK;obtain⟨hd,hi⟩:=hg;obtain⟨f0,f1,f2,f3,f4,f5⟩:=hf it (by simp);obtain⟨hs,LA,hx,AV,MQ,Hm,hsz,ent⟩:=I.ql hd;obtain⟨rfl,rfl⟩:=Bh HN Hm;exact Ez (I.ok.hd hc) st LA Hm hsz hi fun h' eb=>⟨rfl,I.turned (t':=s.toks) (fun b ob hb e=>eb b ob hb e) f0 f1 f3 f4 f5⟩
 self:=fun A i s Q E st h=>by refine wpAny_pyIter_slot st.typeIs Tb (Bm Tb st.typeIs F.entry_dict_keyiterator_iter ?_ (F.args_dict_keyiterator_iter_1 _));show wpAny _ _ (ret (.ref it)) _ _ s;exact bO ⟨_,rfl,"dict_keyiterator",_,st.typeIs,iJ.lookup,h⟩
theorem BQ{kvs:List (iM×V)}(it:Addr)(HN:o.data=.dict es ep):
  Om P w K (.Tuple elts kk Oz) (vf d o kvs) [it] it (fun i h=>∃ok ov,IsItemIter h it d i kvs.length ep ok ov) where
 mem:=by simp
 obj:=fun i h st b hb=>by
  have e:b=it:=by simpa using hb
  subst e;obtain⟨ok,ov,e⟩:=st;exact⟨_,e,fun v z=>nomatch z⟩
 keep:=fun i h h' st k=>let ⟨ok,ov,e⟩:=st;⟨ok,ov,k it (by simp) _ e⟩
 item:=by
  intro X hP hw hK hc i aI s σ H E I hf st hg;subst hP hw hK;obtain⟨hd,hi⟩:=hg;obtain⟨hs,LA,hx,AV,MQ,vs,Hm,hsz,kv,hm⟩:=I.LH hd;obtain⟨rfl,rfl⟩:=Bh HN Hm;obtain⟨⟨k,v⟩,dk⟩:∃p,kvs[i]? =some p:=⟨kvs[i],bM hi⟩;obtain⟨u,hu,ru⟩:=RO kv dk;have hl:kvs.length=vs.length:=iO kv;obtain⟨ok,ov,he⟩:=st;rw[hl]at he;have oT:it<s.heap.objs.size:=cM he;refine wpAny_pyNext_items_item he hm hu fun key h' wI ho hT hz hk=>?_;refine⟨_,rfl,wpAny_letOwnedTupleGo_items (s:={s with heap:=h'}) ho fun dv he' sb=>?_⟩;have N3:dv.get? s.heap.objs.size=some {cls:=.type "tuple",data:=.seq #[key,u]}:=(sb.2 _ (Jg oT)).trans hT
  have new:mH X.prog X.w (upd H s.heap.objs.size (.tup [kV k,v])) dv s.heap.objs.size (.tup [kV k,v]):=
   ⟨by show 2<=sizeLine;decide,[key,u],.cons (Xq (show Fh k key=true from wI)) (.cons ru .nil),⟨_,N3,rfl,_,rfl⟩⟩
  have I1:dP X aI σ (upd H s.heap.objs.size (.tup [kV k,v])) {s with heap:=dv}:=
   I.Ql (t':=s.toks) (ch:=[it]) (fun b ob hb e=>(sb.2 b (by simpa using hb)).trans (hk b ob (by simpa using hb) e)) hf (aY _) new
  refine⟨.ref s.heap.objs.size,_,I1,rfl,⟨_,k,v,dk,rfl,I.iW.fresh (aY _),rfl⟩,⟨key,u,?_⟩,fun b hb=>?_⟩
  .rw[hl];exact he'
  .have e:b=it:=by simpa using hb
   rw[e,aH (fA oT)];exact(hf it (by simp)).1
 done:=by intro X hP hw hK hc i aI s σ H E I hf st hg;subst hP hw hK;obtain⟨hd,hi⟩:=hg;obtain⟨f0,f1,f2,f3,f4,f5⟩:=hf it (by simp);obtain⟨hs,LA,hx,AV,MQ,vs,Hm,hsz,kv,hm⟩:=I.LH hd;obtain⟨rfl,rfl⟩:=Bh HN Hm;have hl:kvs.length=vs.length:=iO kv;obtain⟨ok,ov,he⟩:=st;rw[hl]at he;exact wpAny_pyNext_items_end (I.ok.hd hc) he hm (Av (by lia)) fun h' eb=>⟨rfl,I.turned (t':=s.toks) (fun b ob hb e=>eb b ob hb e) f0 f1 f3 f4 f5⟩
 self:=fun A i s Q E st h=>let ⟨_,_,e⟩:=st;PySem.W.kcp_self e h
end
def HK(td:TE):TI:=fun σ H R=>td σ H fun x H1=>E2 fun d o=>x=.ref d/\((∃kvs,H1 d=some (.kN o (.dK kvs))/\R (UN d o kvs) H1)∨∃kvs,H1 d=some (.kN o (.dT kvs))/\R (UM d o kvs) H1)
def RX(td:TE):TI:=fun σ H R=>td σ H fun x H1=>E3 fun d o kvs=>A3 (x=.ref d) (H1 d=some (.kN o (.dK kvs))) (R (vf d o kvs) H1)
section
variable {X:Cx} {tg e:Expr} {td:TE} {apos sI:Pos}
theorem En(he:PE X e td):PI X tg e (HK td):=by
 intro aI s σ H R I h;refine iX (he aI s σ H _ I h) fun u s1 ⟨x,H1,I1,rx,d,o,ex,q⟩=>?_;subst ex;obtain rfl:u=dE d:=rx;rcases q with ⟨kvs,hd,q⟩|⟨kvs,hd,q⟩
 .obtain⟨hs,LA,hx,es,ep,vs,Hm,hsz,kv,hm⟩:=I1.LH hd;refine Rk hs LA hx Hm (Ls (tk:=s1.toks) I1 _ (JD _ Hm) ⟨_,cG _ rfl,rfl,?_⟩ q);rw[hsz]<;>rfl
 .obtain⟨hs,LA,hx,es,ep,Hm,hsz,ent⟩:=I1.ql hd;refine Rk hs LA hx Hm (Ls (tk:=s1.toks) I1 _ (BP _ Hm) ⟨_,cG _ rfl,rfl,?_⟩ q);rw[hsz]<;>rfl
theorem rY{elts:List Expr}{kk:Nat}{Oz:Pos}(he:PE X e td)(Ze:uF e "items" X.env (eval e X.env)=eval e X.env:=by rfl)(Zc:(apos.endLine==sI.line)=true:=by rfl):
  PI X (.Tuple elts kk Oz) (.Call (.Attribute e "items" apos) [] [] sI) (RX td):=by
 intro aI s σ H R I h
 refine Oo (T:="dict") (id:="dict.items") Ze rfl Zc F.plainAttrs_dict F.slot_dict_items F.type_dict_items (iX (he aI s σ H _ I h) fun u s1 ⟨x,H1,I1,rx,d,o,kvs,ex,hd,q⟩=>?_)
 subst ex
 obtain rfl:u=dE d:=rx
 obtain⟨hs,LA,hx,es,ep,vs,Hm,hsz,kv,hm⟩:=I1.LH hd
 have hl:kvs.length=vs.length:=iO kv
 refine⟨hm.dictOf.typeIs,hm.dictOf.mapOf.noDict,?_⟩
 have I2:dP X aI σ H1 {s1 with heap:=s1.heap.push {cls:=.type "dict_items",data:=.fields #[.ref d]}}:=I1.kept (t':=s1.toks) fun b ob q=>bU _ q
 have fin:wpAny (model X.prog X.w) X.A (NC (.ref s1.heap.objs.size)) (Q7 X aI σ (.Tuple elts kk Oz) R) X.xe {s1 with heap:=s1.heap.push {cls:=.type "dict_items",data:=.fields #[.ref d]}}:=by refine wpAny_pyIter_items (d:=d) (knd:=gM X.prog X.w) ⟨_,cG _ rfl,rfl,rfl⟩ (hm.push _) (Ls (tk:=s1.toks) I2 _ (BQ _ Hm) ⟨.none,.none,?_⟩ q);rw[hl];exact cG _ rfl
 show wpAny _ _ (BC sI (.builtin "dict.items") [.ref d] [] []) _ X.xe s1
 exact method_meetsIn F.slot_dict_items F.entry_dict_items rfl (FF ⟨rfl,hm.dictOf.typeIs,F.args_dict_items_1 _,_,meets_dict_items (gM X.prog X.w) d hs,⟨vs,hm.dictOf⟩,fin⟩)
end
def R0(K:aX)(a:Addr):It:=
 ⟨fun i H=>E2 fun(xs:Lv) (x:V)=>iY K H a xs/\xs[i]? =some x,fun i H v H'=>E2 fun T x=>A4 (v=.ref T) (H T=none) (H'=upd H T (.tup [.int (i:Nat),x])) (∀xs,iY K H a xs->xs[i]? =some x),fun i H=>∃xs:Lv,iY K H a xs/\xs.length<=i⟩
theorem JE(a e it:Addr):
  Om P w K (.Tuple elts kk Oz) (R0 K a) [e,it] e (fun i h=>(∃old,IsEnum h e it ((i:Nat):Int) old)/\h.IsListIter it a i/\e≠it) where
 mem:=by simp
 obj:=fun i h st b hb=>by
  obtain⟨⟨old,he⟩,⟨o,ho,hc,hd⟩,_⟩:=st;have e':b=e∨b=it:=by simpa using hb
  rcases e' with z|z
  .rw[z];exact⟨_,he,fun v q=>nomatch q⟩
  .rw[z];exact⟨o,ho,fun v q=>by rw[hd]at q;cases q⟩
 keep:=fun i h h' st k=>let ⟨⟨old,he⟩,hi,Iq⟩:=st;⟨⟨old,k e (by simp) _ he⟩,hi.at fun o q=>k it (by simp) o q,Iq⟩
 item:=by
  intro X hP hw hK hc i aI s σ H E I hf st hg;subst hP hw hK;obtain⟨⟨old,he⟩,hit,Iq⟩:=st;obtain⟨xs,x,hq,hx⟩:=hg;obtain⟨gF,rv,p,hz⟩:=I.list hq;obtain⟨u,hu,ru⟩:=rv.get hx;have hel:e<s.heap.objs.size:=cM he;have U0:it<s.heap.objs.size:=by obtain⟨_,q,_⟩:=hit;exact cM q
  refine wpAny_pyNext_enum_item he hit p.isList (x:=u) (by simpa using hu) Iq fun h' ho ZF hT hsz hk=>?_;refine⟨_,rfl,wpAny_letOwnedTupleGo_enum (s:={s with heap:=h',toks:=s.toks+1}) ho fun dv he' sb=>?_⟩;have N3:dv.get? s.heap.objs.size=some {cls:=.type "tuple",data:=.seq #[.int i s.toks,u]}:=(sb.2 _ (Jg hel)).trans hT
  have new:mH X.prog X.w (upd H s.heap.objs.size (.tup [.int (i:Nat),x])) dv s.heap.objs.size (.tup [.int (i:Nat),x]):=
   ⟨by show 2<=sizeLine;decide,[.int i s.toks,u],.cons ⟨_,rfl⟩ (.cons ru .nil),⟨_,N3,rfl,_,rfl⟩⟩
  have I1:dP X aI σ (upd H s.heap.objs.size (.tup [.int (i:Nat),x])) {s with heap:=dv,toks:=s.toks+1}:=
   I.Ql (ch:=[e,it]) (fun b ob hb q=>(sb.2 b (fun z=>hb (by simp[z]))).trans (hk b ob (fun z=>hb (by simp[z])) (fun z=>hb (by simp[z])) q)) hf (aY _) new
  refine⟨.ref s.heap.objs.size,_,I1,rfl,⟨_,x,rfl,I.iW.fresh (aY _),rfl,fun ys hy=>by rw[I.Mp hy hq];exact hx⟩,⟨⟨u,?_⟩,ZF.at fun o q=>(sb.2 it (Ne.symm Iq)).trans q,Iq⟩,fun b hb=>?_⟩
  .have e1:((i+1:Nat):Int)=(i:Int)+1:=by lia
   rw[e1];exact he'
  .have Iv:b<s.heap.objs.size:=by
    have e':b=e∨b=it:=(by simpa using hb);rcases e' with z|z
    .rw[z];exact hel
    .rw[z];exact U0
   rw[aH (fA Iv)];exact(hf b hb).1
 done:=by intro X hP hw hK hc i aI s σ H E I hf st hg;subst hP hw hK;obtain⟨⟨old,he⟩,hit,Iq⟩:=st;obtain⟨xs,hq,hx⟩:=hg;obtain⟨gF,rv,p,hz⟩:=I.list hq;obtain⟨f0,f1,f2,f3,f4,f5⟩:=hf it (by simp);have hl:=rv.length;exact wpAny_pyNext_enum_end (I.ok.hd hc) he hit p.isList (by simp;lia) fun h' eb=>⟨rfl,I.turned (t':=s.toks) (fun b o hb q=>eb b o hb q) f0 f1 f3 f4 f5⟩
 self:=fun A i s Q E st h=>let ⟨⟨_,he⟩,_⟩:=st;wpAny_pyIter_enum he h
def G3(K:aX)(ta:TA):TI:=fun σ H R=>ta σ H fun vs H1=>E2 fun a xs=>A3 (vs=[.ref a]) (iY K H1 a xs) (R (R0 K a) H1)
theorem Jx{e:Expr}{ta:TA}{p pos Oz:Pos}{elts:List Expr}{kk:Nat}(hg:Gl X "enumerate")(hm:X.mg "enumerate"=none)(ha:PA X [e] ta)(hs:dD [e] X.env=[(false,eval e X.env)]:=by rfl):
  PI X (.Tuple elts kk Oz) (.Call (.Name "enumerate" p) [e] [] pos) (G3 X.K ta):=by
 intro aI s σ H R I h
 refine Call_ (Hi I hg hm boot_enumerate (jT (iX (ha pos aI s σ H _ I h) fun us s1 ⟨vs,H1,I1,r1,q1⟩=>?_) hs rfl))
 obtain⟨a,xs,ex,hq,q⟩:=q1
 subst ex
 cases r1 with
 |cons r rr=>
  cases rr;cases r;obtain⟨gF,rv,p',hz⟩:=I1.list hq;refine call_enumerate_list p'.isList fun h' he hit hsz hk=>wpAny_pyIter_enum he ?_;have I2:dP X aI σ H1 {s1 with heap:=h'}:=I1.kept (t':=s1.toks) hk;refine⟨s1.heap.objs.size+1,[s1.heap.objs.size+1,s1.heap.objs.size],_,_,H1,rfl,I2,JE a (s1.heap.objs.size+1) s1.heap.objs.size,⟨⟨.none,he⟩,hit,Nat.succ_ne_self _⟩,fun b hb=>?_,q⟩;have e':b=s1.heap.objs.size+1∨b=s1.heap.objs.size:=by simpa using hb
  have hle:s1.heap.objs.size<=b:=by
   rcases e' with z|z
   .rw[z];exact Ko _ _
   .rw[z];exact aY _
  exact I1.SV hle (I1.iW.fresh hle)
end L2
namespace L2
open PySem PySem.Spec PyProof.Rows
variable {st:Stmt}
def iH(s:Stmt)(j:Nat):Stmt:=match s with
 |.ClassDef _ _ _ body _ _ _ _ _ _ _=>body.getD j (.Pass ⟨0,0,0,0⟩)
 |_=>.Pass ⟨0,0,0,0⟩
def rV(s:Stmt):Arguments:=match s with
 |.FunctionDef _ a _ _ _ _ _ _ _ _=>a
 |_=>{posonlyargs:=[],args:=[],vararg:=none,kwonlyargs:=[],kw_defaults:=[],kwarg:=none,defaults:=[]}
def pH(s:Stmt):List Stmt:=match s with
 |.FunctionDef _ _ b _ _ _ _ _ _ _=>b
 |_=>[]
def bF(s:Stmt):Scope:=match s with
 |.FunctionDef _ _ _ _ _ _ sc _ _ _=>sc
 |_=>{kind:=.function,names:=[],isGenerator:=false,isCoroutine:=false}
abbrev lM:MS:=fun _ _ _ _ _ _=>False
abbrev E0:XK:=fun _ _ _=>False
theorem Qz{X:Cx}:Cb lM X E0:=fun _ _ _ _ _ _ _ h=>h.elim
structure lY(K:aX)(x qual:Str)(st:Stmt)(f:Addr)(fd:oI):Prop where
 ex:∃(oc:Value) (od:Option Addr) (kV doc pm:Value) (an:Option Addr) (cdv ct:Value) (osl:Array (Option Value)),
  fd=jF x qual (rV st) (pH st) (bF st) .none kV doc pm an cdv ct/\K.lookup f=some ⟨oc,od,.func fd,osl⟩/\qK K cdv qual=true
 kp:gZ K (.ref f)=true
section
variable {P:dJ} {w:World} {K:aX} {mg:Str->Option Value} {aT:Heap}
theorem lY.ok{x qual:Str}{f:Addr}{fd:oI}{N ps:List Str}{k:Nat}{sp:Sp}(F:lY K x qual st f fd)(S:cB N ps (bF st))(len:∀vs H Q E,sp vs H Q E->vs.length=ps.length)
  (SO:∀(cdv:Value) (A:gQ) (iA:List Env) (s:aZ) (H:Hp) (vs:Lv) (Q:VK) (E:XK),oF k (A.deeper (Gp qual (bF st) s.heap.objs.size f cdv))->sp vs H Q E->
   ∃t,EY (EN lM P w K mg aT N qual (bF st) f cdv A iA s H E).D1 (pH st) t/\t {nx:=fun _ H'=>Q .iU H',rt:=Q} (start N vs) H):eN P w K mg aT lM (k+1) f fd ps sp:=by
 obtain⟨oc,od,kV,doc,pm,an,cdv,ct,osl,rfl,lk,hcd⟩:=F.ex
 refine O7 lk hcd S len fun A iA s H vs Q E hr VI=>?_
 obtain⟨t,h,q⟩:=SO cdv A iA s H vs Q E hr VI
 exact⟨t,h.D1,q⟩
theorem lY.binds{x qual:Str}{f:Addr}{fd:oI}{ps:List Str}(F:lY K x qual st f fd)
  (h:∀(kV doc pm:Value) (an:Option Addr) (cdv ct:Value) (us:Lu),us.length=ps.length->BD (jF x qual (rV st) (pH st) (bF st) .none kV doc pm an cdv ct) ⟨us,[]⟩=pure (ps.zip us)):tL K fd ps []:=by
 obtain⟨oc,od,kV,doc,pm,an,cdv,ct,osl,rfl,lk,hcd⟩:=F.ex
 exact .all (h kV doc pm an cdv ct)
theorem DS{x qual:Str}{f:Addr}{oc:Value}{od an:Option Addr}{osl:Array (Option Value)}{kV doc pm cdv ct:Value}(l:K.lookup f=some ⟨oc,od,.func (jF x qual (rV st) (pH st) (bF st) .none kV doc pm an cdv ct),osl⟩)
  (c:qK K cdv qual=true) (k:gZ K (.ref f)=true):lY K x qual st f (jF x qual (rV st) (pH st) (bF st) .none kV doc pm an cdv ct):=⟨⟨oc,od,kV,doc,pm,an,cdv,ct,osl,rfl,l,c⟩,k⟩
end
theorem jV{A:gQ}{k:Nat}(hr:oF k A):A.units+1<cLine:=bV (Nat.add_le_add_left (by decide:1<=64) _) hr.units
section
variable {X:Cx}
theorem pv(i:Nat){x:Str}{pos:Pos}(hN:X.N[i]? =some x:=by rfl)(hv:ro X.env.scope x:=by first|exact Dk rfl|exact yC (Dk rfl)|exact yC (yC rfl))(hd:(x==("__debug__":Str))=false:=by decide)
  (hcd:(x==("__classdict__":Str))=false:=by decide):PE X (.Name x pos) (fC i):=PX hN hv hd hcd
end
theorem qF{A B:Prop}(h:B):if false=true then A else B:=by rw[if_neg bY];exact h
theorem oZ{A B:Prop}(h:A):if true=true then A else B:=by rw[if_pos rfl];exact h
theorem Cw{c A B:Prop}[Decidable c](h1:c->A)(h2:¬c->B):if c then A else B:=by
 by_cases h:c
 .rw[if_pos h];exact h1 h
 .rw[if_neg h];exact h2 h
def aK(H H':Hp):Prop:=∀b o,H b=some o->H' b=some o
theorem aK.refl(H:Hp):aK H H:=fun _ _ h=>h
theorem aK.trans{H H1 H2:Hp}(a:aK H H1)(b:aK H1 H2):aK H H2:=fun c o h=>b c o (a c o h)
theorem aK.free{H H':Hp}(e:aK H H'){l:Addr}(h:H' l=Option.none):H l=Option.none:=by
 cases q:H l with
 |none=>rfl
 |some o=>rw[e l o q]at h;cases h
theorem aK.seq{K:aX}{H H':Hp}{a:Addr}{xs:Lv}(e:aK H H')(h:iY K H a xs):iY K H' a xs:=by
 rcases h with (h|⟨o,h⟩)|h
 .exact .inl (.inl (e _ _ h))
 .exact .inl (.inr ⟨o,e _ _ h⟩)
 .exact .inr h
section
variable {κ:Type} [DecidableEq κ]
theorem NQ{kvs:List (κ×V)}{k:κ}(h:eO kvs k=none):¬k∈kvs.map (·.1):=by intro m;obtain⟨p,hp,e⟩:=aE.mp m;have q:(kvs.any fun kv=>decide (kv.1=k))=true:=dI.mpr ⟨p,hp,bB e⟩;rw[pE,h]at q;exact absurd q (by simp)
theorem WR{kvs:List (κ×V)}{k:κ}{v:V}(h:eO kvs k=some v):k∈kvs.map (·.1):=by
 have q:(kvs.any fun kv=>decide (kv.1=k))=true:=by rw[pE,h];all_goals rfl
 obtain⟨p,hp,e⟩:=dI.mp q;exact aE.mpr ⟨p,hp,aR e⟩
theorem lW:∀{l:List κ} {k:κ},l.Nodup->¬k∈l->(l++[k]).Nodup
 |[],k,_,_=>by simp
 |a::r,k,h,hk=>by
  obtain⟨h1,h2⟩:=cQ.mp h;show(a::(r++[k])).Nodup;refine cQ.mpr ⟨fun m=>?_,lW h2 fun m=>hk (aW.mpr (yC m))⟩;rcases aN.mp m with q|q
  .exact h1 q
  .exact hk (aW.mpr (Dk (aO.mp q).symm))
end
theorem Rf{α:Type}{l:List α}(hN:l.Nodup){i j:Nat}{x:α}(a:l[i]? =some x)(b:l[j]? =some x):i=j:=by obtain⟨h1,e1⟩:=aL.mp a;obtain⟨h2,e2⟩:=aL.mp b;exact(VC hN).mp (e1.trans e2.symm)
end L2
section
set_option maxHeartbeats 2000000
namespace L2
open PySem PySem.Spec PyProof.Rows
open PySem.W (WData Codec OpenSpec Well WellAll ReadsW ReadsAllW)
mutual
inductive Dw(K:aX)(H:Hp):V->WData->Prop
 |iU:Dw K H .iU .none
 |bl (b:Bool):Dw K H (.bl b) (.bool b)
 |int (i:Int):Dw K H (.int i) (.int i)
 |str (x:Str):Dw K H (.str x) (.str x)
 |Wi (b:Array UInt8):Dw K H (.Wi b) (.bytes b.toList)
 |lst {a:Addr} {xs:Lv} {ds:List WData}:iY K H a xs->yK K H xs ds->Dw K H (.ref a) (.list ds)
 |tup {a:Addr} {xs:Lv} {ds:List WData}:Wj K H a xs->yK K H xs ds->Dw K H (.ref a) (.tuple ds)
inductive yK(K:aX)(H:Hp):Lv->List WData->Prop
 |nil:yK K H [] []
 |cons {v:V} {vs:Lv} {d:WData} {ds:List WData}:Dw K H v d->yK K H vs ds->yK K H (v::vs) (d::ds)
end
theorem HZ{K:aX}{H:Hp}:∀ns:List Int,yK K H (ns.map V.int) (ns.map WData.int)
 |[]=>.nil
 |n::r=>.cons (.int n) (HZ r)
theorem HH{K:aX}{H:Hp}:∀(ns:List Int) (xs:Lv),yK K H xs (ns.map WData.int)->xs=ns.map V.int
 |[],xs,h=>by cases h;rfl
 |n::r,xs,h=>by
  cases h with
  |cons h1 h2=>cases h1;rw[HH r _ h2]<;>rfl
section
variable {P:dJ} {w:World} {K:aX} {H:Hp} {h:Heap} {R:IV} {cl:Str->Option Addr}
theorem ig{a:Addr}{xs:Lv}(iW:An P w H h)(KX:K.In h)(q:iY K H a xs):∃(gF:Lu) (o:Obj) (n:Nat),fN xs gF/\h.get? a=some o/\o.cls=.type "list"/\o.data=.seq gF.toArray n:=by
 rcases q with q|⟨o,gF,n,e,hc,_,hd,_,hv⟩
 .obtain⟨_,gF,n,hv,e⟩:=(show mH P w H h a (.lst xs) from q.ok iW);exact⟨gF,_,n,hv,e,rfl,rfl⟩
 .exact⟨gF.toList,o,n,hv,KX _ _ e,hc,by simp[hd]⟩
theorem ie{a:Addr}{xs:Lv}(iW:An P w H h)(KX:K.In h)(q:Wj K H a xs):∃(gF:Lu) (o:Obj) (n:Nat),fN xs gF/\h.get? a=some o/\o.cls=.type "tuple"/\o.data=.seq gF.toArray n:=by
 rcases q with q|⟨o,gF,n,e,hc,hd,_,hv⟩
 .obtain⟨_,gF,hv,o,e,hc,n,hd⟩:=(show mH P w H h a (.tup xs) from q.ok iW);exact⟨gF,o,n,hv,e,hc,hd⟩
 .exact⟨gF.toList,o,n,hv,KX _ _ e,hc,by simp[hd]⟩
mutual
theorem Dw.reads(iW:An P w H h)(KX:K.In h):∀(d:WData) (v:V) (u:Value),Dw K H v d->gC v u->∃as,ReadsW R cl h u d as
 |.none,_,_,x,r=>by cases x;cases r;exact⟨_,ReadsW.none⟩
 |.bool b,_,_,x,r=>by cases x;cases r;exact⟨_,ReadsW.bool b⟩
 |.int i,_,_,x,r=>by cases x;obtain⟨t,rfl⟩:=r;exact⟨_,ReadsW.int i t⟩
 |.str s,_,_,x,r=>by cases x;obtain⟨t,rfl⟩:=r;exact⟨_,ReadsW.str s t⟩
 |.bytes b,_,_,x,r=>by cases x;obtain⟨t,rfl⟩:=r;exact⟨_,ReadsW.bytes _ t⟩
 |.list ds,_,_,x,r=>by
  cases x with
  |lst hs ha=>cases r;obtain⟨gF,o,n,rv,ho,hc,hd⟩:=ig iW KX hs;obtain⟨as,hr⟩:=Dw.readsAll iW KX ds _ gF ha rv;exact⟨_,ReadsW.list ho hc hd hr⟩
 |.tuple ds,_,_,x,r=>by
  cases x with
  |tup hs ha=>cases r;obtain⟨gF,o,n,rv,ho,hc,hd⟩:=ie iW KX hs;obtain⟨as,hr⟩:=Dw.readsAll iW KX ds _ gF ha rv;exact⟨_,ReadsW.tuple ho hc hd hr⟩
 |.float _,_,_,x,_=>by cases x
 |.dict _,_,_,x,_=>by cases x
 |.bytearray _,_,_,x,_=>by cases x
 |.set _,_,_,x,_=>by cases x
 |.frozenset _,_,_,x,_=>by cases x
 |.obj _ _,_,_,x,_=>by cases x
theorem Dw.readsAll(iW:An P w H h)(KX:K.In h):∀(ds:List WData) (vs:Lv) (us:Lu),yK K H vs ds->fN vs us->∃as,ReadsAllW R cl h us ds as
 |[],_,_,x,r=>by cases x;cases r;exact⟨_,ReadsAllW.nil⟩
 |d::ds,_,_,x,r=>by
  cases x with
  |cons h1 h2=>
   cases r with
   |cons r1 r2=>obtain⟨as,q1⟩:=Dw.reads iW KX d _ _ h1 r1;obtain⟨bs,q2⟩:=Dw.readsAll iW KX ds _ _ h2 r2;exact⟨_,ReadsAllW.cons q1 q2⟩
end
end
mutual
def GN:WData->Bool
 |.none=>true
 |.bool _=>true
 |.int _=>true
 |.str _=>true
 |.bytes _=>true
 |.list xs=>Jo xs
 |.tuple xs=>Jo xs
 |_=>false
def Jo:List WData->Bool
 |[]=>true
 |x::r=>GN x&&Jo r
end
theorem Xu{α:Type}{f:α->WData}(h:∀a,GN (f a)=true):∀l:List α,Jo (l.map f)=true
 |[]=>rfl
 |x::r=>by show(GN (f x)&&Jo (r.map f))=true;rw[h x,Xu h r]<;>rfl
theorem zW:∀(c:Codec) (a:c.denote),GN (c.enc a)=true
 |.unit,_=>rfl
 |.bool,_=>rfl
 |.int _ _,_=>rfl
 |.nat _ _,_=>rfl
 |.u8,_=>rfl
 |.bytes _ _,_=>rfl
 |.text _ _ _ _,_=>rfl
 |.list _ _ c,a=>Xu (fun x=>zW c x) a
 |.pair c d,a=>by show(GN (c.enc a.1)&&(GN (d.enc a.2)&&true))=true;rw[zW c a.1,zW d a.2]<;>rfl
 |.triple c d e,a=>by show(GN (c.enc a.1)&&(GN (d.enc a.2.1)&&(GN (e.enc a.2.2)&&true)))=true;rw[zW c a.1,zW d a.2.1,zW e a.2.2]<;>rfl
 |.option c,none=>rfl
 |.option c,some x=>zW c x
theorem Qw:∀(cs:List Codec) (a:zF cs),Jo (tO cs a)=true
 |[],_=>rfl
 |c::cs,a=>by show(GN (c.enc a.1)&&Jo (tO cs a.2))=true;rw[zW c a.1,Qw cs a.2]<;>rfl
theorem Cg:∀{xs:List WData} {d:WData},d∈xs->d.weight<=zB xs
 |[],d,h=>absurd h (by simp)
 |x::r,d,h=>by
  show d.weight<=x.weight+1+zB r;rcases aW.mp h with e|m
  .rw[e];lia
  .have z:=Cg m;lia
def Wl:Value->V
 |.none=>.iU
 |.bool b=>.bl b
 |.int i _=>.int i
 |.str x _=>.str x
 |.bytes b _=>.Wi b
 |.ref a=>.ref a
 |_=>.iU
def LU(A:La):Value->Prop
 |.none=>True
 |.bool _=>True
 |.int _ _=>True
 |.str _ _=>True
 |.bytes _ _=>True
 |.ref a=>a∈A
 |_=>False
theorem LU.mono{A B:La}(h:∀a∈A,a∈B):∀{u:Value},LU A u->LU B u:=fun{u} x=>by
 cases u with
 |ref a=>exact h a x
 |none=>trivial
 |bool b=>trivial
 |int i t=>trivial
 |str s t=>trivial
 |bytes b t=>trivial
 |_=>exact fP x
theorem PH{A:La}{u:Value}(x:LU A u):gC (Wl u) u:=by
 cases u with
 |ref a=>rfl
 |none=>rfl
 |bool b=>rfl
 |int i t=>exact⟨t,rfl⟩
 |str s t=>exact⟨t,rfl⟩
 |bytes b t=>exact⟨t,rfl⟩
 |_=>exact fP x
theorem vV{A:La}:∀{vs:Lu},(∀u∈vs,LU A u)->fN (vs.map Wl) vs
 |[],_=>.nil
 |u::r,h=>.cons (PH (h u (aF ..))) (vV fun x hx=>h x (aD _ hx))
def yL(h:Heap)(A:La)(a:Addr):Prop:=∃vs:Lu,vs.length<=sizeLine/\(∀u∈vs,LU A u)/\
 (h.get? a=some {cls:=.type "list",data:=.seq vs.toArray}∨h.get? a=some {cls:=.type "tuple",data:=.seq vs.toArray})
theorem yL.mono{h:Heap}{A B:La}{a:Addr}(k:∀a∈A,a∈B)(x:yL h A a):yL h B a:=by obtain⟨vs,h1,h2,h3⟩:=x;exact⟨vs,h1,fun u hu=>(h2 u hu).mono k,h3⟩
theorem uS{P:Params}{h:Heap}:∀{vs:Lu} {ds:List WData},Ce P h vs ds->vs.length=ds.length
 |_,_,.nil=>rfl
 |_,_,.cons _ b=>by show _+1=_+1;rw[uS b]
theorem Qi{P:Params}{h:Heap}{v:Value}{ds:List WData}(x:Well P h v (.list ds)):∃(a:Addr) (vs:Lu),v=.ref a/\h.get? a=some {cls:=.type "list",data:=.seq vs.toArray}/\Ce P h vs ds:=by
 cases x with
 |list ho sW=>exact⟨_,_,rfl,ho,sW⟩
theorem Ku{P:Params}{h:Heap}{v:Value}{ds:List WData}(x:Well P h v (.tuple ds)):∃(a:Addr) (vs:Lu),v=.ref a/\h.get? a=some {cls:=.type "tuple",data:=.seq vs.toArray}/\Ce P h vs ds:=by
 cases x with
 |tuple ho sW=>exact⟨_,_,rfl,ho,sW⟩
theorem Qj{P:Params}{h:Heap}{us:Lu}{d:WData}{ds:List WData}(x:Ce P h us (d::ds)):∃(v:Value) (vs:Lu),us=v::vs/\Well P h v d/\Ce P h vs ds:=by
 cases x with
 |cons a b=>exact⟨_,_,rfl,a,b⟩
theorem GX{n:Nat}(h:n<=1048576):n<=sizeLine:=bK h (by decide)
section
variable {P:Params} {h:Heap}
mutual
theorem UK:∀(d:WData) (v:Value),Well P h v d->GN d=true->d.weight<=1048576->∃A:La,LU A v/\∀a∈A,yL h A a
 |.none,_,x,_,_=>by cases x;exact⟨[],trivial,fun a m=>absurd m (by simp)⟩
 |.bool b,_,x,_,_=>by cases x;exact⟨[],trivial,fun a m=>absurd m (by simp)⟩
 |.int i,_,x,_,_=>by cases x;exact⟨[],trivial,fun a m=>absurd m (by simp)⟩
 |.str s,_,x,_,_=>by cases x;exact⟨[],trivial,fun a m=>absurd m (by simp)⟩
 |.bytes b,_,x,_,_=>by cases x;exact⟨[],trivial,fun a m=>absurd m (by simp)⟩
 |.list ds,_,x,p,z=>by
  obtain⟨a,vs,rfl,ho,sW⟩:=Qi x;have z2:zB ds<=1048576:=z;obtain⟨A,h1,h2⟩:=Gb ds _ sW p fun d hd=>bK (Cg hd) z2;have k:∀b∈A,b∈a::A:=fun b hb=>aD _ hb;refine⟨a::A,aF ..,fun b hb=>?_⟩;rcases aW.mp hb with e|m
  .rw[e];exact⟨vs,GX (by rw[uS sW];exact bK (Jd ds) z2),fun u hu=>(h1 u hu).mono k,.inl ho⟩
  .exact(h2 b m).mono k
 |.tuple ds,_,x,p,z=>by
  obtain⟨a,vs,rfl,ho,sW⟩:=Ku x;have z2:zB ds<=1048576:=z;obtain⟨A,h1,h2⟩:=Gb ds _ sW p fun d hd=>bK (Cg hd) z2;have k:∀b∈A,b∈a::A:=fun b hb=>aD _ hb;refine⟨a::A,aF ..,fun b hb=>?_⟩;rcases aW.mp hb with e|m
  .rw[e];exact⟨vs,GX (by rw[uS sW];exact bK (Jd ds) z2),fun u hu=>(h1 u hu).mono k,.inr ho⟩
  .exact(h2 b m).mono k
 |.float _,_,_,p,_=>fK (show false=true from p)
 |.dict _,_,_,p,_=>fK (show false=true from p)
 |.bytearray _,_,_,p,_=>fK (show false=true from p)
 |.set _,_,_,p,_=>fK (show false=true from p)
 |.frozenset _,_,_,p,_=>fK (show false=true from p)
 |.obj _ _,_,_,p,_=>fK (show false=true from p)
theorem Gb:∀(ds:List WData) (vs:Lu),Ce P h vs ds->Jo ds=true->(∀d∈ds,d.weight<=1048576)->∃A:La,(∀u∈vs,LU A u)/\∀a∈A,yL h A a
 |[],_,x,_,_=>by cases x;exact⟨[],fun u m=>absurd m (by simp),fun a m=>absurd m (by simp)⟩
 |d::ds,_,x,p,z=>by
  obtain⟨v,vs,rfl,x1,x2⟩:=Qj x;have q:GN d=true/\Jo ds=true:=FO.mp p;obtain⟨A,a1,a2⟩:=UK d v x1 q.1 (z d (aF ..));obtain⟨B,b1,b2⟩:=Gb ds vs x2 q.2 fun e he=>z e (aD _ he);have kA:∀b∈A,b∈A++B:=fun b hb=>aN.mpr (.inl hb);have kB:∀b∈B,b∈A++B:=fun b hb=>aN.mpr (.inr hb);refine⟨A++B,fun u hu=>?_,fun b hb=>?_⟩
  .rcases aW.mp hu with e|m
   .rw[e];exact a1.mono kA
   .exact(b1 u m).mono kB
  .rcases aN.mp hb with m|m
   .exact(a2 b m).mono kA
   .exact(b2 b m).mono kB
end
end
def ZC(o:Obj):Option HO:=match o.data with
 |.seq vs _=>if (o.cls==uJ "list")=true then some (.kN o (.lst (vs.toList.map Wl)))else some (.kN o (.tup (vs.toList.map Wl)))
 |_=>none
def xX(K:aX)(h:Heap)(A:La):Hp:=fun b=>if b∈A then (if (K.lookup b).isNone=true then (h.get? b).bind ZC else none)else none
def AE(H:Hp):Prop:=∀b,H b=none∨∃o u,H b=some (.kN o u)
theorem Zb(vs:Lu):ZC {cls:=.type "list",data:=.seq vs.toArray}=some (.kN {cls:=.type "list",data:=.seq vs.toArray} (.lst (vs.map Wl))):=by show(if (uJ "list"==uJ "list")=true then some (HO.kN {cls:=.type "list",data:=.seq vs.toArray} (.lst (vs.toArray.toList.map Wl)))else some (HO.kN {cls:=.type "list",data:=.seq vs.toArray} (.tup (vs.toArray.toList.map Wl))))=_;rw[if_pos (beq_self_eq_true _)]
theorem Za(vs:Lu):ZC {cls:=.type "tuple",data:=.seq vs.toArray}=some (.kN {cls:=.type "tuple",data:=.seq vs.toArray} (.tup (vs.map Wl))):=by show(if (uJ "tuple"==uJ "list")=true then some (HO.kN {cls:=.type "tuple",data:=.seq vs.toArray} (.lst (vs.toArray.toList.map Wl)))else some (HO.kN {cls:=.type "tuple",data:=.seq vs.toArray} (.tup (vs.toArray.toList.map Wl))))=_;rw[if_neg (by decide)]
section
variable {P:dJ} {w:World} {K:aX} {h:Heap} {A:La}
theorem Kh{b:Addr}{o:Obj}(hb:b∈A)(hk:K.lookup b=none)(e:h.get? b=some o):xX K h A b=ZC o:=by unfold xX;rw[if_pos hb,hk,if_pos (show(none:Option Obj).isNone=true from rfl),e]<;>rfl
theorem YL{b:Addr}{u:HO}(q:xX K h A b=some u):b∈A/\K.lookup b=none:=by
 unfold xX at q;by_cases hb:b∈A
 .rw[if_pos hb]at q;cases hk:K.lookup b with
  |none=>exact⟨hb,rfl⟩
  |some o=>rw[hk,if_neg (by simp)]at q;cases q
 .rw[if_neg hb]at q;cases q
theorem Kg(ar:∀a∈A,yL h A a){b:Addr}{u:HO}(q:xX K h A b=some u):K.lookup b=none/\∃vs:Lu,vs.length<=sizeLine/\(∀u∈vs,LU A u)/\
  ((h.get? b=some {cls:=.type "list",data:=.seq vs.toArray}/\u=.kN {cls:=.type "list",data:=.seq vs.toArray} (.lst (vs.map Wl)))∨
   (h.get? b=some {cls:=.type "tuple",data:=.seq vs.toArray}/\u=.kN {cls:=.type "tuple",data:=.seq vs.toArray} (.tup (vs.map Wl)))):=by
 obtain⟨hb,hk⟩:=YL q
 obtain⟨vs,h1,h2,h3⟩:=ar b hb
 refine⟨hk,vs,h1,h2,?_⟩
 rcases h3 with e|e
 .rw[Kh hb hk e,Zb]at q;exact .inl ⟨e,(bC q).symm⟩
 .rw[Kh hb hk e,Za]at q;exact .inr ⟨e,(bC q).symm⟩
theorem LQ(ar:∀a∈A,yL h A a):AE (xX K h A):=fun b=>by
 cases q:xX K h A b with
 |none=>exact .inl rfl
 |some u=>
  obtain⟨_,vs,_,_,⟨_,e⟩|⟨_,e⟩⟩:=Kg ar q
  .exact .inr ⟨_,_,by rw[e]⟩
  .exact .inr ⟨_,_,by rw[e]⟩
theorem az(ar:∀a∈A,yL h A a):An P w (xX K h A) h:=fun b u q=>by
 obtain⟨_,vs,h1,h2,⟨e,rfl⟩|⟨e,rfl⟩⟩:=Kg ar q
 .exact⟨e,by rw[aA];exact h1,vs,_,vV h2,e⟩
 .exact⟨e,by rw[aA];exact h1,vs,vV h2,_,e,rfl,_,rfl⟩
theorem Ju{c c':Value}{vs us:Lu}(e:(some {cls:=c,data:=.seq vs.toArray}:Option Obj)=some {cls:=c',data:=.seq us.toArray}):c=c'/\vs=us:=by have e1:=bC e;have e2:c=c':=gL Obj.cls e1;have e3:FN vs.toArray=FN us.toArray:=gL Obj.data e1;injection e3 with e4;refine⟨e2,?_⟩;have e5:=gL Array.toList e4;simpa using e5
theorem acI(KX:K.In h)(ar:∀a∈A,yL h A a){a:Addr}{vs:Lu}(ha:a∈A)(e:h.get? a=some {cls:=.type "list",data:=.seq vs.toArray}):(∀u∈vs,LU A u)/\iY K (xX K h A) a (vs.map Wl):=by
 obtain⟨us,h1,h2,h3⟩:=ar a ha
 have hu:us=vs:=by
  rcases h3 with q|q
  .rw[e]at q;exact(Ju q).2.symm
  .rw[e]at q;exact absurd (FD (Ju q).1) (by decide)
 subst hu;refine⟨h2,?_⟩;cases hk:K.lookup a with
 |none=>exact .inl (.inr ⟨_,by rw[Kh ha hk e,Zb]⟩)
 |some o=>have e2:=KX a o hk;rw[e]at e2;obtain rfl:=bC e2;exact .inr ⟨_,us.toArray,_,hk,rfl,rfl,rfl,by rw[cD];exact h1,by simpa using vV h2⟩
theorem acH(KX:K.In h)(ar:∀a∈A,yL h A a){a:Addr}{vs:Lu}(ha:a∈A)(e:h.get? a=some {cls:=.type "tuple",data:=.seq vs.toArray}):(∀u∈vs,LU A u)/\Wj K (xX K h A) a (vs.map Wl):=by
 obtain⟨us,h1,h2,h3⟩:=ar a ha
 have hu:us=vs:=by
  rcases h3 with q|q
  .rw[e]at q;exact absurd (FD (Ju q).1) (by decide)
  .rw[e]at q;exact(Ju q).2.symm
 subst hu;refine⟨h2,?_⟩;cases hk:K.lookup a with
 |none=>exact .inl (.inr ⟨_,by rw[Kh ha hk e,Za]⟩)
 |some o=>have e2:=KX a o hk;rw[e]at e2;obtain rfl:=bC e2;exact .inr ⟨_,us.toArray,_,hk,rfl,rfl,by rw[cD];exact h1,by simpa using vV h2⟩
mutual
theorem qv{Pm:Params}(KX:K.In h)(ar:∀a∈A,yL h A a):∀(d:WData) (v:Value),Well Pm h v d->GN d=true->LU A v->Dw K (xX K h A) (Wl v) d
 |.none,_,x,_,_=>by cases x;exact .iU
 |.bool b,_,x,_,_=>by cases x;exact .bl b
 |.int i,_,x,_,_=>by cases x;exact .int i
 |.str s,_,x,_,_=>by cases x;exact .str s
 |.bytes b,_,x,_,_=>by cases x;have z:=Dw.Wi (K:=K) (H:=xX K h A) b.toArray;exact z
 |.list ds,_,x,p,hu=>by obtain⟨a,vs,rfl,ho,sW⟩:=Qi x;obtain⟨h2,hs⟩:=acI KX ar hu ho;exact .lst hs (Vj KX ar ds _ sW p h2)
 |.tuple ds,_,x,p,hu=>by obtain⟨a,vs,rfl,ho,sW⟩:=Ku x;obtain⟨h2,hs⟩:=acH KX ar hu ho;exact .tup hs (Vj KX ar ds _ sW p h2)
 |.float _,_,_,p,_=>fK (show false=true from p)
 |.dict _,_,_,p,_=>fK (show false=true from p)
 |.bytearray _,_,_,p,_=>fK (show false=true from p)
 |.set _,_,_,p,_=>fK (show false=true from p)
 |.frozenset _,_,_,p,_=>fK (show false=true from p)
 |.obj _ _,_,_,p,_=>fK (show false=true from p)
theorem Vj{Pm:Params}(KX:K.In h)(ar:∀a∈A,yL h A a):∀(ds:List WData) (vs:Lu),Ce Pm h vs ds->Jo ds=true->(∀u∈vs,LU A u)->yK K (xX K h A) (vs.map Wl) ds
 |[],_,x,_,_=>by cases x;exact .nil
 |d::ds,_,x,p,hu=>by obtain⟨v,vs,rfl,x1,x2⟩:=Qj x;have q:GN d=true/\Jo ds=true:=FO.mp p;exact .cons (qv KX ar d v x1 q.1 (hu _ (aF ..))) (Vj KX ar ds vs x2 q.2 fun u m=>hu u (aD _ m))
end
end
theorem JM{P:dJ}{w:World}{K:aX}{mg mb:Str->Option Value}{CX:MS}{k:Nat}{fa:Addr}{fd:oI}{ps:List Str}{sp:Sp}{s₁:aZ}{vals:Lu}{ds:List WData}{R:IV}{cl:Str->Option Addr}{d0:WData}
  (KX:K.In s₁.heap) (MJ:s₁.heap.Ns iS mg) (hb:s₁.heap.Ns builtinsNs mb) (hbb:∀x:Str,x≠"__name__"->mb x=pZ x) (aaE:s₁.heap.NoLimit) (hg:s₁.gens= #[])
  (ug:Ce w.params s₁.heap vals ds) (Pl:Jo ds=true) (hwt:∀d∈ds,d.weight<=1048576) (hr:oF k AI)
  (F:∀aT:Heap,K.In aT->aT.Ns iS mg->eN P w K mg aT CX k fa fd ps sp) (M7:∀(s:aZ) (us:Lu),us.length=ps.length->NL s fd ⟨us,[]⟩ (ps.zip us)) (hlen:ds.length=ps.length)
  (VI:∀(H:Hp) (xs:Lv),AE H->yK K H xs ds->sp xs H (fun v H'=>Dw K H' v d0) fun _ _ _=>False)
  (N9:∀H e s',CX [] H s₁ (fun _ _ _=>False) e s'->False):
  codeAny (model P w) AI (.call (.ref fa) ⟨vals,[]⟩) (fun r s'=>∃u as,r=.ok (.ret u)/\ReadsW R cl s'.heap u d0 as/\OldK s₁.heap s'.heap/\s'.os=s₁.os/\Ox s'.gens) s₁:=by
 obtain⟨A,ho,ar⟩:=Gb ds vals ug Pl hwt
 have hO:AE (xX K s₁.heap A):=LQ ar
 have iW:An P w (xX K s₁.heap A) s₁.heap:=az ar
 have hS:=Vj KX ar ds vals ug Pl ho
 have hV:=vV ho
 have hK:∀b u,xX K s₁.heap A b=some u->K.lookup b=none:=fun b u q=>(Kg ar q).1
 have tw:∀{b:Addr} {o:Obj} {es:Array qB} {ep:Nat},s₁.heap.get? b=some o->o.data=.dict es ep->xX K s₁.heap A b=none:=fun{b o es ep} e d=>by
  cases q:xX K s₁.heap A b with
  |none=>rfl
  |some u=>
   obtain⟨_,vs,_,_,⟨e2,_⟩|⟨e2,_⟩⟩:=Kg ar q
   .rw[e2]at e;cases e;have d':FN vs.toArray _=Data.dict es ep:=d;cases d'
   .rw[e2]at e;cases e;have d':FN vs.toArray _=Data.dict es ep:=d;cases d'
 generalize xX K s₁.heap A=H at hO iW hS hK tw
 have II:∀{b:Addr} {o:Obj},s₁.heap.get? b=some o->H b=none->(Va s₁.heap H).get? b=some o:=fun e n=>SM e n
 have S6:∀{b:Addr} {m:Str->Option Value},s₁.heap.Ns b m->(Va s₁.heap H).Ns b m:=fun{b m} ⟨o,es,ep,e,d,r⟩=>⟨o,es,ep,II e (tw e d),d,r⟩
 have nK:∀b o,K.lookup b=some o->H b=none:=fun b o e=>by
  cases q:H b with
  |none=>rfl
  |some u=>rw[hK b u q]at e;cases e
 have hKb:K.In (Va s₁.heap H):=fun b o e=>II (KX b o e) (nK b o e)
 have hM:Mod K mg (Va s₁.heap H):=⟨hKb,S6 MJ,⟨mb,S6 hb,hbb⟩,let ⟨mc,h1,h2⟩:=aaE;⟨mc,S6 h1,h2⟩⟩
 have e0:FC P w K mg (Va s₁.heap H) AI [] s₁ H:=⟨rfl,hM,fun b o e=>YK e,Jh (KZ _ _),trivial,fun b hb=>absurd (show b∈([]:La) from hb) (by simp),iW,.of_eq hg⟩
 have hl:vals.length=ps.length:=by rw[uS ug];exact hlen
 refine Oq ((F _ hKb (S6 MJ)).run AI [] s₁ H ⟨vals,[]⟩ vals (vals.map Wl) _ _ hr e0 (M7 s₁ vals hl) hV (VI H _ hO hS)) fun r s' x=>?_
 cases r with
 |error e=>exact(N9 H e s' x).elim
 |ok fl=>
  cases fl with
  |next=>exact fP x
  |brk=>exact fP x
  |cont=>exact fP x
  |ret u=>
   obtain⟨v,H',os,bare,un,K4,r',q⟩:=x
   have kept:∀b o,s₁.heap.get? b=some o->s'.heap.get? b=some o:=fun b o e=>by
    cases q2:H b with
    |none=>exact un.keep b o e q2 (by intro z;exact absurd (show b∈([]:La) from z) (by simp)) (by simp)
    |some u2=>
     rcases hO b with z|⟨ob,u3,z⟩
     .rw[q2]at z;cases z
     .have z2:=un.Nc b ob _ z;obtain⟨e1,_⟩:=iW b _ z;obtain⟨e2,_⟩:=K4 b _ z2;rw[e]at e1;cases e1;exact e2
   have KX':K.In s'.heap:=fun b o e=>kept b o (KX b o e);obtain⟨as,J3⟩:=Dw.reads (R:=R) (cl:=cl) K4 KX' d0 v u q r';exact⟨u,as,rfl,J3,OldK.of_keep kept,os,bare⟩
theorem Mt{ds:List WData}(h:WData.layableAll ds=true):∀d∈ds,d.weight<=1048576:=fun d hd=>(PySem.W.layableW_iff.mp (cX.mp h d hd)).2.2
theorem Nh:∀(cs:List Codec) (a:zF cs),(tO cs a).length=cs.length
 |[],_=>rfl
 |c::cs,a=>by show(tO cs a.2).length+1=cs.length+1;rw[Nh cs a.2]
theorem JB{r:OpenSpec}{k:Nat}{q:dJ}{loose:List Str}{XP:(Str->Option Value)->Heap->Prop}{YP:World->Heap->Prop}{d:DefRec}{K:Params->aX}{CX:World->MS}{ps:List Str}{sp:World->Sp}
  (RZ:r.wellSaid=true) (hdf:d.params.defaults=[]) (hlen:r.args.length=ps.length) (hr:oF k AI)
  (hY:∀(w:World) (h:Heap),YP w h->(K w.params).In h)
  (F:∀(w:World) (mg:Str->Option Value) (fa:Addr) (h:Heap),YP w h->(K w.params).In h->h.Ns iS mg->mg d.name=some (.ref fa)->
   ∃fd:oI,(∀(s:aZ) (us:Lu),us.length=ps.length->NL s fd ⟨us,[]⟩ (ps.zip us))/\
    ∀aT:Heap,(K w.params).In aT->aT.Ns iS mg->eN r.prog w (K w.params) mg aT (CX w) k fa fd ps (sp w))
  (VI:∀(w:World) (H:Hp) (xs:Lv) (a:zF r.args),AE H->VD r.args a=true->Jk r.args r.asked a=true->yK (K w.params) H xs (tO r.args a)->
   sp w xs H (fun v H'=>Dw (K w.params) H' v (r.ret.enc (Jk r.args r.f a))) fun _ _ _=>False)
  (N9:∀(w:World) (H:Hp) (s:aZ) (e:Value) (s':aZ),CX w [] H s (fun _ _ _=>False) e s'->False):
  NF q loose XP YP r d [] (fun f vs=>PySem.call f vs):=by
 intro w Qq s₁ mg mb G Y fa o pm cd doc dV kV ho hd hcd hD hmg hg args vals as y8 aaF J3 ug hlo
 obtain⟨a,e1,e2⟩:=PySem.W.os_pre_some y8
 obtain⟨e3,hwi⟩:=Codec.encAll_of_decAll r.args args a e1
 subst e3
 have KX:=hY w _ Y
 obtain⟨fd,hb,hF⟩:=F w mg fa _ Y KX G.T.g hmg
 refine PySem.W.enter_call (Oq (JM (R:=[]) (cl:=classAt Qq.heap) (d0:=r.ret.enc (Jk r.args r.f a)) KX G.T.g G.T.b G.T.builtins G.T.nolimit hg ug (Qw _ _) (Mt aaF) hr hF hb (by rw[Nh];exact hlen)
  (fun H xs hO hS=>VI w H xs a hO hwi e2 hS) fun H e s'=>N9 w H s₁ e s') fun r' s' hq=>?_)
 obtain⟨u,as',rfl,h1,h2,h3,h4⟩:=hq
 exact⟨.inl ⟨u,_,as',rfl,fun _=>rfl,h1,(OpenSpec.post_iff RZ hwi _ _).mpr rfl,fun z=>fK (show false=true from z)⟩,h2,h3,h4⟩
theorem BN{r:OpenSpec}{k:Nat}{q:dJ}{loose:List Str}{XP:(Str->Option Value)->Heap->Prop}{YP:World->Heap->Prop}{d:DefRec}{K:Params->aX}{CX:MS}{ps:List Str}{sp:aX->Sp}
  (RZ:r.wellSaid=true) (hdf:d.params.defaults=[]) (hlen:r.args.length=ps.length) (hr:oF k AI)
  (hY:∀(w:World) (h:Heap),YP w h->(K w.params).In h)
  (F:∀(w:World) (mg:Str->Option Value) (fa:Addr) (h:Heap),YP w h->(K w.params).In h->h.Ns iS mg->mg d.name=some (.ref fa)->
   ∃fd:oI,(∀(s:aZ) (us:Lu),us.length=ps.length->NL s fd ⟨us,[]⟩ (ps.zip us))/\
    ∀aT:Heap,(K w.params).In aT->aT.Ns iS mg->eN r.prog w (K w.params) mg aT CX k fa fd ps (sp (K w.params)))
  (VI:∀(K:aX) (H:Hp) (xs:Lv) (a:zF r.args),AE H->VD r.args a=true->Jk r.args r.asked a=true->yK K H xs (tO r.args a)->
   sp K xs H (fun v H'=>Dw K H' v (r.ret.enc (Jk r.args r.f a))) fun _ _ _=>False)
  (N9:∀(H:Hp) (s:aZ) (e:Value) (s':aZ),CX [] H s (fun _ _ _=>False) e s'->False):
  NF q loose XP YP r d [] (fun f vs=>PySem.call f vs):=
 JB (K:=K) (CX:=fun _=>CX) (sp:=fun w=>sp (K w.params)) RZ hdf hlen hr hY F (fun w H xs a h1 h2 h3 h4=>VI (K w.params) H xs a h1 h2 h3 h4) fun _ H s e s'=>N9 H s e s'
end L2
end
namespace L2
open PySem PySem.Spec PyProof.Rows
variable {C a:Addr} {e:Expr} {kvs:List (Int×Int)} {es:List Expr} {ps:List Str} {k:Nat} {p pos:Pos} {sp:Sp} {x:Str}
def BS(t:TS):TS:=fun D σ H=>t D σ H∨bu t D σ H
section
variable {X:Cx}
theorem tS{st:Stmt}{t:TS}(h:PS X st t):PS X st (BS t):=fun aI s σ H D I q=>q.elim (h aI s σ H D I) (XY h aI s σ H D I)
def NZ:TE:=fun _ H Q=>∀p o,H p=none->Q (.ref p) (upd H p (.kN o (.dK [])))
theorem zX:PE X (.Dict [] [] pos) NZ:=fun aI s σ H Q I h=>
 Sr ⟨.ref s.heap.objs.size,_,I.laid (a:=s.heap.objs.size) (o:=.kN {cls:=.type "dict",data:=.dict #[]} (.dK [])) (t':=s.toks) (fun _ _ q=>bU _ q) (aY _)
  ⟨cG _ rfl,Nk s.heap I.big⟩,rfl,h _ _ (I.iW.fresh (aY _))⟩
def WY(t:TE):TE:=fun σ H Q=>t σ H fun x H1=>E2 fun d u=>A4 (x=.ref d) (H1 d=some u) (bj (some u)) (∀o,Q x (upd H1 d (.kN o u)))
theorem Ha{t:TE}(h:PE X e t):PE X e (WY t):=fun aI s σ H Q I q=>iX (h aI s σ H _ I q) fun v s1 ⟨x,H1,I1,r,d,u,ex,hd,mu,k⟩=>by obtain⟨o,I2⟩:=I1.lock hd mu;exact⟨x,_,I2,r,k o⟩
inductive mW(P:dJ)(w:World)(K:aX)(mg:Str->Option Value)(aT:Heap)(k:Nat)(x:Str)(ps:List Str)(sp:Sp):Prop|mk
 f fd:mg x=some (.ref f)->gZ K (.ref f)=true->tL K fd ps []->eN P w K mg aT lM k f fd ps sp->mW P w K mg aT k x ps sp
def JJ(sp:Sp)(t:TA):TE:=fun σ H Q=>t σ H fun vs H1=>sp vs H1 Q E0
theorem dW{t:TA}{p pos:Pos}(F:mW X.prog X.w X.K X.mg X.aT k x ps sp)(hr:oF k X.A)(ha:PA X (e::es) t)(hg:Gl X x:=by rfl)(HS:(x==("__debug__":Str))=false:=by decide)
  (he:dD (e::es) X.env=(false,eval e X.env)::dD es X.env:=by rfl) (Pl:(pL pos (dD es X.env)).any (·.1)=false:=by rfl):PE X (.Call (.Name x p) (e::es) [] pos) (JJ sp t):=by
 obtain⟨f,fd,h1,h2,h3,h4⟩:=F
 intro aI s σ H Q I h
 refine rB (Fe I hg h1 ?_ HS)
 refine tM (h₀:=X.aT) I.ok.mod.ud h2 (iX (ha pos aI s σ H _ I h) fun us s1 ⟨vs,H1,I1,r,q⟩=>⟨I1.Yv,?_⟩) he Pl
 exact Tq (dvs:=[]) (ds:=[]) h4 hr h3 .nil Qz I1 r (by rw[dN];exact q)
def Y0(P:dJ)(w:World)(K:aX)(mg:Str->Option Value)(aT:Heap)(A:gQ)(i:Nat)(t:TA):TE:=fun σ H Q=>∃f,A3 (σ[i]? =some (some (.ref f))) (gZ K (.ref f)=true)
 (E4 fun k fd ps sp=>A4 (oF k A) (tL K fd ps []) (eN P w K mg aT lM k f fd ps sp) (t σ H fun vs H1=>sp vs H1 Q E0))
theorem QA{i:Nat}{x:Str}{t:TA}{p pos:Pos}(ha:PA X (e::es) t)(hN:X.N[i]? =some x:=by rfl)(hv:ro X.env.scope x:=by first|exact Dk rfl|exact yC (Dk rfl)|exact yC (yC rfl))(hd:(x==("__debug__":Str))=false:=by decide)
  (hcd:(x==("__classdict__":Str))=false:=by decide) (he:dD (e::es) X.env=(false,eval e X.env)::dD es X.env:=by rfl) (Pl:(pL pos (dD es X.env)).any (·.1)=false:=by rfl):
  PE X (.Call (.Name x p) (e::es) [] pos) (Y0 X.prog X.w X.K X.mg X.aT X.A i t):=by
 intro aI s σ H Q I h
 obtain⟨f,hf,hk,k,fd,ps,sp,hr,hb,F,h⟩:=h
 refine rB (iX (PX (X:=X) hN hv hd hcd aI s σ H (fun v H'=>v=.ref f/\H'=H) I ⟨_,hf,rfl,rfl⟩) fun u s0 ⟨v,H0,I0,rv,ev,eH⟩=>?_)
 subst ev eH
 obtain rfl:u=dE f:=rv
 refine tM (h₀:=X.aT) I0.ok.mod.ud hk (iX (ha pos aI s0 σ H0 _ I0 h) fun us s1 ⟨vs,H1,I1,r,q⟩=>⟨I1.Yv,?_⟩) he Pl
 exact Tq (dvs:=[]) (ds:=[]) F hr hb .nil Qz I1 r (by rw[dN];exact q)
inductive oG(P:dJ)(w:World)(K:aX)(mg:Str->Option Value)(aT:Heap)(k:Nat)(C:Addr)(m:Str)(ps:List Str)(sp:Sp):Prop|mk
 f fd:MY K C m f->tL K fd ps []->eN P w K mg aT lM k f fd ps sp->oG P w K mg aT k C m ps sp
def R6(C:Addr)(m:Str)(sp:Sp)(ta:TE)(t:TA):TE:=fun σ H Q=>ta σ H fun x H1=>E3 fun a dx fs=>A4 (x=.ref a) (H1 a=some (.ins C dx fs)) (fs.lookup m=none) (t σ H1 fun vs H2=>sp (x::vs) H2 Q E0)
theorem nL{pl:Sem Bool}{m:Str}{o:Expr}{ta:TE}{t:TA}{apos pos:Pos}(he:PE X o ta)(c:AX X.K C)(F:oG X.prog X.w X.K X.mg X.aT k C m ps sp)(hr:oF k X.A)(ha:PA X (e::es) t)
  (Wh:dD (e::es) X.env=(false,eval e X.env)::dD es X.env:=by rfl) (Pl:(pL pos (dD es X.env)).any (·.1)=false:=by rfl)
  (ht:eval (.Call (.Attribute o m apos) (e::es) [] pos) X.env=(do
   let ov<-eval o X.env
   standAt apos.atName
   let (f,first)<-holding [ov] (Hw ov m pl)
   BC pos f first (pL pos (dD (e::es) X.env)) (Ot pos (yW [] X.env))):=by rfl):
  PE X (.Call (.Attribute o m apos) (e::es) [] pos) (R6 C m sp ta t):=by
 obtain⟨f,fd,h1,h2,h3⟩:=F
 intro aI s σ H Q I h
 refine YA (pl:=pl) (sp:=sp) (dvs:=[]) (ds:=[]) he c h1 h3 hr h2 .nil Qz ha Wh Pl ht aI s σ H Q I ?_
 have e:R6 C m sp ta t=FU C m sp [] E0 ta t:=by unfold R6 FU;simp only[dN]
 rw[e]at h
 exact h
theorem Cr{pl:Sem Bool}{m:Str}{o:Expr}{ta:TE}{apos pos:Pos}(he:PE X o ta)(c:AX X.K C)(F:oG X.prog X.w X.K X.mg X.aT k C m ps sp)(hr:oF k X.A)
  (ht:eval (.Call (.Attribute o m apos) [] [] pos) X.env=(do
   let ov<-eval o X.env
   standAt apos.atName
   let (f,first)<-holding [ov] (Hw ov m pl)
   BC pos f first (pL pos (dD [] X.env)) (Ot pos (yW [] X.env))):=by rfl):
  PE X (.Call (.Attribute o m apos) [] [] pos) (R6 C m sp ta oW):=by
 obtain⟨f,fd,h1,h2,h3⟩:=F
 exact PY (pl:=pl) (sp:=sp) (dvs:=[]) (ds:=[]) he c h1 h3 hr h2 .nil Qz ht
inductive FA(P:dJ)(w:World)(K:aX)(mg:Str->Option Value)(aT:Heap)(k:Nat)(x:Str)(C:Addr)(ps:List Str)(sp:Sp):Prop|mk
 f fd:mg x=some (.ref C)->Mk K C f->tL K fd ps []->eN P w K mg aT lM k f fd ps sp->FA P w K mg aT k x C ps sp
def WX(C:Addr)(sp:Sp)(t:TA):TE:=fun σ H Q=>t σ H fun vs H1=>∀x dx,H1 x=none->H1 dx=none->dx≠x->sp (.ref x::vs) (upd (upd H1 dx (.own x)) x (.ins C dx [])) (fun v H2=>v=.iU/\Q (.ref x) H2) E0
theorem cq{t:TA}{p pos:Pos}(F:FA X.prog X.w X.K X.mg X.aT k x C ps sp)(hr:oF (k+1) X.A)(ha:PA X (e::es) t)(hg:Gl X x:=by rfl)
  (HS:(x==("__debug__":Str))=false:=by decide) (he:dD (e::es) X.env=(false,eval e X.env)::dD es X.env:=by rfl) (Pl:(pL pos (dD es X.env)).any (·.1)=false:=by rfl):PE X (.Call (.Name x p) (e::es) [] pos) (WX C sp t):=by
 obtain⟨f,fd,h0,h1,h2,h3⟩:=F
 intro aI s σ H Q I h
 refine YB (sp:=sp) (dvs:=[]) (ds:=[]) h1 h3 hr hg h0 h2 .nil Qz ha HS he Pl aI s σ H Q I ?_
 have e:WX C sp t=FV C sp [] E0 t:=by unfold WX FV;simp only[dN]
 rw[e]at h
 exact h
theorem kh{p pos:Pos}(F:FA X.prog X.w X.K X.mg X.aT k x C ps sp)(hr:oF (k+1) X.A)(hg:Gl X x:=by rfl)
  (HS:(x==("__debug__":Str))=false:=by decide):PE X (.Call (.Name x p) [] [] pos) (WX C sp oW):=by
 obtain⟨f,fd,h0,h1,h2,h3⟩:=F
 exact PZ (sp:=sp) (dvs:=[]) (ds:=[]) h1 h3 hr hg h0 h2 .nil Qz HS
def fz(H:Hp)(a:Addr)(y z:V)(Q:VK):Prop:=
 (∃kvs k,H a=some (.dK kvs)/\y=kV k/\kvs.length<sizeLine/\(∀v,eO kvs k=some v->Q v H)/\(eO kvs k=none->Q z (upd H a (.dK (kG kvs k z)))))∨
 ∃kvs k b,H a=some (.dT kvs)/\y=.ref b/\H b=some (.tup (k.map kV))/\kvs.length<sizeLine/\(∀v,eO kvs k=some v->Q v H)/\(eO kvs k=none->Q z (upd H a (.dT (kG kvs k z))))
def gu(td ty tx:TE):TE:=fun σ H Q=>td σ H fun x H1=>∃a,A3 (x=.ref a) (vg H1 a) (ty σ H1 fun y H2=>tx σ H2 fun z H3=>fz H3 a y z Q)
end
section
variable {prog:dJ} {w:World} {K:Type} [DecidableEq K] {knd:HeapKind prog w K} {A:gQ} {E:Value->aZ->Prop} {s:aZ}
theorem Br{d:Addr}{xs:List (K×Addr×Value)}{k:K}{v:Value}{Q:Value->aZ->Prop}(hu:knd.room A)(wI:knd.is s.heap k a)(hm:s.heap.DictOfH knd d xs)
  (h1:∀v,(atKey xs k).map (·.2)=some v->Q v {s with toks:=s.toks+knd.draws k})
  (h2:atKey xs k=none->∀h',h'.DictOfH knd d (storedH xs k a v)->rA d s.heap h'->Q v {s with heap:=h',toks:=s.toks+knd.draws k})
  (hsz:xs.length<=sizeLine):
  wpAny (model prog w) A (BA d (.ref a) v) Q E s:=by
 obtain⟨o,es,ep,ho,hc,hd,he,his,hn⟩:=hm
 unfold BA
 try with_reducible refine uD ?_
 refine aS (knd.pyHash hu wI ?_)
 refine aS (wpAny_dictFind_heap (s:={s with toks:=s.toks+knd.draws k}) hu wI ho hd he his hn ?_ ?_)
 .intro VJ
  have KY:k∉xs.map (·.1):=not_mem_keys_of_get VJ
  refine aS (wpAny_rule (aS (wpAny_updateDictKeys (hz:=by have e:=size_of_entries he;omega) (s:={s with toks:=s.toks+knd.draws k}) ho hd (bO (h2 (zA VJ) _ ⟨_,_,ep+1,BK _ ho (Obj.isFreed_of_dict (IW hd _)),
   hc.mapDictKeys _,IW hd _,?_,?_,?_⟩ (nQ ..))))))
  .rw[VZ (zA VJ)]
   simp[he,entryOfKey]
  .rw[VZ (zA VJ)]
   intro x hx
   rcases aN.mp hx with hx|hx
   .exact knd.keeps (his x hx) ho hd (nQ ..)
   .simp only[aO]at hx
    subst hx
    exact knd.keeps wI ho hd (nQ ..)
  .rw[VZ (zA VJ)]
   rw[aQ,NI]
   refine⟨hn,by simp,?_⟩
   intro x hx y hy
   simp only[bL,lS,aO]at hy
   subst hy
   exact fun e=>KY (e ▸ hx)
 .intro j p hj;refine aS (kM (s:={s with toks:=s.toks+knd.draws k}) ho hd ?_);rw[entry_at he j,hj];exact aS (wpAny_rule (bO (h1 _ (by rw[atKey_of_get hn hj];rfl))))
theorem Fd{d:Addr}(hd:(d==fS)=false)(dflt:Value):
  MeetsIn prog w (Builtin.«dict.setdefault» ⟨[.ref d,.ref a,dflt],[]⟩) (fun A R s=>knd.room A.in1/\∃k xs,knd.is s.heap k a/\s.heap.DictOfH knd d xs/\xs.length<=sizeLine/\
   (∀v,(atKey xs k).map (·.2)=some v->R (.ok (.ret v)) {s with toks:=s.toks+knd.draws k})/\
   (atKey xs k=none->∀h',h'.DictOfH knd d (storedH xs k a dflt)->rA d s.heap h'->R (.ok (.ret dflt)) {s with heap:=h',toks:=s.toks+knd.draws k})):=
 .of_wp fun A R s ⟨hu,k,xs,wI,hm,hz,h1,h2⟩=>by unfold Builtin.«dict.setdefault»;refine aS ?_;unfold Builtin.Dict.keyAndDefault;refine aS (UR hm.typeIs ?_);show wpAny _ _ (pure (d,dE a,some dflt)) _ _ s;refine bO ?_;show wpAny _ _ (if (d==fS)=true then _ else (BA d (.ref a) dflt>>=_)) _ _ s;rw[if_neg (by rw[hd];exact bY)];exact aS (Br hu wI hm (fun v hv=>bO ⟨v,rfl,h1 v hv⟩) (fun hn h' hm' KR=>bO ⟨dflt,rfl,h2 hn h' hm' KR⟩) hz)
end
section
variable {X:Cx} {aI:List (Addr×Obj)} {σ:St} {H:Hp} {s:aZ} {a:Addr} {y z:V} {u r:Value} {A:gQ} {E:Value->aZ->Prop}
theorem Vk{Q:VK}(hu:A.units+1<cLine)(I:dP X aI σ H s)(g:fz H a y z Q)(ry:gC y u)(rz:gC z r):
  wpAny (model X.prog X.w) A (call (.builtin "dict.setdefault") [.ref a,u,r]) (EP X aI σ Q) E s:=by
 rcases g with ⟨kvs,k,e,ey,l,q1,q2⟩|⟨kvs,k,b,e,ey,eb,l,q1,q2⟩
 .subst ey;obtain⟨hz,hd,vs,rel,dd⟩:=UB I.iW e;have r8:vs.length<=sizeLine:=by rw[<-rel.length];exact hz
  have hl:(kG kvs k z).length<=sizeLine:=by have:=rZ kvs k z;omega
  have rv:=rel.val k;refine Cd sD dd.typeIs Hx (Gs _ _ _) (kt_meets_setdefault (gM X.prog X.w) a (Fj ry) hd r) ⟨vs,dd,r8,fun v hv=>?_,fun hn h' IE hs=>?_⟩
  .rw[hv]at rv;cases ev:eO kvs k with
   |none=>rw[ev]at rv;exact fP rv
   |some x=>rw[ev]at rv;exact⟨x,H,I.tok _,rv,q1 x ev⟩
  .have ev:eO kvs k=none:=by
    rw[hn]at rv;cases ev:eO kvs k with
    |none=>rfl
    |some x=>rw[ev]at rv;exact fP rv
   have he:∃q,h'.get? a=some q:=let ⟨q,_,_,hq,_⟩:=IE;⟨q,hq⟩;exact⟨z,_,Bi I (by rw[e];exact True.intro) hs he (EM hl hd (rel.put k rz) IE),rz,q2 ev⟩
 .subst ey;cases (show u=dE b from ry);obtain⟨hz,hd,xs,rel,dd⟩:=TY I.iW e;have r8:xs.length<=sizeLine:=by rw[<-iO rel];exact hz
  have hl:(kG kvs k z).length<=sizeLine:=by have:=rZ kvs k z;omega
  have rv:=rel.val k;refine Cd sD dd.typeIs Hx (Gs _ _ _) (Fd (knd:=wX (gM X.prog X.w)) hd r) ⟨nT hu,k,xs,Ab I.iW eb,dd,r8,fun v hv=>?_,fun hn h' IE hs=>?_⟩
  .rw[hv]at rv;cases ev:eO kvs k with
   |none=>rw[ev]at rv;exact fP rv
   |some x=>rw[ev]at rv;exact⟨x,H,I.tok _,rv,q1 x ev⟩
  .have ev:eO kvs k=none:=by
    rw[hn]at rv;cases ev:eO kvs k with
    |none=>rfl
    |some x=>rw[ev]at rv;exact fP rv
   obtain⟨q,es,ep,hq,g2,g3,g4,_,g5⟩:=IE;refine⟨z,_,Bi (ob:=.dT (kG kvs k z)) I (by rw[e];exact True.intro) hs ⟨q,hq⟩ ⟨hl,hd,_,(rel.put k eb rz).keeps fun c ys ec=>?_,q,es,ep,hq,g2,g3,g4,g5⟩,rz,q2 ev⟩;rw[aH (QQ ec e (fun z=>nomatch z))];exact ec
end
section
variable {X:Cx} {o e f:Expr} {apos sI:Pos} {td ty tx:TE}
theorem Ep(hu:X.A.units+1<cLine)(ho:PE X o td)(he:PE X e ty)(hf:PE X f tx)(m:M2 X o "setdefault" apos e f sI):PE X (.Call (.Attribute o "setdefault" apos) [e,f] [] sI) (gu td ty tx):=by
 intro aI s σ H Q I h
 refine Oo m.aT m.few m.line Pw sD PySem.F.type_dict_setdefault (iX (ho aI s σ H _ I h) fun u s1 ⟨x,H1,I1,rx,a,ex,d,q1⟩=>?_)
 subst ex
 obtain rfl:u=dE a:=rx
 obtain⟨t1,t2,_⟩:=RT I1 d
 refine⟨t1,t2,?_⟩
 rw[m.trees]
 refine qU rfl (Bp (qD (iX (he aI s1 σ H1 _ I1 q1) fun iv s2 ⟨y,H2,I2,ry,q2⟩=>
  qD (iX (hf aI s2 σ H2 _ I2 q2) fun fv s3 ⟨z,H3,I3,rz,g⟩=>Gu ?_))))
 exact Vk hu I3 g ry rz
end
section
variable {X:Cx} {a b c d:Expr} {ta tb tc td:TE} {pos:Pos}
def XA(r r' tq:R2)(ta tb tc td:TE):TT:=fun σ H Q=>ta σ H fun x H1=>tb σ H1 fun y H2=>r x y H2 fun z H3=>∃k,z=.bl k/\
 (if k=true then tc σ H3 fun w' H4=>r' y w' H4 fun z H5=>∃k,z=.bl k/\(if k=true then td σ H5 fun v' H6=>tq w' v' H6 fun z H7=>∃k,z=.bl k/\Q k H7 else Q false H5)else Q false H3)
theorem JS{op QG km:CmpOp}{r r' tq:R2}(ho:Ge X (gD op) r)(AS:Ge X (gD QG) r')(aaA:Ge X (gD km) tq)(ha:PE X a ta)(hb:PE X b tb)(hc:PE X c tc)(hd:PE X d td)
  (hm:lastMarks [op,QG,km] [b,c,d]=false:=by with_unfolding_all rfl):PT X (.Compare a [op,QG,km] [b,c,d] pos) (XA r r' tq ta tb tc td):=by
 intro aI s σ H Q I h
 refine isTrue_chain (iX (ha aI s σ H _ I h) fun v s1 ⟨x,H1,I1,r1,q1⟩=>test_link (iX (hb aI s1 σ H1 _ I1 q1) fun u s2 ⟨y,H2,I2,r2,q2⟩=>
  iX (ho aI s2 σ H2 x y v u _ I2 r1 r2 q2) fun d s3 ⟨z,H3,I3,r3,k,e,q3⟩=>?_)) hm
 subst e
 cases r3
 refine fQ ?_
 cases k with
 |false=>exact ite_ff ⟨H3,I3,q3⟩
 |true=>
  refine ite_tt (test_link (iX (hc aI s3 σ H3 _ I3 q3) fun w' s4 ⟨z',H4,I4,r4,q4⟩=>iX (AS aI s4 σ H4 y z' u w' _ I4 r2 r4 q4) fun d' s5 ⟨z2,H5,I5,r5,k2,e2,q5⟩=>?_));subst e2;cases r5;refine fQ ?_;cases k2 with
  |false=>exact ite_ff ⟨H5,I5,q5⟩
  |true=>refine ite_tt (test_last (iX (hd aI s5 σ H5 _ I5 q5) fun v' s6 ⟨z3,H6,I6,r6,q6⟩=>iX (aaA aI s6 σ H6 z' z3 w' v' _ I6 r4 r6 q6) fun d'' s7 ⟨z4,H7,I7,r7,k3,e3,q7⟩=>?_));subst e3;cases r7;exact fQ ⟨H7,I7,q7⟩
theorem IH{i:Int}(h:i.natAbs<2^70):Qe i<=2^20:=by
 unfold Qe;split
 .exact cI _
 .have:i.natAbs.log2<70:=by
   rcases Nat.eq_zero_or_pos i.natAbs with h0|hp
   .rw[h0];decide
   .exact(Nat.log2_lt (Jg hp)).mpr h
  omega
theorem YE:Ge X (Gr .Mult) (rI (fun i j=>i.natAbs<2^70/\j.natAbs<2^70) fun i j=>.int (i*j)):=
 j5 fun _ _ _ _ _ _ _ hc q=>mul_int q (IntMulOk.of_bits (IH hc.1) (IH hc.2))
end
def wW(m n:Nat×Nat):Prop:=m.1<n.1∨(m.1=n.1/\m.2<n.2)
theorem YR:WellFounded wW:=by
 refine Subrelation.wf (r:=Prod.Lex (· < ·) (· < ·)) ?_ (Prod.lex Nat.lt_wfRel Nat.lt_wfRel).wf;rintro⟨a,b⟩ ⟨c,d⟩ h;rcases h with h|⟨h1,h2⟩
 .exact .left _ _ h
 .have e:a=c:=h1;subst e;exact .right _ h2
section
variable {M:Model} {A:gQ} {s:aZ}
theorem Po{α:Type}{r:α->α->Prop}(wf:WellFounded r){c:Code}{R:Result->aZ->Prop}(hq:c.quiet=true)(I:α->aZ->Prop)
  (turn:∀n s,I n s->wpAny M (A.under c) (M.den c)
   (fun fin s'=>match fin with|.done f=>R (.ok f) s'|.again c'=>c'=c/\∃m,r m n/\I m s') (fun e s'=>R (.error e) s') s)
  (n:α) (h:I n s):codeAny M A c R s:=by
 induction n using wf.induction generalizing s with
 |_ n ih=>
  refine codeAny_of_tree (iE (turn n s h) (fun fin s' hf=>?_) fun _ _ h'=>h');cases fin with
  |done f=>exact hf
  |again c'=>obtain⟨rfl,m,hm,hI⟩:=hf;exact⟨hq,ih m hm hI⟩
end
section
variable {prog:dJ} {w:World} {A:gQ} {s:aZ} {R:Result->aZ->Prop}
theorem Nn{α:Type}{r:α->α->Prop}(wf:WellFounded r){test body orelse env}(I:α->aZ->Prop)
  (turn:∀n s,I n s->
   wpAny (model prog w) A (isTrue test env (eval test env)) (fun b s₂=>
    if b then wpAny (model prog w) A (execs body env) (fun f s₃=>match f with
      |.next|.cont=>∃m,r m n/\I m s₃
      |.brk=>R (.ok .next) s₃
      |.ret v=>R (.ok (.ret v)) s₃) (Cc (model prog w) A env fun e s'=>R (.error e) s') s₂
    else wpAny (model prog w) A (execs orelse env) (fun f s₃=>R (.ok f) s₃) (Cc (model prog w) A env fun e s'=>R (.error e) s') s₂)
    (Cc (model prog w) A env fun e s'=>R (.error e) s') s)
  (n:α) (h:I n s):codeAny (model prog w) A (.whileLoop test body orelse env) R s:=by
 refine Po wf rfl I (fun n s hI=>?_) n h
 show wpAny _ A ((whileTurn test body orelse env).onRaise (fun x=>do noteFrame x env;theTreesLotGoes x)) _ _ s
 refine wpAny_noted ?_
 simp only[whileTurn]
 refine aS (iE (turn n s hI) (fun b s₂ h₂=>?_) fun _ _ h'=>h')
 cases b with
 |false=>simp only[iI,if_false]at h₂ ⊢;exact aS (iE h₂ (fun f s₃ h₃=>bO h₃) fun _ _ h'=>h')
 |true=>
  simp only[if_true]at h₂ ⊢;refine aS (iE h₂ (fun f s₃ h₃=>?_) fun _ _ h'=>h');cases f with
  |next=>exact bO ⟨rfl,h₃⟩
  |cont=>exact bO ⟨rfl,h₃⟩
  |brk=>exact bO h₃
  |ret v=>exact bO h₃
end
section
variable {X:Cx} {pos:Pos}
def WU(c:TT)(tb:TS):TS:=fun D σ H=>∃W:Nat×Nat->St->Hp->Prop,(∃m,W m σ H)/\∀m σ H,W m σ H->
 c σ H fun b H1=>if b=true then ∃N:St->Hp->Prop,(∀σ' H',N σ' H'->∃m',wW m' m/\W m' σ' H')/\tb {D with nx:=N,ct:=N,bk:=D.nx} σ H1 else D.nx σ H1
theorem Qv{c:Expr}{body:List Stmt}{tc:TT}{tb:TS}(hp:PassesOwn (model X.prog X.w) X.A X.env X.xe)(hc:PT X c tc)(hb:EY X body tb):PS X (.While c body [] pos) (WU tc tb):=by
 intro aI s σ H D I h;obtain⟨W,⟨m0,w0⟩,turn⟩:=h;refine wpAny_While (Nn YR (fun n s'=>∃σ' H',dP X aI σ' H' s'/\W n σ' H') ?_ m0 ⟨σ,H,I,w0⟩);rintro n s1 ⟨σ1,H1,I1,w1⟩;refine kO hp (iX (hc aI s1 σ1 H1 _ I1 (turn n σ1 H1 w1)) fun b s2 ⟨H2,I2,q2⟩=>?_);cases b with
 |true=>
  obtain⟨N,hN,q2⟩:=q2;rw[if_pos rfl];refine kO hp (iX (hb aI s2 σ1 H2 _ I2 q2) fun f s3 q3=>?_);cases f with
  |next=>obtain⟨σ3,H3,I3,n3⟩:=q3;obtain⟨m',hm,w3⟩:=hN σ3 H3 n3;exact⟨m',hm,σ3,H3,I3,w3⟩
  |cont=>obtain⟨σ3,H3,I3,n3⟩:=q3;obtain⟨m',hm,w3⟩:=hN σ3 H3 n3;exact⟨m',hm,σ3,H3,I3,w3⟩
  |brk=>exact q3
  |ret v=>exact q3
 |false=>rw[if_neg bY];exact vD ⟨σ1,H2,I2,q2⟩
end
open PySem.AutoSeq1 (wpAny_loadPart')
section
variable {prog:dJ} {w:World} {K:Type} [DecidableEq K] {knd:KeyKind prog w K}
theorem JU{es:List qB}{kvs:List (K×Value)}(h:Pairs knd es kvs):∀{i:Nat} {e:qB},es[i]? =some e->∃kv,kvs[i]? =some kv/\knd.is kv.1 e.key=true/\e.val=kv.2:=by
 induction h with
 |nil=>intro i e q;simp at q
 |cons h1 h2 _ ih=>
  intro i e q;cases i with
  |zero=>cases q;exact⟨_,rfl,h1,h2⟩
  |succ i=>exact ih q
theorem Zj{α β:Type}(p:α->Bool)(f:α->β)(es:Array α):(es.findIdx? p).bind (fun j=>es[j]?.map f)=(es.toList.find? p).map f:=by
 obtain⟨l⟩:=es;simp only[List.findIdx?_toArray,List.getElem?_toArray];induction l with
 |nil=>rfl
 |cons a l ih=>
  rw[List.findIdx?_cons,kF];cases p a with
  |true=>rfl
  |false=>simp only[iI,if_false];rw[<-ih];cases l.findIdx? p<;>rfl
def tR(ev:Value->Value->Bool)(xs ys:List (K×Value)):Bool:=(xs.length==ys.length)&&xs.all fun x=>match mX ys x.1 with|some v=>ev x.2 v|none=>false
theorem To{A:gQ}{E:Value->aZ->Prop}{s:aZ}{nm:String}{b:Addr}{xs ys:List (K×Value)}{ev:Value->Value->Bool}{Q:Bool->aZ->Prop}(ha:(a==fS)=false)(hb:(b==fS)=false)
  (h1:s.heap.DictOf knd a xs) (h2:s.heap.DictOf knd b ys) (he:∀x∈xs,∀y∈ys,SeqAt.EqAt A s x.2 y.2 (ev x.2 y.2)) (h:Q (tR ev xs ys) s):wpAny (model prog w) A (uR nm a b) Q E s:=by
 obtain⟨o1,MP,ep1,K5,hc1,DR,dr,MI,hn1⟩:=h1
 obtain⟨o2,vb,ep2,z9,hc2,hd2,Ir,Kc,hn2⟩:=h2
 unfold uR vN
 wp_walk using kM K5 DR,kM z9 hd2,qW K5 DR
 have z1:MP.size=xs.length:=by have:=MI.length;simpa using this
 have z2:vb.size=ys.length:=by have:=Kc.length;simpa using this
 by_cases hz:xs.length=ys.length
 .rw[if_neg (by rw[z1,z2,hz];simp)]
  refine aS (qW K5 DR (aS ?_))
  rw[Std.Legacy.Range.forIn_eq_forIn_range']
  have sW:Q (xs.all fun x=>match mX ys x.1 with|some v=>ev x.2 v|none=>false) s:=by
   unfold tR at h
   rw[hz,beq_self_eq_true,Wd]at h
   exact h
  refine wpAny_forIn_list _ (fun rest b s'=>b=(none,())/\s'=s/\∃i,rest=FH i (MP.size-i)/\i<=MP.size/\Q ((xs.drop i).all fun x=>match mX ys x.1 with|some v=>ev x.2 v|none=>false) s) _ ?turn ?fin _ _ ?h
  case h=>exact⟨rfl,rfl,0,by simp[Std.Legacy.Range.size],cI _,by rw[qZ];exact sW⟩
  case fin=>
   rintro⟨b1,b2⟩ s' ⟨e1,rfl,i,e2,e3,hq⟩
   cases e1
   have:i=MP.size:=by
    have:=gL jU e2
    rw[MA,zL]at this
    omega
   rw[this,z1,sC]at hq
   exact bO hq
  case turn=>
   rintro x rest b s' ⟨rfl,rfl,i,e2,e3,hq⟩
   have oT:i<MP.size:=by
    have:=gL jU e2
    rw[MA,cV]at this
    omega
   have e4:MP.size-i=(MP.size-(i+1))+1:=by omega
   rw[e4,VB]at e2
   obtain⟨rfl,e5⟩:=eK e2
   have hx:x<xs.length:=by omega
   refine aS (kM K5 DR ?_)
   rw[pD oT]
   obtain⟨k0,HP,hh0⟩:=dr MP[x] (Array.getElem_mem oT)
   have pr:=JU MI (i:=x) (e:=MP[x]) (by rw[rQ,pD oT])
   obtain⟨kv,ekv,ik,iv⟩:=pr
   have hkk:k0=kv.1:=knd.inj _ _ _ HP ik
   subst hkk
   have P5:xs.drop x=kv::xs.drop (x+1):=by
    have oe:x<xs.length:=hx
    rw[cZ oe]
    rw[bM oe]at ekv
    rw[bC ekv]
   rw[P5,jP]at hq
   have step:∀(sm:Bool),sm=(match mX ys kv.1 with|some v=>ev kv.2 v|none=>false)->wpAny (model prog w) A (if (!sm)=true then pure (ForInStep.done (some false,()))else do
     let __do_lift<-dictEpoch a
     if (__do_lift !=ep1)=true then do
       unsupported (toString nm++toString ":changed-during-callback")
       pure (pC (none,()))
      else pure (pC (none,()))) (fun r s'_1=>match r with|.yield b'=>b'=(none,())/\s'_1=s'/\∃i,rest=FH i (MP.size-i)/\i<=MP.size/\Q ((xs.drop i).all fun x=>match mX ys x.1 with|some v=>ev x.2 v|none=>false) s'|.done b'=>wpAny (model prog w) A (match b'.fst with|some r=>pure r|none=>pure true) Q E s'_1) E s':=by
    intro sm esm
    rw[<-esm]at hq
    cases sm with
    |false=>
     rw[if_pos (show(!false)=true from rfl)]
     exact bO (bO (by rw[Qg]at hq;exact hq))
    |true=>
     rw[if_neg (by simp)]
     refine aS (qW K5 DR ?_)
     rw[if_neg (by simp)]
     rw[Wd]at hq
     exact bO ⟨rfl,rfl,x+1,e5,by omega,hq⟩
   refine aS (uD ?_)
   rw[hh0]
   refine aS (wpAny_dictFind_of ik z9 hd2 Ir ?_)
   have hv:(vb.findIdx? fun e=>knd.is kv.1 e.key).bind (fun j=>vb[j]?.map (·.val))=mX ys kv.1:=by
    rw[<-Kc.find kv.1,Zj]
   cases hf:vb.findIdx? fun e=>knd.is kv.1 e.key with
   |none=>
    rw[hf]at hv
    refine bO (step false ?_)
    rw[<-hv];rfl
   |some j=>
    rw[hf]at hv
    refine aS (kM z9 hd2 ?_)
    cases hj:vb[j]? with
    |none=>
     exfalso
     have:=(Array.findIdx?_eq_some_iff_findIdx_eq.mp hf).1
     rw[pD this]at hj
     cases hj
    |some f=>
     have da:mX ys kv.1=some f.val:=by rw[<-hv];show vb[j]?.map _=_;rw[hj];rfl
     refine uD ?_
     have my:∃y∈ys,y.2=f.val:=by
      unfold mX at da
      obtain⟨y,hy,e⟩:=dY.mp da
      exact⟨y,Sz hy,e⟩
     obtain⟨y,hy,ey⟩:=my
     have hxm:kv∈xs:=aG ekv
     have q:=he kv hxm y hy
     rw[ey,<-iv]at q
     have st:=step (ev MP[x].val f.val) (by rw[da,iv])
     refine q prog w _ _ (iE st (fun r s1 hr=>?_) fun _ _ x=>x)
     cases r with
     |yield b'=>exact hr
     |done b'=>obtain⟨c,_⟩:=b';cases c<;>exact hr
 .rw[if_pos (by rw[z1,z2];simp[hz])];refine aS (wpAny_rule (bO ?_));have:tR ev xs ys=false:=by simp[tR,hz]
  rw[this]at h;exact h
theorem Pg(knd:KeyKind prog w K){b:Addr}(ha:(a==fS)=false)(hb:(b==fS)=false):MeetsIn prog w (Builtin.«dict.__ne__» ⟨[.ref a,.ref b],[]⟩) (fun A R s=>∃xs ys ev,s.heap.DictOf knd a xs/\s.heap.DictOf knd b ys/\
  (∀x∈xs,∀y∈ys,SeqAt.EqAt A.in1 s x.2 y.2 (ev x.2 y.2))/\R (.ok (.ret (.bool (!tR ev xs ys)))) s):=
 .of_wp fun A R s ⟨xs,ys,ev,h1,h2,he,h⟩=>by
  have f3:=PySem.F.sub_dict_dict
  have ty:=h2.typeIs
  have sp:∀{nm:String} {Q:Bool->aZ->Prop},Q (tR ev xs ys) s->wpAny (model prog w) A.in1 (uR nm a b) Q (fun e s'=>R (.error e) s') s:=fun q=>To ha hb h1 h2 he q
  wp_walk using sp
  exact⟨_,rfl,by rw[show(tR ev xs ys==false)= !tR ev xs ys by cases tR ev xs ys<;>rfl];exact h⟩
end
section
variable {X:Cx}
theorem HB{kvs:List (iM×V)}{vs:List (iM×Value)}(r:KV kvs vs)(h:∀p∈kvs,∃i,p.2=.int i):∀q∈vs,∃i t,q.2=.int i t:=by
 unfold KV at r;induction r with
 |nil=>intro q hq;simp at hq
 | @cons p q ps qs h1 _ ih=>
  intro x hx;rcases aW.mp hx with rfl|hx
  .obtain⟨i,e⟩:=h p aF;have h2:=h1.2;rw[e]at h2;obtain⟨t,e2⟩:=h2;exact⟨i,t,e2⟩
  .exact ih (fun y hy=>h y (aD _ hy)) x hx
def evI:Value->Value->Bool
 |.int i _,.int j _=>i==j
 |_,_=>false
theorem nj{ky:List (iM×V)}{vm:List (iM×Value)}(r2:KV ky vm)(i2:∀p∈ky,∃i,p.2=.int i){kx:List (iM×V)}{vn:List (iM×Value)}(r1:KV kx vn)(i1:∀p∈kx,∃i,p.2=.int i):
  (vn.all fun x=>match mX vm x.1 with|some v=>evI x.2 v|none=>false)=kx.all fun p=>decide (eO ky p.1=some p.2):=by
 unfold KV at r1
 induction r1 with
 |nil=>rfl
 | @cons p q ps qs h1 _ ih=>
  rw[jP,jP,ih fun y hy=>i1 y (aD _ hy)];congr 1;obtain⟨i,e⟩:=i1 p aF;obtain⟨h1,h2⟩:=h1;rw[e]at h2;obtain⟨t,e2⟩:=h2;have rv:=r2.val p.1;rw[<-h1,e2,e];cases ev:eO ky p.1 with
  |none=>rw[ev]at rv;rw[rv.none_of];rfl
  |some y=>
   rw[ev]at rv;obtain⟨u,e3,r3⟩:=rv.some_of;rw[e3];have my:∃j,y=.int j:=by unfold eO at ev;obtain⟨z,hz,ez⟩:=dY.mp ev;obtain⟨j,ej⟩:=i2 z (Sz hz);exact⟨j,by rw[<-ez,ej]⟩
   obtain⟨j,rfl⟩:=my;obtain⟨t',rfl⟩:=r3;show(i==j)=decide (some (V.int j)=some (V.int i));by_cases q:i=j
   .subst q;simp
   .have:¬j=i:=fun z=>q z.symm;simp[q,this]
def XT:R2:=fun x y H Q=>E4 fun a b kx ky=>A7 (x=.ref a) (y=.ref b) (Rd H a (.dK kx)) (Rd H b (.dK ky)) (∀p∈kx,∃i,p.2=.int i) (∀p∈ky,∃i,p.2=.int i)
 (Q (.bl (!((kx.length==ky.length)&&kx.all fun p=>decide (eO ky p.1=some p.2)))) H)
theorem JW(hu:X.A.units<cLine):Ge X (gD .NotEq) XT:=by
 intro aI s σ H x y v u Q I rx ry q
 obtain⟨a,b,kx,ky,rfl,rfl,h1,h2,i1,i2,q⟩:=q
 cases rx
 cases ry
 obtain⟨z1,d1,vn,r1,dd1⟩:=Ft I.iW h1
 obtain⟨z2,d2,vm,r2,dd2⟩:=Ft I.iW h2
 refine wpAny_richCompare_same_room (op:=.NotEq) dd1.typeIs dd2.typeIs Wo (Cd Wo dd1.typeIs PySem.F.entry_dict_ne (PySem.F.args_dict_ne_2 _ _) (Pg (gM X.prog X.w) d1 d2)
  ⟨vn,vm,evI,dd1,dd2,?_,?_⟩) hu
 .intro p hp p' Ro;obtain⟨i,t,e⟩:=HB r1 i1 p hp;obtain⟨j,t',e'⟩:=HB r2 i2 p' Ro;rw[e,e'];exact As i t j t'
 .refine⟨(fun z=>nomatch z),?_⟩;refine⟨.bl _,H,I,rfl,?_⟩;have e:tR evI vn vm=((kx.length==ky.length)&&kx.all fun p=>decide (eO ky p.1=some p.2)):=by unfold tR;rw[nj r2 i2 r1 i1,r1.length,r2.length]
  rw[e];exact q
end
section
open PySem.AutoSeq1 (wpAny_loadPart')
open PySem.MeetsSeq PySem.MeetsSeq2 PySem.MeetsSeq3
theorem RC(l b:Addr)(items rM:Array Value)(n n2:Nat)(hsz:items.size=rM.size)(ns ms:List Int)(hi:Ou items.toList ns)(hj:Ou rM.toList ms)(k:Nat):
  ∀i:Nat,items.size-i=k->Meets (Builtin.«list.__eq__.loop» ⟨[.ref l,.ref b,Ss i,Ss 0],[]⟩)
   (fun _ R s=>s.heap.get? l=some {cls:=.type "list",data:=.seq items n}/\s.heap.get? b=some {cls:=.type "list",data:=.seq rM n2}/\
    R (.ok (.ret (.bool (HT.Dq (ns.drop i) (ms.drop i))))) s):=by
 have z1:items.size=ns.length:=by rw[<-hi.length];simp
 have z2:rM.size=ms.length:=by rw[<-hj.length];simp
 induction k with
 |zero=>
  intro i hk prog w A R s h;obtain⟨hp,g,d,tk,os⟩:=s;obtain⟨hl,hb,h⟩:=h;wp_walk using gA hl,gA hb
  have U1:items[((i:Nat):Int).toNat]? =none:=by simp;omega
  have L5:rM[((i:Nat):Int).toNat]? =none:=by simp;omega
  rw[gP (by omega),gP (by omega)]at h;rw[U1,L5];wp_walk using gA hl,gA hb
  show R (.ok (.ret (.bool (decide (items.size<rM.size))))) _;rw[hsz];simpa[HT.Dq]using h
 |succ k ih=>
  intro i hk prog w A R s h
  obtain⟨hp,g,d,tk,os⟩:=s;obtain⟨hl,hb,h⟩:=h
  wp_walk using gA hl,gA hb
  have oT:i<items.size:=by omega
  have aiL:i<rM.size:=by omega
  obtain⟨t,e1⟩:=hi.get i (ns[i]'(by omega)) (bM _)
  obtain⟨u,e2⟩:=hj.get i (ms[i]'(by omega)) (bM _)
  have U1:items[((i:Nat):Int).toNat]? =some (.int (ns[i]'(by omega)) t):=by
   rw[show((i:Nat):Int).toNat=i by omega,<-rQ];exact e1
  have L5:rM[((i:Nat):Int).toNat]? =some (.int (ms[i]'(by omega)) u):=by
   rw[show((i:Nat):Int).toNat=i by omega,<-rQ];exact e2
  have hc:((i:Int)+1)=((i+1:Nat):Int):=by push_cast;rfl
  rw[cZ (by omega),cZ (l:=ms) (by omega),HT.Mr]at h
  rw[U1,L5]
  refine aS (As (ns[i]'(by omega)) t (ms[i]'(by omega)) u prog w _ _ ?_)
  by_cases Iv:(ns[i]'(by omega))=(ms[i]'(by omega))
  .rw[if_pos Iv]at h
   rw[beq_iff_eq.mpr Iv]
   wp_walk
   rw[hc]
   exact⟨plainId_quiet plain_eq_loop _,codeAny_builtin entry_eq_loop (by
    rw[AN plain_eq_loop _]
    exact ih (i+1) (by omega) prog w A R _ ⟨hl,hb,h⟩)⟩
  .rw[if_neg Iv]at h
   rw[lN.mpr Iv]
   wp_walk using gA hl,gA hb
   rw[U1,L5]
   have hri:=HT.PK A.in1 ⟨hp,g,d,tk,os⟩ (ns[i]'(by omega)) t (ms[i]'(by omega)) u prog w
   wp_walk using hri
   simpa using h
theorem RE(l b:Addr)(items rM:Array Value)(n n2:Nat)(hsz:items.size=rM.size)(ns ms:List Int)(hi:Ou items.toList ns)(hj:Ou rM.toList ms):
  Meets (Builtin.«list.__lt__» ⟨[.ref l,.ref b],[]⟩)
   (fun _ R s=>s.heap.get? l=some {cls:=.type "list",data:=.seq items n}/\s.heap.get? b=some {cls:=.type "list",data:=.seq rM n2}/\
    R (.ok (.ret (.bool (HT.Dq ns ms)))) s):=by
 intro prog w A R s h
 obtain⟨hp,g,d,tk,os⟩:=s;obtain⟨hl,hb,h⟩:=h
 have f3:=AutoSeq1.sub_list_list
 wp_walk using gA hl,gA hb
 exact⟨plainId_quiet plain_eq_loop _,codeAny_builtin entry_eq_loop (by
  rw[AN plain_eq_loop _]
  exact RC l b items rM n n2 hsz ns ms hi hj _ 0 rfl prog w A R _ ⟨hl,hb,by simpa using h⟩)⟩
end
section
variable {X:Cx}
def j3:R2:=fun x y H Q=>E4 fun a b ns ms=>A6 (x=.ref a) (y=.ref b) (H a=some (.lst (ns.map V.int))) (H b=some (.lst (ms.map V.int))) (ns.length=ms.length) (Q (.bl (HT.Dq ns ms)) H)
theorem ki(hu:X.A.units<cLine):Ge X (gD .Lt) j3:=by
 intro aI s σ H x y v u Q I rx ry q;obtain⟨a,b,ns,ms,rfl,rfl,h1,h2,hl,q⟩:=q;cases rx;cases ry;obtain⟨F8,n1,r1,g1,z1⟩:=I.lst h1;obtain⟨Pj,n2,r2,g2,z2⟩:=I.lst h2;have e1:=Ki r1;have e2:=Ki r2;have l1:F8.length=ns.length:=e1.length;have l2:Pj.length=ms.length:=e2.length
 exact richCompare_meets_room (op:=.Lt) ⟨_,g1,rfl⟩ ⟨_,g2,rfl⟩ PySem.F.slot_list_lt PySem.F.entry_list_lt (PySem.F.args_list_lt_2 _ _) (RE a b F8.toArray Pj.toArray n1 n2 (by simp;omega) ns ms (by simpa using e1) (by simpa using e2))
  ⟨g1,g2,show qA _≠Value.notImplemented/\EP X aI σ Q _ s from ⟨(fun x=>nomatch x),.bl _,H,I,rfl,q⟩⟩ hu
end
def WZ(tk tv:TE):TE:=fun σ H Q=>∀p,H p=none->tk σ (upd H p (.dT [])) fun x H1=>tv σ H1 fun y H2=>E2 fun k b=>A4 (x=.ref b) (H2 b=some (.tup (k.map kV))) (H2 p=some (.dT [])) (Q (.ref p) (upd H2 p (.dT [(k,y)])))
section
variable {X:Cx} {k v:Expr} {tk tv:TE} {pos:Pos}
theorem JT(hu:X.A.units+1<cLine)(hk:PE X k tk)(hv:PE X v tv):PE X (.Dict [some k] [v] pos) (WZ tk tv):=by intro aI s σ H Q I q;have hn:=I.iW.fresh (aY s.heap.objs.size);have I1:=I.laid (a:=s.heap.objs.size) (o:=.dT []) (h':=s.heap.push {cls:=.type "dict",data:=.dict #[]}) (t':=s.toks) (fun _ _ q=>bU _ q) (aY _) (Zo s.heap I.big);have e:=zip_pairTrees [some k] [v] X.env pos rfl rfl;rw[arm_eval_Dict,e,dictDisplay_pairs _ (by intro z;cases z) (by show 1<17;decide)];refine aS (IS (aS ?_));unfold subDict;refine aS (wpAny_alloc ?_);refine aS (uD ?_);rw[if_pos (show(pairTrees [some k] [v] X.env pos).length<=15 by rw[pairTrees_length _ _ _ _ rfl rfl];show 1<=15;decide)];refine aS (pairTrees_cons_walk (iX (hk aI _ σ _ _ I1 (q _ hn)) fun u s1 ⟨x,H1,J1,rx,q1⟩=>iX (hv aI s1 σ H1 _ J1 q1) fun u2 s2 ⟨y,H2,J2,ry,kk,b,ex,hb,hp,q2⟩=>pairTrees_nil_walk ?_));subst ex;obtain rfl:u=dE b:=rx;refine uD ?_;rw[WM];obtain⟨z,hd,xs,rel,dd⟩:=TY J2.iW hp;cases rel;refine aS (aS (aS (wpAny_dictSet_heap (hsz:=by show 0<=sizeLine;exact cI _) (show(wX (gM X.prog X.w)).room X.A from VA hu) (Ab J2.iW hb) dd fun h' IE hs=>bO ?_)));show wpAny (model X.prog X.w) X.A (forIn ([]:List (Value×Value)) PUnit.unit _) _ _ _;rw[Pz];refine bO (bO (bO (bO ?_)));obtain⟨qo,es,ep,hq,g2,g3,g4,_,g5⟩:=IE;refine⟨.ref s.heap.objs.size,_,Bi (ob:=.dT [(kk,y)]) J2 (by rw[hp];exact True.intro) hs ⟨qo,hq⟩ ⟨(by show 1<=sizeLine;decide),hd,_,KT.keeps (.cons ⟨rfl,hb,ry⟩ .nil) fun c ys ec=>?_,qo,es,ep,hq,g2,g3,g4,g5⟩,rfl,q2⟩;rw[aH (QQ ec hp (fun z=>nomatch z))];exact ec
end
def P2(p:(Int×Int)×Tok×Tok):qB:=⟨yX p.1.1,.int p.1.1 p.2.1,.int p.1.2 p.2.2⟩
def Sk(K:aX)(a:Addr)(kvs:List (Int×Int)):Prop:=
 ∃(ps:List ((Int×Int)×Tok×Tok)) (ep:Nat),ps.map (·.1)=kvs/\(kvs.map (·.1)).Nodup/\K.lookup a=some {cls:=.type "dict",data:=.dict (ps.map P2).toArray ep}
theorem Sk.at{P:dJ}{w:World}{K:aX}{h:Heap}(d:Sk K a kvs)(KX:K.In h):∃vs,h.DictOf (gM P w) a vs/\∀k v,(k,v)∈kvs->∃t,mX vs (aV k)=some (.int v t):=by
 obtain⟨ps,ep,e,hn,hl⟩:=d;subst e
 have hp:∀ps:List ((Int×Int)×Tok×Tok),Pairs (gM P w) (ps.map P2) (ps.map fun p=>((aV p.1.1:iM),xE p.1.2 p.2.2)):=by
  intro ps;induction ps with
  |nil=>exact .nil
  |cons p ps ih=>exact .cons (Hk p.1.1 p.2.1) rfl ih
 refine⟨ps.map fun p=>((aV p.1.1:iM),xE p.1.2 p.2.2),⟨_,_,ep,KX _ _ hl,⟨rfl,rfl,rfl⟩,rfl,fun e he=>?_,hp ps,?_⟩,?_⟩
 .simp only[List.mem_toArray,aE]at he;obtain⟨p,hp,rfl⟩:=he;exact⟨aV p.1.1,Hk p.1.1 p.2.1,rfl⟩
 .rw[dG];rw[dG]at hn;rw[show((fun x=>x.fst)∘fun(p:(Int×Int)×Tok×Tok)=>((aV p.1.1:iM),xE p.1.2 p.2.2))=(fun i:Int=>(aV i:iM))∘(fun p=>p.1.1) from rfl,<-dG];exact Qa _ (fun a b Vd z=>Vd (kJ z)) hn
 .intro k v hm;obtain⟨p,MI,Kc⟩:=aE.mp hm;refine⟨p.2.2,?_⟩;rw[dG]at hn;clear hm hl;induction ps with
  |nil=>simp at MI
  |cons q ps ih=>
   unfold mX;rw[bL,kF];rw[bL,cQ]at hn;rcases aW.mp MI with rfl|MI
   .have e1:p.1.1=k:=(by rw[Kc]);have e2:p.1.2=v:=(by rw[Kc]);simp[e1,e2]
   .have Iq:¬q.1.1=k:=fun z=>hn.1 (aE.mpr ⟨p,MI,by show p.1.1=q.1.1;rw[Kc,z]⟩);have:decide ((aV q.1.1:iM)=aV k)=false:=(by refine bH fun z=>Iq (kJ z));rw[this];exact ih hn.2 MI
def vw(kvs:List (Int×Int))(ty:TE):TE:=fun σ H Q=>ty σ H fun y H1=>E2 fun k v=>A3 (y=.int k) ((k,v)∈kvs) (Q (.int v) H1)
theorem YC{X:Cx}{i:Expr}{ty:TE}{p pos:Pos}(hm:X.mg x=some (.ref a))(d:Sk X.K a kvs)(hi:PE X i ty)(hs:sf i)(hg:Gl X x:=by rfl)(HS:(x==("__debug__":Str))=false:=by decide):
  PE X (.Subscript (.Name x p) i pos) (vw kvs ty):=by
 intro aI s σ H Q I h
 refine FW Oc.lookup hs (Fe I hg hm (iX (hi aI s σ H _ I h) fun iv s2 ⟨y,H2,I2,ry,k,v,ey,hk,q2⟩=>?_) HS)
 subst ey
 obtain⟨vs,dd,hv⟩:=d.at (P:=X.prog) (w:=X.w) I2.Yv
 obtain⟨t,e⟩:=hv k v hk
 exact⟨dd.typeIs,wpAny_getItem_of (Fj (k:=aV k) ry) dd.mapOf e ⟨.int v,H2,I2.tok _,⟨t,rfl⟩,q2⟩⟩
end L2
namespace Pr
open PySem PySem.Spec PyProof.Rows L2
open L2 renaming upd->bI
open Rc14 (Rule T)
open Tw (yB Ap Cn pI DP vP sY qR LenS fi PL cJ SR EW xY WF Js iT iB iL mJ jZ pJ tX cR jL mI vU)
variable {P:dJ} {w:World} {K:aX} {mg:Str->Option Value} {aT:Heap} {CW CP CG f:Addr} {fd:oI}
variable {a b d dx e gr p q:Addr} {D:Kk} {o u:HO} {H H' H1 H2:Hp} {Qd:Hp->Prop} {m x:Int} {σ:L2.St} {kvs:List (iM×V)} {ls:List (Nat×Addr)} {fs:List (Str×V)} {F:La} {ns:List Int} {J js l bW vs:Ln} {g:Lr} {bs:List UInt8} {xs:Lv} {i j k n:Nat} {cont:Nat×Nat->List (Nat×Nat)} {c c':Nat->Nat->Nat->Cn} {R:Nat->Nat->Prop} {L:Nat->Option Nat} {X:Nat->Option T} {pos:Pos} {s:jD} {r:Rule} {t tx:T} {te tl:TE} {tt:TT} {Q:VK}
theorem sv{X:Cx}{i:Nat}{x:Str}{e:Expr}{pos pos':Pos}(hN:X.N.Nodup)(he:PE X e te)(hi:X.N[i]? =some x:=by rfl)(hx:bp X.env.scope x:=by exact Dk rfl)(hs:wY e (some (.Name x pos')) pos.line X.env=pure false:=by rfl)(hf:X.fn x=true∨X.env.scope.names.lookup x=some .local:=by first|exact .inl rfl|exact .inr rfl|assumption):PS X (.Assign [.Name x pos'] e pos) (Xb te (mF i)):=Tx hN hi hx he hs hf
theorem gv{X:Cx}{i:Nat}{x:Str}{pos:Pos}(hN:X.N.Nodup)(hi:X.N[i]? =some x:=by rfl)(hx:bp X.env.scope x:=by exact Dk rfl)(hf:X.fn x=true∨X.env.scope.names.lookup x=some .local:=by first|exact .inl rfl|exact .inr rfl|assumption):PG X (.Name x pos) (mF i):=Eo hN hi hx hf
theorem av{X:Cx}{i:Nat}{x:Str}{e:Expr}{op:Operator}{ti:Q4}{pos pos':Pos}(hN:X.N.Nodup)(he:PE X e te)(ho:W5 X op ti)(hi:X.N[i]? =some x:=by rfl)(hx:bp X.env.scope x:=by exact Dk rfl)(hf:X.fn x=true∨X.env.scope.names.lookup x=some .local:=by first|exact .inl rfl|exact .inr rfl|assumption):PS X (.AugAssign (.Name x pos') op e pos) (JK i te ti):=kf hN hi hx he ho hf
theorem z0:0<=sizeLine:=by decide
theorem z1:1<=sizeLine:=by decide
theorem z2:2<=sizeLine:=by decide
theorem oP{N ps:List Str}{sc:Scope}(a:sc.kind=.function:=by rfl)(b:sc.isCoroutine=false:=by rfl)(c:sc.isGenerator=false:=by rfl)(d:N.Nodup:=by decide+kernel)(e:N.take ps.length=ps:=by rfl)(f:∀x∈ps,sc.names.lookup x=some .local∨sc.names.lookup x=some .cell:=by decide+kernel)(g:∀y∈sc.names,y.2≠.free:=by decide+kernel):cB N ps sc:=⟨a,b,c,d,e,f,g⟩
inductive Bd(X:Cx)(b:List Stmt)(D:Kk)(σ:L2.St)(H:Hp):Prop|mk (t:TS):EY X b t->t D σ H->Bd X b D σ H
theorem oB{x qual:Str}{st:Stmt}{N ps:List Str}{sp:Sp}(F:lY K x qual st f fd)(S:cB N ps (bF st))(b:∀{c:Value} {A:gQ} {o:List Env} {s:aZ} {vs:Lv} {E:XK} (H:Hp) (Q:VK),oF k (A.deeper (Gp qual (bF st) s.heap.objs.size f c))->sp vs H Q E->Bd (EN lM P w K mg aT N qual (bF st) f c A o s H E).D1 (pH st) {nx:=fun _ H'=>Q .iU H',rt:=Q} (start N vs) H)(l:∀vs H Q E,sp vs H Q E->vs.length=ps.length:=by intro _ _ _ _ h;cases h;subst_vars;rfl):eN P w K mg aT lM (k+1) f fd ps sp:=F.ok S l fun _ _ _ _ H _ Q _ r h=>let ⟨t,c,d⟩:=b H Q r h;⟨t,c,d⟩
def st(i:Nat):Stmt:=PySem.Challenge.pw_treewords_s01_answers.main.body.getD i (.Pass ⟨0,0,0,0⟩)
structure uO(mg:Str->Option Value):Prop where
 QT:∃t,mg "MOST_NAME"=some (.int 255 t)
 tH:∃t,mg "FIRST_BYTE"=some (.int 256 t)
 Ct:∃t,mg "MOST_SYMBOL"=some (.int 511 t)
 Jz:∃t,mg "MODULUS"=some (.int 18446744073709551616 t)
 endless:∃t,mg "ENDLESS"=some (.int (-1) t)
 rows:∃t,mg "ROWS"=some (.int 32 t)
 bits:∃t,mg "BITS"=some (.int 8 t)
 OU:∃t,mg "SOME_TEXT"=some (.int 1 t)
 LI:∃t,mg "EMPTY_TEXT"=some (.int 2 t)
 Vg:∃t,mg "ENDLESS_TREES"=some (.int 4 t)
 Vh:∃t,mg "ENDLESS_TEXTS"=some (.int 8 t)
 QU:∃t,mg "MOST_KEPT"=some (.int 8 t)
 KG:∃t,mg "MOST_RIGHT"=some (.int 16 t)
 KD:∃t,mg "MOST_RULES"=some (.int 128 t)
 CK:∃t,mg "MOST_OF_ALL_RIGHTS"=some (.int 512 t)
 QS:∃t,mg "MOST_TEXT"=some (.int 64 t)
 Mg:∃t,mg "MOST_TOLD"=some (.int 65536 t)
 outOfRange:∃t,mg "OUT_OF_RANGE"=some (.int (-1) t)
 Rb:∃t,mg "NONE_THERE"=some (.int (-1) t)
 Ui:∃t,mg "NO_ROOM"=some (.int (-2) t)
 rf:∃t,mg "BEGIN"=some (.int 0 t)
 fb:∃t,mg "RULE"=some (.int 1 t)
 cText:∃t,mg "TEXT"=some (.int 2 t)
 rb:∃t,mg "COUNT"=some (.int 3 t)
 Q0:∃t,mg "TREE"=some (.int 4 t)
 Q1:∃t,mg "NEXT"=some (.int 5 t)
 qz:∃t,mg "SHORT"=some (.int 6 t)
 range:mg "range"=none
 len:mg "len"=none
 all:mg "all"=none
 any:mg "any"=none
 sum:mg "sum"=none
 enum:mg "enumerate"=none
 rev:mg "reversed"=none
theorem fB{X:Cx}{x:Str}{i:Int}{pos:Pos}(h:∃t,X.mg x=some (.int i t))(hg:Gl X x:=by rfl)(hd:(x==("__debug__":Str))=false:=by decide):PE X (.Name x pos) (tC (.int i)):=by obtain⟨t,h⟩:=h;exact Ua (v:=.int i) hg h ⟨t,rfl⟩ hd
def SX(F:La)(H H':Hp):Prop:=∀b o,H b=some o->b∉F->H' b=some o
theorem SX.refl:SX F H H:=fun _ _ h _=>h
theorem SX.trans(a:SX F H H1)(b:SX F H1 H2):SX F H H2:=fun c o h n=>b c o (a c o h n) n
theorem SX.of(a:aK H H'):SX F H H':=fun c o h _=>a c o h
theorem SX.same(a:SX [] H H'):aK H H':=fun c o h=>a c o h (by simp)
theorem SX.mono{G:La}(a:SX F H H')(h:∀x∈F,x∈G):SX G H H':=fun c o e n=>a c o e fun q=>n (h c q)
theorem SX.upd(h:a∈F):SX F H (upd H a o):=fun b u e n=>by rw[aH (fun z=>n (by rw[z];exact h))];exact e
theorem SX.drop{G:La}(a:SX F H H')(h:∀x∈F,x∉G->H x=none):SX G H H':=fun c o e n=>by
 by_cases q:c∈F
 .rw[h c q n]at e;cases e
 .exact a c o e q
theorem aK.upd(h:H a=none):aK H (bI H a o):=fun b u e=>by rw[aH (cK e h)];exact e
theorem aK.then(s:aK H H1)(h:H a=none):aK H (bI H1 a o):=fun b u e=>by rw[aH (cK e h)];exact s b u e
def sg(u:HO):Prop:=∀o x,u≠.kN o x
def Le(H H':Hp):Prop:=∀b u,sg u->Rd H b u->Rd H' b u
theorem Le.refl:Le H H:=fun _ _ _ h=>h
theorem Le.trans(a:Le H H1)(b:Le H1 H2):Le H H2:=fun c u n h=>b c u n (a c u n h)
theorem aK.le(a:aK H H'):Le H H':=fun b u _ h=>by
 rcases h with h|⟨o,h⟩
 .exact .inl (a _ _ h)
 .exact .inr ⟨o,a _ _ h⟩
def Lk(H:Hp)(d:Addr)(o:Obj)(u:HO)(H1:Hp):Prop:=(H d=some u/\H1=upd H d (.kN o u))∨(H d=some (.kN o u)/\H1=H)
def Ul(H:Hp)(d:Addr)(o:Obj)(u:HO)(H1 H2:Hp):Prop:=(H d=some u/\H2=upd H1 d u)∨(H d=some (.kN o u)/\H2=H1)
theorem Lk.at{o:Obj}(l:Lk H d o u H1):H1 d=some (.kN o u):=by
 rcases l with ⟨_,rfl⟩|⟨h,rfl⟩
 .exact aC
 .exact h
theorem Lk.le{o:Obj}(l:Lk H d o u H1)(nf:sg u):Le H H1:=by
 rcases l with ⟨h,rfl⟩|⟨h,rfl⟩
 .intro b x n r;by_cases e:b=d
  .subst e;rcases r with r|⟨o',r⟩
   .rw[h]at r;cases r;exact .inr ⟨o,aC⟩
   .rw[h]at r;cases r;exact absurd rfl (nf _ _)
  .rcases r with r|⟨o',r⟩
   .exact .inl (by rw[aH e];exact r)
   .exact .inr ⟨o',by rw[aH e];exact r⟩
 .exact .refl
theorem Lk.ne{o:Obj}(l:Lk H d o u H1)(h:b≠d):H1 b=H b:=by
 rcases l with ⟨_,rfl⟩|⟨_,rfl⟩
 .exact aH h
 .rfl
theorem Ul.ne{o:Obj}(l:Ul H d o u H1 H2)(h:b≠d):H2 b=H1 b:=by
 rcases l with ⟨_,rfl⟩|⟨_,rfl⟩
 .exact aH h
 .rfl
theorem SX.lk{H3:Hp}{o:Obj}(l:Lk H d o u H1)(s:SX F H1 H2)(n:d∉F)(ul:Ul H d o u H2 H3):SX F H H3:=by
 intro b x e nb;by_cases q:b=d
 .subst q;rcases ul with ⟨h,rfl⟩|⟨h,rfl⟩
  .rw[h]at e;cases e;exact aC
  .rw[h]at e;cases e;exact s _ _ l.at n
 .rw[ul.ne q];exact s b x (by rw[l.ne q];exact e) nb
theorem aK.lk{H3:Hp}{o:Obj}(l:Lk H d o u H1)(s:aK H1 H2)(ul:Ul H d o u H2 H3):aK H H3:=SX.same (SX.lk l (SX.of s) (by simp) ul)
abbrev g2(K:aX)(a b:Nat):TG:=qh K 2 (Rv (mF a) (Rv (mF b) qi))
theorem Bx{a b:Nat}{x y:V}{Q:L2.St->Hp->Prop}(h:Wj K H p [x,y])(q:Q ((σ.set a (some x)).set b (some y)) H):g2 K a b (.ref p) σ H Q:=
 ⟨p,_,rfl,h,rfl,x,_,rfl,y,_,rfl,rfl,q⟩
section
variable {K:aX} {a b:Nat} {d:Addr} {o:Obj} {kvs:List (iM×V)} {tb:TS} {D:Kk} {σ:L2.St} {H:Hp}
theorem Bf(Pv:Nat->L2.St->Hp->Prop)(h0:Pv 0 σ H)(hl:∀i σ H,i<=kvs.length->Pv i σ H->H d=some (.kN o (.dK kvs)))
  (hs:∀(i:Nat) k v σ H,kvs[i]? =some (k,v)->Pv i σ H->∀H2 rt bk,aK H H2->tb ⟨Pv (i+1),rt,bk,Pv (i+1)⟩ ((σ.set a (some (kV k))).set b (some v)) H2)
  (hd:∀σ H,Pv kvs.length σ H->D.nx σ H):
  ∃W:Nat->Nat->L2.St->Hp->Prop,(∃m,W 0 m σ H)/\∀i m σ H,W i m σ H->
   ((vf d o kvs).stop i H/\D.nx σ H)∨((vf d o kvs).go i H/\∃N:L2.St->Hp->Prop,(∀σ' H',N σ' H'->∃m',m'<m/\W (i+1) m' σ' H')/\∀x H',(vf d o kvs).BL i H x H'->g2 K a b x σ H' fun σ2 H2=>tb {D with nx:=N,ct:=N,bk:=D.nx} σ2 H2):=by
 refine⟨fun i m σ H=>m=kvs.length-i/\i<=kvs.length/\Pv i σ H,⟨kvs.length,by simp,cI _,h0⟩,?_⟩
 rintro i m σ H ⟨rfl,hi,p⟩
 have q:=hl i σ H hi p
 by_cases oT:i<kvs.length
 .refine .inr ⟨⟨q,oT⟩,Pv (i+1),fun σ' H' p'=>⟨kvs.length-(i+1),by omega,rfl,oT,p'⟩,fun x H' y=>?_⟩;obtain⟨T,k,v,e,rfl,hT,rfl⟩:=y;exact Bx (Wj.of aC) (hs i k v σ H e p _ _ _ (aK.upd hT))
 .have e:i=kvs.length:=by omega
  subst e;exact .inl ⟨⟨q,aY _⟩,hd σ H p⟩
theorem Zg(Pv:Nat->L2.St->Hp->Prop)(h0:Pv 0 σ H)(hl:∀i σ H,i<=kvs.length->Pv i σ H->H d=some (.kN o (.dK kvs)))
  (hs:∀(i:Nat) k v σ H,kvs[i]? =some (k,v)->Pv i σ H->∀rt bk,tb ⟨Pv (i+1),rt,bk,Pv (i+1)⟩ (σ.set a (some (kV k))) H)
  (hd:∀σ H,Pv kvs.length σ H->D.nx σ H):
  ∃W:Nat->Nat->L2.St->Hp->Prop,(∃m,W 0 m σ H)/\∀i m σ H,W i m σ H->
   ((UN d o kvs).stop i H/\D.nx σ H)∨((UN d o kvs).go i H/\∃N:L2.St->Hp->Prop,(∀σ' H',N σ' H'->∃m',m'<m/\W (i+1) m' σ' H')/\∀x H',(UN d o kvs).BL i H x H'->mF a x σ H' fun σ2 H2=>tb {D with nx:=N,ct:=N,bk:=D.nx} σ2 H2):=by
 refine⟨fun i m σ H=>m=kvs.length-i/\i<=kvs.length/\Pv i σ H,⟨kvs.length,by simp,cI _,h0⟩,?_⟩
 rintro i m σ H ⟨rfl,hi,p⟩
 have q:=hl i σ H hi p
 by_cases oT:i<kvs.length
 .refine .inr ⟨⟨q,oT⟩,Pv (i+1),fun σ' H' p'=>⟨kvs.length-(i+1),by omega,rfl,oT,p'⟩,fun x H' y=>?_⟩;obtain⟨rfl,k,v,e,rfl⟩:=y;exact hs i k v σ H' e p _ _
 .have e:i=kvs.length:=by omega
  subst e;exact .inl ⟨⟨q,aY _⟩,hd σ H p⟩
theorem RD{wi:TI}(hr:Rd H d (.dK kvs))(Pv:Hp->Nat->L2.St->Hp->Prop)
  (hw:∀o H1,Lk H d o (.dK kvs) H1->∀R:It->Hp->Prop,(∀H2,aK H1 H2->R (vf d o kvs) H2)->wi σ H1 R)
  (h0:∀o H1,Lk H d o (.dK kvs) H1->∀H2,aK H1 H2->Pv H1 0 σ H2) (hl:∀o H1,Lk H d o (.dK kvs) H1->∀i σ H',Pv H1 i σ H'->H' d=some (.kN o (.dK kvs)))
  (hs:∀o H1,Lk H d o (.dK kvs) H1->∀(i:Nat) k v σ H',kvs[i]? =some (k,v)->Pv H1 i σ H'->∀H2 rt bk,aK H' H2->tb ⟨Pv H1 (i+1),rt,bk,Pv H1 (i+1)⟩ ((σ.set a (some (kV k))).set b (some v)) H2)
  (hd:∀o H1,Lk H d o (.dK kvs) H1->∀σ H',Pv H1 kvs.length σ H'->∀H3,Ul H d o (.dK kvs) H' H3->D.nx σ H3):
  BS (NY wi (g2 K a b) tb) D σ H:=by
 rcases hr with h|⟨o,h⟩
 .refine .inr ⟨d,_,h,trivial,fun o=>?_⟩;have l:Lk H d o (.dK kvs) (upd H d (.kN o (.dK kvs))):=.inl ⟨h,rfl⟩;refine hw o _ l _ fun H2 s2=>?_;exact Bf (Pv _) (h0 o _ l H2 s2) (fun i σ H' _ p=>hl o _ l i σ H' p) (fun i k v σ H' e p=>hs o _ l i k v σ H' e p) fun σ H' p=>⟨hl o _ l _ _ _ p,hd o _ l σ H' p _ (.inl ⟨h,rfl⟩)⟩
 .have l:Lk H d o (.dK kvs) H:=.inr ⟨h,rfl⟩;refine .inl (hw o _ l _ fun H2 s2=>?_);exact Bf (Pv _) (h0 o _ l H2 s2) (fun i σ H' _ p=>hl o _ l i σ H' p) (fun i k v σ H' e p=>hs o _ l i k v σ H' e p) fun σ H' p=>hd o _ l σ H' p _ (.inr ⟨h,rfl⟩)
theorem wG(hσ:σ[i]? =some (some (.ref d)))(hr:Rd H d (.dK kvs))(Pv:Hp->Nat->L2.St->Hp->Prop)
  (h0:∀o H1,Lk H d o (.dK kvs) H1->∀H2,aK H1 H2->Pv H1 0 σ H2) (hl:∀o H1,Lk H d o (.dK kvs) H1->∀i σ H',Pv H1 i σ H'->H' d=some (.kN o (.dK kvs)))
  (hs:∀o H1,Lk H d o (.dK kvs) H1->∀(i:Nat) k v σ H',kvs[i]? =some (k,v)->Pv H1 i σ H'->∀H2 rt bk,aK H' H2->tb ⟨Pv H1 (i+1),rt,bk,Pv H1 (i+1)⟩ ((σ.set a (some (kV k))).set b (some v)) H2)
  (hd:∀o H1,Lk H d o (.dK kvs) H1->∀σ H',Pv H1 kvs.length σ H'->∀H3,Ul H d o (.dK kvs) H' H3->D.nx σ H3):
  BS (NY (RX (fC i)) (g2 K a b) tb) D σ H:=
 RD hr Pv (fun o H1 l R q=>⟨_,hσ,d,o,kvs,rfl,l.at,q H1 (aK.refl H1)⟩) h0 hl hs hd
end
def qI(c:Int):Int:=if c<18446744073709551616 then c else 18446744073709551616+c % 18446744073709551616
def enc:Cn->Int
 |none=> -1
 |some n=>qI n
theorem Mf{c:Int}(h:0<=c):0<=qI c:=by unfold qI;split<;>omega
theorem mz{c:Int}:qI c<36893488147419103232:=by unfold qI;split<;>omega
theorem xS{a:Cn}:enc a= -1↔a=none:=by
 cases a with
 |none=>simp[enc]
 |some n=>have:0<=enc (some n):=Mf (nD n);simp;omega
theorem TN(a:Cn):(enc a).natAbs<2^70:=by
 cases a with
 |none=>decide
 |some n=>have h1:0<=enc (some n):=Mf (nD n);have h2:enc (some n)<36893488147419103232:=mz;omega
theorem YO{y:Int}(hx:0<=x)(hy:0<=y):qI (qI x+qI y)=qI (x+y):=by unfold qI;split<;>split<;>(try split)<;>(try split)<;>omega
theorem Uj(h:1<=x):1<=qI x:=by unfold qI;split<;>omega
theorem GV:¬x<18446744073709551616->18446744073709551616<=qI x:=by intro h;unfold qI;rw[if_neg h];omega
theorem Fb(x:Int):qI x % 18446744073709551616=x % 18446744073709551616:=by unfold qI;split<;>omega
theorem Rg(h:x<18446744073709551616):qI x=x:=by unfold qI;rw[if_pos h]
theorem YN{y:Int}(hx:1<=x)(hy:1<=y):qI (qI x*qI y)=qI (x*y):=by
 by_cases h1:x<18446744073709551616
 .by_cases h2:y<18446744073709551616
  .rw[Rg h1,Rg h2]
  .have a:18446744073709551616<=qI x*qI y:=Int.le_trans (GV h2) (by have:=Kr (Uj hx) (by have:=Uj hy;omega:0<=qI y);omega);have b:18446744073709551616<=x*y:=by have:=Kr hx (by omega:0<=y);omega
   have c:(qI x*qI y) % 18446744073709551616=(x*y) % 18446744073709551616:=by rw[Jj,Fb,Fb,<-Jj]
   generalize qI x*qI y=u at a c;generalize x*y=v at b c;unfold qI;rw[if_neg (by omega),if_neg (by omega),c]
 .have a:18446744073709551616<=qI x*qI y:=Int.le_trans (GV h1) (by have:=Oh (Uj hy) (by have:=Uj hx;omega:0<=qI x);omega);have b:18446744073709551616<=x*y:=by have:=Oh hy (by omega:0<=x);omega
  have c:(qI x*qI y) % 18446744073709551616=(x*y) % 18446744073709551616:=by rw[Jj,Fb,Fb,<-Jj]
  generalize qI x*qI y=u at a c;generalize x*y=v at b c;unfold qI;rw[if_neg (by omega),if_neg (by omega),c]
theorem ab(a b:Nat):qI (enc (some a)+enc (some b))=enc (some (a+b)):=by show qI (qI a+qI b)=qI ((a+b:Nat):Int);rw[YO (nD a) (nD b)];push_cast;rfl
theorem ZW{a b:Nat}(ha:a≠0)(hb:b≠0):qI (enc (some a)*enc (some b))=enc (some (a*b)):=by show qI (qI a*qI b)=qI ((a*b:Nat):Int);rw[YN (by omega) (by omega)];push_cast;rfl
theorem CT{k:Int}(h:k<18446744073709551616)(h0:0<=k):k<enc (some n)↔k<n:=by show k<qI n↔_;unfold qI;split<;>omega
theorem TK{k:Int}(h:k<18446744073709551616)(h0:0<=k):enc (some n)<=k↔(n:Int)<=k:=by show qI n<=k↔_;unfold qI;split<;>omega
theorem TM{k:Int}(h:(n:Int)<=k)(h1:k<18446744073709551616):enc (some n)=n:=by show qI n=_;unfold qI;split<;>omega
inductive Ea:Sp|mk {vs H Q Z} (n:Int):vs=[.int n]->Q (.bl (decide (0<=n/\n<=255))) H->Ea vs H Q Z
inductive vY:Sp|mk {vs H Q Z} (n:Int):vs=[.int n]->Q (.bl (decide (256<=n))) H->vY vs H Q Z
inductive rG:Sp|mk {vs H Q Z} (n:Int):vs=[.int n]->Q (.bl (decide (0<=n/\n<=511))) H->rG vs H Q Z
theorem sc6:cB ["number"] ["number"] (bF (st 6)):=oP
theorem JY(F:lY K "is_name" "is_name" (st 6) f fd)(T:uO mg):eN P w K mg aT lM 1 f fd ["number"] Ea:=by
 refine oB F sc6 fun H Q hr h=>?_;obtain⟨n,rfl,k⟩:=h;refine⟨_,aU (cO (Xw tU tU cH (pv 0) (fB T.QT))),?_⟩;refine⟨_,rfl,_,_,rfl,rfl,_,rfl,?_⟩;refine Cw (fun h=>⟨_,_,rfl,rfl,?_⟩) (fun h=>?_)
 .have h:=aR h;show Q (.bl (decide (n<=255))) H;rw[show decide (n<=255)=decide (0<=n/\n<=255) by simp[h]];exact k
 .have h:¬0<=n:=fun z=>h (bB z);show Q (.bl false) H;rw[show false=decide (0<=n/\n<=255) by simp[h]];exact k
theorem sc7:cB ["symbol"] ["symbol"] (bF (st 7)):=oP
theorem JZ(F:lY K "is_byte" "is_byte" (st 7) f fd)(T:uO mg):eN P w K mg aT lM 1 f fd ["symbol"] vY:=by refine oB F sc7 fun H Q hr h=>?_;obtain⟨n,rfl,k⟩:=h;refine⟨_,aU (cO (GQ cu (pv 0) (fB T.tH) (fU _))),?_⟩;exact⟨_,rfl,_,_,rfl,rfl,k⟩
theorem sc8:cB ["number"] ["number"] (bF (st 8)):=oP
theorem Yd(F:lY K "is_symbol" "is_symbol" (st 8) f fd)(T:uO mg):eN P w K mg aT lM 1 f fd ["number"] rG:=by
 refine oB F sc8 fun H Q hr h=>?_;obtain⟨n,rfl,k⟩:=h;refine⟨_,aU (cO (Xw tU tU cH (pv 0) (fB T.Ct))),?_⟩;refine⟨_,rfl,_,_,rfl,rfl,_,rfl,?_⟩;refine Cw (fun h=>⟨_,_,rfl,rfl,?_⟩) (fun h=>?_)
 .have h:=aR h;show Q (.bl (decide (n<=511))) H;rw[show decide (n<=511)=decide (0<=n/\n<=511) by simp[h]];exact k
 .have h:¬0<=n:=fun z=>h (bB z);show Q (.bl false) H;rw[show false=decide (0<=n/\n<=511) by simp[h]];exact k
inductive GF:Sp|mk {vs H Q Z} (c:Int):vs=[.int c]->Q (.int (qI c)) H->GF vs H Q Z
inductive Co:Sp|mk {vs H Q Z} (a b:Cn):vs=[.int (enc a),.int (enc b)]->Q (.int (enc (iT a b))) H->Co vs H Q Z
inductive Dz:Sp|mk {vs H Q Z} (a b:Cn):vs=[.int (enc a),.int (enc b)]->a≠some 0->b≠some 0->Q (.int (enc (iB a b))) H->Dz vs H Q Z
theorem Z8:cB ["count"] ["count"] (bF (st 22)):=oP
theorem me(F:lY K "narrowed" "narrowed" (st 22) f fd)(T:uO mg):eN P w K mg aT lM 1 f fd ["count"] GF:=by
 refine oB F Z8 fun H Q hr h=>?_;obtain⟨n,rfl,k⟩:=h;refine⟨_,aJ (gN (eM Xz (pv 0) (fB T.Jz) (fU _)) (aU (cO (pv 0))) dX) (aU (cO (jY nY (fB T.Jz) (jY QE (pv 0) (fB T.Jz))))),?_⟩;refine⟨_,rfl,_,_,rfl,rfl,_,rfl,Cw (fun h=>⟨_,rfl,?_⟩) (fun h=>⟨_,rfl,_,_,rfl,rfl,(by show(0:Int)<18446744073709551616;decide),_,_,rfl,rfl,?_⟩)⟩
 .have h:=aR h;unfold qI at k;rw[if_pos h]at k;exact k
 .have h:¬n<18446744073709551616:=fun z=>h (bB z);unfold qI at k;rw[if_neg h]at k;exact k
theorem Z7:cB ["one","other"] ["one","other"] (bF (st 23)):=oP
theorem YH(F:lY K "plus" "plus" (st 23) f fd)(T:uO mg)(hN:mW P w K mg aT 1 "narrowed" ["count"] GF):eN P w K mg aT lM 2 f fd ["one","other"] Co:=by
 refine oB F Z7 fun H Q hr h=>?_;obtain⟨a,b,rfl,k⟩:=h;refine⟨_,aJ (gN (zT (eM pF (pv 0) (fB T.endless) (fU _)) (vI (eM pF (pv 1) (fB T.endless) (fU _)))).pt (aU (cO (fB T.endless))) dX) (aU (cO (dW hN hr (aB (jY nY (pv 0) (pv 1)) aP)))),?_⟩;refine⟨_,rfl,rfl,_,rfl,Cw (fun h=>oZ ?_) fun h=>⟨_,rfl,rfl,_,rfl,Cw (fun h'=>?_) fun h'=>?_⟩⟩
 .have e:=V.int.inj (aR h);rw[xS]at e;subst e;have:iT none b=none:=Tw.wR.mpr (.inl rfl);rw[this]at k;exact k
 .have e:=V.int.inj (aR h');rw[xS]at e;subst e;have:iT a none=none:=Tw.wR.mpr (.inr rfl);rw[this]at k;exact k
 .have n1:a≠none:=fun z=>h (by rw[z];exact bB rfl);have n2:b≠none:=fun z=>h' (by rw[z];exact bB rfl);obtain⟨x,rfl⟩:=oH.mp n1;obtain⟨y,rfl⟩:=oH.mp n2;refine⟨_,rfl,_,rfl,_,_,rfl,rfl,_,rfl,?_⟩;rw[ab];exact k
theorem Z6:cB ["one","other"] ["one","other"] (bF (st 24)):=oP
theorem QI(F:lY K "times" "times" (st 24) f fd)(T:uO mg)(hN:mW P w K mg aT 1 "narrowed" ["count"] GF):eN P w K mg aT lM 2 f fd ["one","other"] Dz:=by
 refine oB F Z6 fun H Q hr h=>?_;obtain⟨a,b,rfl,ha,hb,k⟩:=h;refine⟨_,aJ (gN (zT (eM pF (pv 0) (fB T.endless) (fU _)) (vI (eM pF (pv 1) (fB T.endless) (fU _)))).pt (aU (cO (fB T.endless))) dX) (aU (cO (dW hN hr (aB (jY YE (pv 0) (pv 1)) aP)))),?_⟩;refine⟨_,rfl,rfl,_,rfl,Cw (fun h=>oZ ?_) fun h=>⟨_,rfl,rfl,_,rfl,Cw (fun h'=>?_) fun h'=>?_⟩⟩
 .have e:=V.int.inj (aR h);rw[xS]at e;subst e;rw[Tw.tI.mpr (.inl ⟨rfl,hb⟩)]at k;exact k
 .have e:=V.int.inj (aR h');rw[xS]at e;subst e;rw[Tw.tI.mpr (.inr ⟨rfl,ha⟩)]at k;exact k
 .have n1:a≠none:=fun z=>h (by rw[z];exact bB rfl);have n2:b≠none:=fun z=>h' (by rw[z];exact bB rfl);obtain⟨x,rfl⟩:=oH.mp n1;obtain⟨y,rfl⟩:=oH.mp n2;refine⟨_,rfl,_,rfl,_,_,rfl,rfl,⟨TN _,TN _⟩,_,rfl,?_⟩;rw[ZW (fun z=>ha (by rw[z])) (fun z=>hb (by rw[z])),<-Tw.wN];exact k
def kL(l:Ln):Lv:=l.map fun(s:Nat)=>V.int (s:Int)
def oU(H:Hp)(q:Addr)(l:Ln):Prop:=Rd H q (.lst (kL l))
def Vr(H:Hp)(p:Addr)(r:Rule):Prop:=∃q,Rd H p (.tup [.int (r.left:Int),.ref q])/\oU H q r.right
def fZ(H:Hp)(a:Addr)(g:Lr):Prop:=∃ps:La,Rd H a (.lst (ps.map V.ref))/\eZ (Vr H) ps g
def Am(H:Hp)(a:Addr)(rs:List (Ln)):Prop:=∃qs:La,Rd H a (.lst (qs.map V.ref))/\eZ (oU H) qs rs
theorem iP:sg (.lst xs):=fun _ _ z=>nomatch z
theorem Ew:sg (.tup xs):=fun _ _ z=>nomatch z
theorem qV:sg (.dK kvs):=fun _ _ z=>nomatch z
theorem Ex{kvs:List (List iM×V)}:sg (.dT kvs):=fun _ _ z=>nomatch z
theorem oU.le(h:oU H q l)(e:Le H H'):oU H' q l:=e _ _ iP h
theorem Vr.le(h:Vr H p r)(e:Le H H'):Vr H' p r:=let ⟨q,h1,h2⟩:=h;⟨q,e _ _ Ew h1,h2.le e⟩
theorem fZ.le(h:fZ H a g)(e:Le H H'):fZ H' a g:=let ⟨ps,h1,h2⟩:=h;⟨ps,e _ _ iP h1,Paired.qE h2 fun _ _ q=>q.le e⟩
theorem Am.le{g:List (Ln)}(h:Am H a g)(e:Le H H'):Am H' a g:=let ⟨ps,h1,h2⟩:=h;⟨ps,e _ _ iP h1,Paired.qE h2 fun _ _ q=>q.le e⟩
theorem dC{α β:Type}{G:α->β->Prop}{l:List α}{m:List β}(h:eZ G l m):l.length=m.length:=iO h
theorem mQ{α:Type}{l:List α}{f:α->V}{x:V}(h:(l.map f)[i]? =some x):∃p,l[i]? =some p/\x=f p:=by rw[bT]at h;obtain⟨p,e,q⟩:=dY.mp h;exact⟨p,e,q.symm⟩
theorem nE(h:Rd H a (.tup xs)):Wj K H a xs:=.inl h
theorem cY(h:Rd H a (.lst xs)):iY K H a xs:=.inl h
theorem dM{α:Type}{l:List α}{x:α}(h:l[i]? =some x):l.take (i+1)=l.take i++[x]:=by rw[vR,h];rfl
theorem MU{α:Type}(l:List α)(h:n=l.length):l.take n=l:=by rw[h];exact bX
def sQ(w:Nat->Cn)(js:Ln):List (iM×V):=js.map fun(j:Nat)=>((aV (j:Int):iM),V.int (enc (w j)))
structure Wy(n:Nat)(w:Nat->Cn)(js:Ln):Prop where
 nd:js.Nodup
 iff:∀j,j∈js↔w j≠some 0
 le:∀j∈js,j<=n
def DW(n:Nat)(H:Hp)(d:Addr)(w:Nat->Cn):Prop:=∃js,Wy n w js/\Rd H d (.dK (sQ w js))
def DM(n:Nat)(H:Hp)(d:Addr)(w:Nat->Cn):Prop:=∃js,Wy n w js/\H d=some (.dK (sQ w js))
theorem DM.dw{w:Nat->Cn}(h:DM n H d w):DW n H d w:=let ⟨js,a,b⟩:=h;⟨js,a,.inl b⟩
theorem DW.le{w:Nat->Cn}(h:DW n H d w)(e:Le H H'):DW n H' d w:=let ⟨js,a,b⟩:=h;⟨js,a,e _ _ qV b⟩
theorem DM.at{w:Nat->Cn}(h:DM n H d w)(e:H' d=H d):DM n H' d w:=let ⟨js,a,b⟩:=h;⟨js,a,e.trans b⟩
theorem DM.same{w:Nat->Cn}(h:DM n H d w)(e:aK H H'):DM n H' d w:=let ⟨js,a,b⟩:=h;⟨js,a,e _ _ b⟩
theorem DM.ex{w:Nat->Cn}(h:DM n H d w):∃kvs,H d=some (.dK kvs):=let ⟨js,a,b⟩:=h;⟨_,b⟩
theorem Wy.len{w:Nat->Cn}(h:Wy n w js):js.length<=n+1:=by have:=h.nd.length_le_of_subset (l₂:=bD (n+1)) fun j hj=>bS.mpr (by have:=h.le j hj;lia);rwa[dU]at this
theorem Wy.lid{w:Nat->Cn}(h:Wy n w js)(q:w j≠some 0):j<=n:=h.le j ((h.iff j).mpr q)
theorem DW.lid{w:Nat->Cn}(h:DW n H d w)(q:w j≠some 0):j<=n:=let ⟨_,a,_⟩:=h;a.lid q
theorem Du{w:Nat->Cn}:∀{js:Ln} (j:Nat),eO (sQ w js) (aV (j:Int))=if j∈js then some (.int (enc (w j)))else none
 |[],j=>rfl
 |a::js,j=>by
  show eO ((aV (a:Int),V.int (enc (w a)))::sQ w js) _=_;by_cases e:a=j
  .subst e;rw[lC rfl,if_pos aF]
  .rw[lD (fun z=>e (by have:=kJ z;lia)),Du j];by_cases q:j∈js
   .rw[if_pos q,if_pos (aD _ q)]
   .rw[if_neg q,if_neg (fun z=>(aW.mp z).elim (fun x=>e x.symm) q)]
theorem Wy.val{w:Nat->Cn}(h:Wy n w js)(j:Nat):eO (sQ w js) (aV (j:Int))=if w j≠some 0 then some (.int (enc (w j)))else none:=by
 rw[Du];by_cases q:w j≠some 0
 .rw[if_pos q,if_pos ((h.iff j).mpr q)]
 .rw[if_neg q,if_neg fun z=>q ((h.iff j).mp z)]
theorem Wy.getD{w:Nat->Cn}(h:Wy n w js)(j:Nat):(eO (sQ w js) (aV (j:Int))).getD (.int 0)=.int (enc (w j)):=by
 rw[h.val];by_cases q:w j≠some 0
 .rw[if_pos q];rfl
 .rw[if_neg q];have q:w j=some 0:=bQ q;rw[q];rfl
theorem Wy.DD{w:Nat->Cn}(h:Wy n w js)(hn:n<=1000):(sQ w js).length<sizeLine:=by have:=h.len;unfold sQ;rw[aA];exact bV this (bV (yP hn) (by decide))
def xJ(w:Nat->Cn)(j:Nat)(x:Cn):Nat->Cn:=fun i=>if i=j then x else w i
theorem Wy.put{w:Nat->Cn}(h:Wy n w js){x:Cn}(hj:j<=n)(hx:x≠some 0):∃js',Wy n (xJ w j x) js'/\kG (sQ w js) (aV (j:Int)) (.int (enc x))=sQ (xJ w j x) js':=by
 by_cases q:j∈js
 .refine⟨js,⟨h.nd,fun i=>?_,h.le⟩,?_⟩
  .unfold xJ;by_cases e:i=j
   .subst e;simp[q,hx]
   .rw[if_neg e,h.iff]
  .have ZL:((sQ w js).any fun kv=>decide (kv.1=(aV (j:Int):iM)))=true:=by rw[pE,Du,if_pos q];rfl
   unfold kG;rw[if_pos ZL];unfold sQ;rw[dG];refine eJ fun i _=>?_;show(if (aV (i:Int):iM)=aV (j:Int)then _ else _)=_;unfold xJ;by_cases e:i=j
   .subst e;simp
   .rw[if_neg (fun z=>e (by have:=kJ z;lia)),if_neg e]
 .have hn:eO (sQ w js) (aV (j:Int))=none:=by rw[Du,if_neg q]
  refine⟨js++[j],⟨lW h.nd q,fun i=>?_,fun i hi=>?_⟩,?_⟩
  .unfold xJ;rw[aN,aO];by_cases e:i=j
   .subst e;simp[hx]
   .rw[if_neg e,h.iff];simp[e]
  .rcases aN.mp hi with hi|hi
   .exact h.le i hi
   .rw[aO.mp hi];exact hj
  .rw[Ej _ hn];unfold sQ;rw[aQ];congr 1
   .refine eJ fun i hi=>?_;unfold xJ;rw[if_neg (fun z=>q (by rw[<-z];exact hi))]
   .simp[xJ]
def vG(js:Ln)(f:Nat->Cn):Cn:=jZ (js.map f)
theorem Gx(js:Ln)(j:Nat)(f:Nat->Cn):vG (js++[j]) f=iT (vG js f) (f j):=by unfold vG;rw[aQ,Tw.sA];show iT _ (iT (f j) (some 0))=_;rw[Tw.mZ]
theorem Kz{w:Nat->Cn}(h:Wy n w js)(f:Nat->Cn)(hf:∀j,w j=some 0->f j=some 0):vG js f=jZ ((bD (n+1)).map f):=by
 unfold vG;refine Tw.LM h.nd (Tw.nodup_range _) (fun x hx hn=>?_) fun x _ hx=>?_
 .exact absurd (bS.mpr (by have:=h.le x hx;lia)) hn
 .exact hf x (bQ fun z=>hx ((h.iff x).mpr z))
theorem vA{w:Nat->Cn}{k:iM}{v:V}(h:(sQ w js)[i]? =some (k,v)):∃j,js[i]? =some j/\k=aV (j:Int)/\v=.int (enc (w j)):=by unfold sQ at h;rw[bT]at h;obtain⟨j,e,q⟩:=dY.mp h;cases q;exact⟨j,e,rfl,rfl⟩
theorem rT{w:Nat->Cn}:(sQ w js).length=js.length:=by unfold sQ;rw[aA]
theorem Wy.nil:Wy n (fun _=>some 0) []:=⟨Py,fun j=>by simp,fun j h=>by simp at h⟩
theorem EK:DM n (upd H d (.dK [])) d (fun _=>some 0):=⟨[],.nil,aC⟩
theorem Wy.one(h:i<=n):Wy n (Tw.oR i) [i]:=by refine⟨by simp,fun j=>?_,fun j hj=>by rw[aO.mp hj];exact h⟩;rw[aO];exact Tw.vX.symm
theorem YT:sQ (Tw.oR i) [i]=[(aV (i:Int),V.int 1)]:=by unfold sQ;rw[bL,lS];have:Tw.oR i i=some 1:=if_pos rfl;rw[this];rfl
def wU(A B:Nat->Cn)(js:Ln)(i:Nat):Nat->Cn:=fun j=>iT (A j) (if j∈js.take i then B j else some 0)
theorem Ht(A B:Nat->Cn)(js:Ln):wU A B js 0=A:=by funext j;unfold wU;rw[List.take_zero,if_neg (by simp),Tw.mZ]
theorem Nz{A B:Nat->Cn}(hi:i=js.length)(h:∀j,j∉js->B j=some 0):wU A B js i=fun j=>iT (A j) (B j):=by
 funext j;unfold wU;rw[MU js hi];by_cases q:j∈js
 .rw[if_pos q]
 .rw[if_neg q,h j q]
theorem Ug(nd:js.Nodup)(h:js[i]? =some j):j∉js.take i:=by
 intro m;obtain⟨k,hk⟩:=fD.mp m;have oT:k<i:=by have:=(aL.mp hk).1;rw[dB]at this;lia
 rw[Wa oT]at hk;have:=Rf nd hk h;lia
theorem UL{A B:Nat->Cn}(h:Wy n (wU A B js i) J)(nd:js.Nodup)(hj:js[i]? =some j)(hb:B j≠some 0)(hn:j<=n):
  ∃J',Wy n (wU A B js (i+1)) J'/\kG (sQ (wU A B js i) J) (aV (j:Int)) (.int (enc (iT (wU A B js i j) (B j))))=sQ (wU A B js (i+1)) J':=by
 have e:xJ (wU A B js i) j (iT (wU A B js i j) (B j))=wU A B js (i+1):=by
  funext k;unfold xJ wU;rw[dM hj];by_cases q:k=j
  .subst q;rw[if_pos rfl,if_neg (Ug nd hj),if_pos (by simp),Tw.mZ]
  .rw[if_neg q];simp only[aN,aO,q,or_false]
 rw[<-e]
 exact h.put hn fun z=>hb (Tw.Aj.mp z).2
theorem DM.acc{A B:Nat->Cn}(h:DM n H p (wU A B js i))(hn:n<=1000)(nd:js.Nodup)(hj:js[i]? =some j)(hb:B j≠some 0)(hle:j<=n):
  ∃kvs,H p=some (.dK kvs)/\(eO kvs (aV (j:Int))).getD (.int 0)=.int (enc (wU A B js i j))/\kvs.length<sizeLine/\
   DM n (upd H p (.dK (kG kvs (aV (j:Int)) (.int (enc (iT (wU A B js i j) (B j))))))) p (wU A B js (i+1)):=by
 obtain⟨J,hW,hp⟩:=h
 obtain⟨J',hW',e⟩:=UL hW nd hj hb hle
 exact⟨_,hp,hW.getD j,hW.DD hn,J',hW',by rw[e];exact aC⟩
theorem SX.mE(s:SX F H1 H2)(l:Le H H1)(n:∀x∈F,H x=none):Le H H2:=by
 intro b u nf r;have hb:b∉F:=fun m=>by have:=n b m;rcases r with r|⟨o,r⟩<;>rw[this]at r<;>cases r
 rcases l b u nf r with r'|⟨o,r'⟩
 .exact .inl (s _ _ r' hb)
 .exact .inr ⟨o,s _ _ r' hb⟩
theorem SX.free(s:SX F H H1){r:Addr}(h:H1 r=none)(n:∀x∈F,H x=none):H r=none:=by
 cases e:H r with
 |none=>rfl
 |some o=>
  by_cases q:r∈F
  .rw[n r q]at e;cases e
  .rw[s r o e q]at h;cases h
theorem SX.then(s:SX F H H1)(h:H a=none):SX F H (bI H1 a o):=fun b u e n=>by rw[aH (cK e h)];exact s b u e n
theorem Ll(h:Rd H d u)(hp:H p=none):d≠p:=by rintro rfl;rcases h with h|⟨o,h⟩<;>rw[hp]at h<;>cases h
abbrev ky(s i:Nat):List iM:=[aV (s:Int),aV (i:Int)]
def nS(n:Nat)(H:Hp)(a:Addr)(c:Nat->Nat->Nat->Cn):Prop:=∃kvs:List (List iM×V),Rd H a (.dT kvs)/\∀s i:Nat,
 (eO kvs (ky s i)=none/\∀j,c s i j=some 0)∨∃d,eO kvs (ky s i)=some (.ref d)/\DW n H d (c s i)
theorem nS.le(h:nS n H a c)(e:Le H H'):nS n H' a c:=by
 obtain⟨kvs,h1,h2⟩:=h;refine⟨kvs,e _ _ Ex h1,fun s i=>?_⟩;rcases h2 s i with q|⟨d,q1,q2⟩
 .exact .inl q
 .exact .inr ⟨d,q1,q2.le e⟩
theorem nS.lid(h:nS n H a c):Tw.bo n c:=by
 obtain⟨kvs,h1,h2⟩:=h;intro s i j q;rcases h2 s i with ⟨_,z⟩|⟨d,_,z⟩
 .exact absurd (z j) q
 .exact z.lid q
theorem tY(h:Rd H a (.dK kvs)):vg H a:=.inl ⟨kvs,h⟩
theorem sV{kvs:List (List iM×V)}(h:Rd H a (.dT kvs)):vg H a:=.inr ⟨kvs,h⟩
theorem kS(h:Rd H a (.dK kvs))(k:iM):Aq H a (kV k) (eO kvs k):=.inl ⟨kvs,k,h,rfl,rfl⟩
theorem Fu{kvs:List (List iM×V)}(h:Rd H a (.dT kvs)){s:Nat}(hb:H b=some (.tup [.int (s:Int),.int (i:Int)])):Aq H a (.ref b) (eO kvs (ky s i)):=.inr ⟨kvs,ky s i,b,h,rfl,hb,rfl⟩
inductive FZ:Sp|mk {vs H Q Z} (n s:Nat) (c:Nat->Nat->Nat->Cn) (wy:Nat->Cn) (a d:Addr):vs=[.ref a,.ref d,.int (s:Int)]->n<=1000->nS n H a c->DW n H d wy->(∀H' r,aK H H'->H r=none->DM n H' r (Tw.ext n c wy s)->Q (.ref r) H')->FZ vs H Q Z
theorem yn:cB ["table","ways","symbol","longer","place","before","end","trees"] ["table","ways","symbol"] (bF (st 25)):=oP
theorem ku(F:lY K "with_symbol_behind" "with_symbol_behind" (st 25) f fd)(hP:mW P w K mg aT 2 "plus" ["one","other"] Co)(hT:mW P w K mg aT 2 "times" ["one","other"] Dz):
  eN P w K mg aT lM 3 f fd ["table","ways","symbol"] FZ:=by
 refine oB F yn fun H Q hr h=>?_
 obtain⟨n,s,c,wy,a,d,rfl,hn,⟨kvs,hk,Fl⟩,⟨js,hW,hd⟩,k⟩:=h
 have hu:=jV hr
 have nd:=yn.nd
 refine⟨_,aJ (sv (i:=3) nd mB)
  (aJ (tS (gR bN rfl (rY (pv 1)) (mP rfl (dF (gv (i:=4) nd) (dF (gv (i:=5) nd) kI)))
   (aU (tS (gR bN rfl (rY (kR hu (pv 0) (oX (aB (pv 2) (aB (pv 4) aP))) zX ⟨rfl,rfl,rfl,rfl⟩)) (mP rfl (dF (gv (i:=6) nd) (dF (gv (i:=7) nd) kI)))
    (aU (lV hu (pv 3) (pv 6) (dW hP hr (aB (kR hu (pv 3) (pv 6) cH ⟨rfl,rfl,rfl,rfl⟩) (aB (dW hT hr (aB (pv 5) (aB (pv 7) aP))) aP))) rfl)))))))
  (aU (cO (pv 3)))),?_⟩
 intro p hp
 have s0:aK H (upd H p (.dK [])):=aK.upd hp
 have E8:=aK.le s0
 have ML:d≠p:=Ll hd hp
 refine wG (K:=K) (a:=4) (b:=5) (i:=1) (d:=d) (kvs:=sQ wy js) rfl (E8 _ _ qV hd) (fun H1 i σ H'=>E4 fun v4 v5 v6 v7=>A3 (σ=[some (.ref a),some (.ref d),some (.int s),some (.ref p),v4,v5,v6,v7]) (SX [p] H1 H')
  (DM n H' p (fun j=>vG (js.take i) fun q=>iB (wy q) (c s q j)))) (fun o H1 l H2 s2=>?_) (fun o H1 l i σ H' h=>?_) (fun o H1 l i k v σ H' e h H2 rt bk s2=>?_) (fun o H1 l σ H' h H3 ul=>?_)
 .exact⟨none,none,none,none,rfl,SX.of s2,[],.nil,s2 _ _ (by rw[l.ne (fun z=>ML z.symm)];exact aC)⟩
 .obtain⟨_,_,_,_,_,sx,_⟩:=h;exact sx _ _ l.at (by simp[ML])
 .obtain⟨v4,v5,v6,v7,rfl,sx,dm⟩:=h
  obtain⟨q,eq,rfl,rfl⟩:=vA e
  have ng:Le H H2:=(SX.mE sx (E8.trans (l.le qV)) (by simp[hp])).trans (aK.le s2)
  have TZ:=dm.same s2
  have hq:wy q≠some 0:=(hW.iff q).mp (aG eq)
  have Ir:=ng _ _ Ex hk
  have fin:∀(σ':L2.St) (H':Hp) v6 v7,σ'=[some (.ref a),some (.ref d),some (.int s),some (.ref p),some (.int q),some (.int (enc (wy q))),v6,v7]->SX [p] H2 H'->
    DM n H' p (fun j=>iT (vG (js.take i) fun q=>iB (wy q) (c s q j)) (iB (wy q) (c s q j)))->
    E4 fun v4 v5 v6 v7=>A3 (σ'=[some (.ref a),some (.ref d),some (.int s),some (.ref p),v4,v5,v6,v7]) (SX [p] H1 H') (DM n H' p (fun j=>vG (js.take (i+1)) fun q=>iB (wy q) (c s q j))):=by
   intro σ' H' v6 v7 e1 JL AW
   refine⟨_,_,_,_,e1,(sx.trans (SX.of s2)).trans JL,?_⟩
   have:(fun j=>vG (js.take (i+1)) fun q=>iB (wy q) (c s q j))=fun j=>iT (vG (js.take i) fun q=>iB (wy q) (c s q j)) (iB (wy q) (c s q j)):=by
    funext j
    rw[dM eq,Gx]
   rw[this]
   exact AW
  rcases Fl s q with ⟨e0,z0⟩|⟨e1,h1,js2,U9,hd2⟩
  .refine .inl ⟨_,rfl,a,rfl,sV Ir,_,rfl,_,rfl,z2,fun b hb p2 o2 Kc=>?_⟩
   have s3:aK H2 (upd (upd H2 b (.tup [.int s,.int q])) p2 (.kN o2 (.dK []))):=(aK.upd hb).trans (aK.upd Kc)
   refine⟨none,?_,p2,o2,[],rfl,aC,Bf (K:=K) (fun _ σ H'=>σ=[some (.ref a),some (.ref d),some (.int s),some (.ref p),some (.int q),some (.int (enc (wy q))),v6,v7]/\aK H2 H'/\H' p2=some (.kN o2 (.dK []))) ⟨rfl,s3,aC⟩ (fun _ _ _ _ h=>h.2.2) (fun i k v σ H e=>by simp at e) fun σ H' h=>?_⟩
   .have:=Fu (b:=b) (aK.le s3 _ _ Ex Ir) (s:=s) (i:=q) (by rw[aH (cK (by exact aC) Kc)];exact aC)
    rw[e0]at this
    exact this
   .refine fin σ H' v6 v7 h.1 (SX.of h.2.1) ?_
    have:(fun j=>iT (vG (js.take i) fun q=>iB (wy q) (c s q j)) (iB (wy q) (c s q j)))=fun j=>vG (js.take i) fun q=>iB (wy q) (c s q j):=by
     funext j
     rw[z0 j,Tw.fX.mpr (.inr rfl),Tw.mZ]
    rw[this]
    exact TZ.same h.2.1
  .have ZG:e1≠p:=Ll hd2 hp
   refine RD (K:=K) (a:=6) (b:=7) (ng _ _ qV hd2) (fun fm i' σ rW=>E2 fun v6 v7=>A3 (σ=[some (.ref a),some (.ref d),some (.int s),some (.ref p),some (.int q),some (.int (enc (wy q))),v6,v7]) (SX [p] fm rW)
    (DM n rW p (wU (fun j=>vG (js.take i) fun q=>iB (wy q) (c s q j)) (fun j=>iB (wy q) (c s q j)) js2 i'))) (fun o' fm l' R hR=>?_) (fun o' fm l' H2' VG=>?_) (fun o' fm l' i' σ rW h=>?_) (fun o' fm l' i' k v σ rW e' h H2' rt' bk' VG=>?_) (fun o' fm l' σ rW h H3 ul=>?_)
   .have DN:=(l'.le qV) _ _ Ex Ir
    refine⟨_,rfl,a,rfl,sV DN,_,rfl,_,rfl,z2,fun b hb p2 o2 Kc=>?_⟩
    have s3:aK fm (upd (upd fm b (.tup [.int s,.int q])) p2 (.kN o2 (.dK []))):=(aK.upd hb).trans (aK.upd Kc)
    refine⟨some (.ref e1),?_,e1,o',_,rfl,s3 _ _ l'.at,hR _ s3⟩
    have:=Fu (b:=b) (aK.le s3 _ _ Ex DN) (s:=s) (i:=q) (by rw[aH (cK (by exact aC) Kc)];exact aC)
    rw[h1]at this
    exact this
   .refine⟨v6,v7,rfl,SX.of VG,?_⟩
    rw[Ht]
    exact(TZ.at (l'.ne (fun z=>ZG z.symm))).same VG
   .obtain⟨_,_,_,JL,_⟩:=h
    exact JL _ _ l'.at (by simp[ZG])
   .obtain⟨v6,v7,rfl,JL,AW⟩:=h
    obtain⟨j,ej,rfl,rfl⟩:=vA e'
    have hc:c s q j≠some 0:=(U9.iff j).mp (aG ej)
    have hm:iB (wy q) (c s q j)≠some 0:=fun z=>(Tw.fX.mp z).elim hq hc
    obtain⟨kv,Ro,hg,hlen,UA⟩:=(AW.same VG).acc hn U9.nd ej hm (U9.le j (aG ej))
    refine⟨_,rfl,p,rfl,tY (.inl Ro),_,rfl,_,kS (.inl Ro) (aV (j:Int)),_,rfl,_,rfl,wy q,c s q j,rfl,hq,hc,?_⟩
    rw[hg]
    refine⟨_,_,rfl,_,rfl,_,rfl,p,_,rfl,sL.k (k:=aV (j:Int)) Ro hlen,_,_,rfl,?_,UA⟩
    exact(JL.trans (SX.of VG)).trans (SX.upd (by simp))
   .obtain⟨v6,v7,rfl,JL,AW⟩:=h
    rw[Nz rT (fun j hj=>by
     have:c s q j=some 0:=bQ fun z=>hj ((U9.iff j).mpr z)
     rw[this,Tw.fX.mpr (.inr rfl)])]at AW
    exact fin _ _ v6 v7 rfl (SX.lk l' JL (by simp[ZG]) ul) (AW.at (ul.ne (fun z=>ZG z.symm)))
 .obtain⟨v4,v5,v6,v7,rfl,sx,dm⟩:=h;refine⟨_,rfl,?_⟩;have hs:SX [p] (upd H p (.dK [])) H3:=SX.lk l sx (by simp[ML]) ul;refine k H3 p ?_ hp ?_
  .exact SX.same ((SX.trans (SX.of s0) hs).drop (by simp[hp]))
  .have e:Tw.ext n c wy s=fun j=>vG js fun q=>iB (wy q) (c s q j):=by funext j;rw[Kz hW _ (fun q hq=>Tw.fX.mpr (.inl hq))];rfl
   rw[e];rw[rT,bX]at dm;exact dm.at (ul.ne (fun z=>ML z.symm))
theorem FQ{s:Nat}:Tw.wr n c (l++[s]) i=Tw.ext n c (Tw.wr n c l i) s:=by unfold Tw.wr;rw[vT];rfl
theorem xP{x:V}(h:(kL l)[i]? =some x):∃s:Nat,l[i]? =some s/\x=.int (s:Int):=mQ (f:=fun(s:Nat)=>V.int (s:Int)) h
theorem fO:(kL l).length=l.length:=by unfold kL;rw[aA]
theorem Zu(hi:i<=n):DM n (upd (upd H p (.dK [])) p (.dK (rJ [] [((aV (i:Int):iM),V.int 1)]))) p (Tw.oR i):=⟨[i],Wy.one hi,by rw[YT];exact aC⟩
inductive OD:Sp|mk {vs H Q Z} (n i:Nat) (c:Nat->Nat->Nat->Cn) (l:Ln) (a q:Addr):vs=[.ref a,.ref q,.int (i:Int)]->n<=1000->nS n H a c->oU H q l->i<=n->(∀H' r,aK H H'->H r=none->DM n H' r (Tw.wr n c l i)->Q (.ref r) H')->OD vs H Q Z
theorem ym:cB ["table","right","place","ways","symbol"] ["table","right","place"] (bF (st 26)):=oP
theorem kz(F:lY K "ways_of_right" "ways_of_right" (st 26) f fd)(hW:mW P w K mg aT 3 "with_symbol_behind" ["table","ways","symbol"] FZ):
  eN P w K mg aT lM 4 f fd ["table","right","place"] OD:=by
 refine oB F ym fun H Q hr h=>?_
 obtain⟨n,i0,c,l,a,q,rfl,hn,hT,hR,hi,k⟩:=h
 have nd:=ym.nd
 refine⟨_,aJ (sv (i:=3) nd (Bb (wC (pv 2) cH Ay) rfl rfl (by intro z;cases z) (by show 1<=15;decide)))
  (aJ (gR bN rfl (gT (pv 1)) (gv (i:=4) nd) (aU (sv (i:=3) nd (dW hW hr (aB (pv 0) (aB (pv 3) (aB (pv 4) aP)))))))
  (aU (cO (pv 3)))),?_⟩
 intro p hp
 refine⟨_,rfl,aC,[(aV (i0:Int),.int 1)],rfl,(by show 1<=15;decide),?_⟩
 have s0:aK H (upd (upd H p (.dK [])) p (.dK (rJ [] [((aV (i0:Int):iM),V.int 1)]))):=aK.then (aK.upd hp) hp
 refine⟨_,rfl,q,rfl,⟨_,cY (aK.le s0 _ _ iP hR)⟩,mG (K:=K) (a:=q) (xs:=kL l) (fun i σ H'=>E2 fun r v4=>A4 (σ=[some (.ref a),some (.ref q),some (.int i0),some (.ref r),v4]) (aK H H') (H r=none) (DM n H' r (Tw.wr n c (l.take i) i0)))
  ⟨p,none,rfl,s0,hp,Zu hi⟩ (fun i σ H' _ ⟨_,_,_,s5,_,_⟩=>cY (aK.le s5 _ _ iP hR)) ?_ ?_⟩
 .rintro i x σ H' hx ⟨r,v4,rfl,s5,Be,dm⟩;obtain⟨s,es,rfl⟩:=xP hx;refine⟨_,rfl,_,rfl,_,rfl,n,s,c,_,a,r,rfl,hn,hT.le (aK.le s5),dm.dw,fun H2 r2 s2 f2 TZ=>?_⟩;refine⟨r2,_,rfl,s5.trans s2,s5.free f2,?_⟩;rw[dM es,FQ];exact TZ
 .rintro σ H' ⟨r,v4,rfl,s5,Be,dm⟩;rw[fO,bX]at dm;exact⟨_,rfl,k H' r s5 Be dm⟩
inductive Ld:Sp|mk {vs H Q Z} (n i:Nat) (c:Nat->Nat->Nat->Cn) (rs:List (Ln)) (a q:Addr):vs=[.ref a,.ref q,.int (i:Int)]->n<=1000->nS n H a c->Am H q rs->i<=n->(∀H' r,aK H H'->H r=none->DM n H' r (Tw.vU n c rs i)->Q (.ref r) H')->Ld vs H Q Z
theorem yl:cB ["table","rights","place","ways","right","end","trees"] ["table","rights","place"] (bF (st 27)):=oP
theorem YG(F:lY K "ways_of_rights" "ways_of_rights" (st 27) f fd)(hW:mW P w K mg aT 4 "ways_of_right" ["table","right","place"] OD)(hP:mW P w K mg aT 2 "plus" ["one","other"] Co):
  eN P w K mg aT lM 5 f fd ["table","rights","place"] Ld:=by
 refine oB F yl fun H Q hr h=>?_
 obtain⟨n,i0,c,rs,a,q,rfl,hn,hT,⟨qs,hq,hp0⟩,hi,k⟩:=h
 have nd:=yl.nd
 have hu:=jV hr
 refine⟨_,aJ (sv (i:=3) nd mB)
  (aJ (gR bN rfl (gT (pv 1)) (gv (i:=4) nd)
   (aU (gR bN rfl (rY (Ha (dW hW hr (aB (pv 0) (aB (pv 4) (aB (pv 2) aP)))))) (mP rfl (dF (gv (i:=5) nd) (dF (gv (i:=6) nd) kI)))
    (aU (lV hu (pv 3) (pv 5) (dW hP (hr.mono (by decide)) (aB (kR hu (pv 3) (pv 5) cH ⟨rfl,rfl,rfl,rfl⟩) (aB (pv 6) aP))) rfl)))))
  (aU (cO (pv 3)))),?_⟩
 intro p hp
 have s0:aK H (upd H p (.dK [])):=aK.upd hp
 have hqp:q≠p:=Ll hq hp
 refine⟨_,rfl,q,rfl,⟨_,cY (aK.le s0 _ _ iP hq)⟩,mG (K:=K) (a:=q) (xs:=qs.map V.ref) (fun i σ H'=>E3 fun v4 v5 v6=>A3 (σ=[some (.ref a),some (.ref q),some (.int i0),some (.ref p),v4,v5,v6]) (SX [p] H H') (DM n H' p (fun j=>jZ ((rs.take i).map fun l=>Tw.wr n c l i0 j))))
  ⟨none,none,none,rfl,SX.of s0,EK⟩ (fun i σ H' _ ⟨_,_,_,_,sx,_⟩=>cY ((SX.mE sx .refl (by simp[hp])) _ _ iP hq)) ?_ ?_⟩
 .rintro i x σ H' hx ⟨v4,v5,v6,rfl,sx,dm⟩
  obtain⟨q1,e1,rfl⟩:=mQ hx
  obtain⟨l,el,hl⟩:=gI hp0 e1
  have S9:Le H H':=SX.mE sx .refl (by simp[hp])
  refine⟨_,rfl,_,rfl,_,rfl,n,i0,c,l,a,q1,rfl,hn,hT.le S9,hl.le S9,hi,fun H2 r s2 f2 TZ=>?_⟩
  obtain⟨js,V0,yJ⟩:=TZ
  have uo:r≠p:=fun z=>by
   obtain⟨kv,e⟩:=dm.ex
   rw[<-z,f2]at e;cases e
  refine⟨r,_,rfl,yJ,trivial,fun o=>⟨r,o,_,rfl,aC,?_⟩⟩
  have abC:H r=none:=sx.free f2 (by simp[hp])
  have tF:SX [p] H (upd H2 r (.kN o (.dK (sQ (Tw.wr n c l i0) js)))):=(sx.trans (SX.of s2)).then abC
  refine Bf (K:=K) (a:=5) (b:=6) (fun i' σ rW=>E2 fun v5 v6=>A3 (σ=[some (.ref a),some (.ref q),some (.int i0),some (.ref p),some (.ref q1),v5,v6]) (SX [p] (upd H2 r (.kN o (.dK (sQ (Tw.wr n c l i0) js)))) rW)
   (DM n rW p (wU (fun j=>jZ ((rs.take i).map fun l=>Tw.wr n c l i0 j)) (Tw.wr n c l i0) js i'))) ?_ ?_ ?_ ?_
  .refine⟨v5,v6,rfl,.refl,?_⟩
   rw[Ht]
   exact(dm.same s2).at (aH (fun z=>uo z.symm))
  .rintro i' σ rW _ ⟨_,_,_,JL,_⟩
   exact JL _ _ aC (by simp[uo])
  .rintro i' k v σ rW e' ⟨v5,v6,rfl,JL,AW⟩ H2' rt bk VG
   obtain⟨j,ej,rfl,rfl⟩:=vA e'
   have hc:Tw.wr n c l i0 j≠some 0:=(V0.iff j).mp (aG ej)
   obtain⟨kv,Ro,hg,hlen,UA⟩:=(AW.same VG).acc hn V0.nd ej hc (V0.le j (aG ej))
   refine⟨_,rfl,p,rfl,tY (.inl Ro),_,rfl,_,kS (.inl Ro) (aV (j:Int)),_,rfl,?_⟩
   rw[hg]
   exact⟨_,_,rfl,_,rfl,_,rfl,p,_,rfl,sL.k (k:=aV (j:Int)) Ro hlen,_,_,rfl,(JL.trans (SX.of VG)).trans (SX.upd (by simp)),UA⟩
  .rintro σ rW ⟨v5,v6,rfl,JL,AW⟩
   rw[Nz rT (fun j hj=>bQ fun z=>hj ((V0.iff j).mpr z))]at AW
   refine⟨_,_,_,rfl,tF.trans JL,?_⟩
   have:(fun j=>jZ ((rs.take (i+1)).map fun l=>Tw.wr n c l i0 j))=fun j=>iT (jZ ((rs.take i).map fun l=>Tw.wr n c l i0 j)) (Tw.wr n c l i0 j):=by
    funext j
    rw[dM el,aQ,Tw.sA]
    show iT _ (iT _ (some 0))=_
    rw[Tw.mZ]
   rw[this]
   exact AW
 .rintro σ H' ⟨v4,v5,v6,rfl,sx,dm⟩;rw[aA,dC hp0,bX]at dm;exact⟨_,rfl,k H' p (SX.same (sx.drop (by simp[hp]))) hp dm⟩
inductive OP:Sp|mk {vs H Q Z} (n:Nat) (wy m:Nat->Cn) (f:Cn) (a d:Addr):vs=[.ref a,.ref d,.int (enc f)]->n<=1000->f≠some 0->DM n H a wy->DW n H d m->d≠a->(∀H',SX [a] H H'->DM n H' a (fun j=>iT (wy j) (iB f (m j)))->Q .iU H')->OP vs H Q Z
theorem xo:cB ["ways","more","factor","end","trees"] ["ways","more","factor"] (bF (st 57)):=oP
theorem C7(F:lY K "add_ways" "add_ways" (st 57) f fd)(hP:mW P w K mg aT 2 "plus" ["one","other"] Co)(hT:mW P w K mg aT 2 "times" ["one","other"] Dz):
  eN P w K mg aT lM 3 f fd ["ways","more","factor"] OP:=by
 refine oB F xo fun H Q hr h=>?_
 obtain⟨n,wy,m,ff,a,d,rfl,hn,hf,dm,⟨js,hW,hd⟩,U5,k⟩:=h
 have nd:=xo.nd
 have hu:=jV hr
 refine⟨_,aU (tS (gR bN rfl (rY (pv 1)) (mP rfl (dF (gv (i:=3) nd) (dF (gv (i:=4) nd) kI)))
   (aU (lV hu (pv 0) (pv 3) (dW hP hr (aB (kR hu (pv 0) (pv 3) cH ⟨rfl,rfl,rfl,rfl⟩) (aB (dW hT hr (aB (pv 2) (aB (pv 4) aP))) aP))) rfl)))),?_⟩
 refine wG (K:=K) (a:=3) (b:=4) (i:=1) rfl hd (fun H1 i σ H'=>E2 fun v3 v4=>A3 (σ=[some (.ref a),some (.ref d),some (.int (enc ff)),v3,v4]) (SX [a] H1 H') (DM n H' a (wU wy (fun j=>iB ff (m j)) js i)))
  (fun o H1 l H2 s2=>?_) (fun o H1 l i σ H' h=>?_) (fun o H1 l i k v σ H' e h H2 rt bk s2=>?_) (fun o H1 l σ H' h H3 ul=>?_)
 .refine⟨none,none,rfl,SX.of s2,?_⟩;rw[Ht];exact(dm.at (l.ne (fun z=>U5 z.symm))).same s2
 .obtain⟨_,_,_,sx,_⟩:=h;exact sx _ _ l.at (by simp[U5])
 .obtain⟨v3,v4,rfl,sx,AW⟩:=h;obtain⟨j,ej,rfl,rfl⟩:=vA e;have hc:m j≠some 0:=(hW.iff j).mp (aG ej);have hm:iB ff (m j)≠some 0:=fun z=>(Tw.fX.mp z).elim hf hc;obtain⟨kv,Ro,hg,hlen,UA⟩:=(AW.same s2).acc hn hW.nd ej hm (hW.le j (aG ej));refine⟨_,rfl,a,rfl,tY (.inl Ro),_,rfl,_,kS (.inl Ro) (aV (j:Int)),_,rfl,_,rfl,ff,m j,rfl,hf,hc,?_⟩;rw[hg];exact⟨_,_,rfl,_,rfl,_,rfl,a,_,rfl,sL.k (k:=aV (j:Int)) Ro hlen,_,_,rfl,(sx.trans (SX.of s2)).trans (SX.upd (by simp)),UA⟩
 .obtain⟨v3,v4,rfl,sx,AW⟩:=h
  rw[Nz rT (fun j hj=>by
   have:m j=some 0:=bQ fun z=>hj ((hW.iff j).mpr z)
   rw[this,Tw.fX.mpr (.inr rfl)])]at AW
  exact k H3 (SX.lk l sx (by simp[U5]) ul) (AW.at (ul.ne (fun z=>U5 z.symm)))
def Ao(n:Nat)(H:Hp)(b:Addr)(f:Nat->Nat->Cn):Prop:=∃ds:La,Rd H b (.lst (ds.map V.ref))/\ds.length=n+1/\∀(i:Nat) d,ds[i]? =some d->DW n H d (f i)
theorem Ao.le{f:Nat->Nat->Cn}(h:Ao n H b f)(e:Le H H'):Ao n H' b f:=let ⟨ds,h1,h2,h3⟩:=h;⟨ds,e _ _ iP h1,h2,fun i d q=>(h3 i d q).le e⟩
inductive OC:Sp|mk {vs H Q Z} (n:Nat) (wy:Nat->Cn) (ff:Nat->Nat->Cn) (d b:Addr):vs=[.ref d,.ref b]->n<=1000->DW n H d wy->Ao n H b ff->(∀H' r,aK H H'->H r=none->DM n H' r (fun j=>jZ ((bD (n+1)).map fun q=>iB (wy q) (ff q j)))->Q (.ref r) H')->OC vs H Q Z
theorem xn:cB ["first","further","ways","middle","trees"] ["first","further"] (bF (st 58)):=oP
theorem zf(F:lY K "ways_through" "ways_through" (st 58) f fd)(hA:mW P w K mg aT 3 "add_ways" ["ways","more","factor"] OP):
  eN P w K mg aT lM 4 f fd ["first","further"] OC:=by
 refine oB F xn fun H Q hr h=>?_
 obtain⟨n,wy,ff,d,b,rfl,hn,⟨js,hW,hd⟩,⟨ds,hb,hlen,uw⟩,k⟩:=h
 have nd:=xn.nd
 refine⟨_,aJ (sv (i:=2) nd mB)
  (aJ (tS (gR bN rfl (rY (pv 0)) (mP rfl (dF (gv (i:=3) nd) (dF (gv (i:=4) nd) kI)))
   (aU (fM (dW hA hr (aB (pv 2) (aB (jM gU (pv 1) (pv 3) (fun _ _=>rfl)) (aB (pv 4) aP))))))))
  (aU (cO (pv 2)))),?_⟩
 intro p hp
 have s0:aK H (upd H p (.dK [])):=aK.upd hp
 have E8:=aK.le s0
 have ML:d≠p:=Ll hd hp
 refine wG (K:=K) (a:=3) (b:=4) (i:=0) rfl (E8 _ _ qV hd) (fun H1 i σ H'=>E2 fun v3 v4=>A3 (σ=[some (.ref d),some (.ref b),some (.ref p),v3,v4]) (SX [p] H1 H') (DM n H' p (fun j=>vG (js.take i) fun q=>iB (wy q) (ff q j))))
  (fun o H1 l H2 s2=>?_) (fun o H1 l i σ H' h=>?_) (fun o H1 l i k v σ H' e h H2 rt bk s2=>?_) (fun o H1 l σ H' h H3 ul=>?_)
 .exact⟨none,none,rfl,SX.of s2,[],.nil,s2 _ _ (by rw[l.ne (fun z=>ML z.symm)];exact aC)⟩
 .obtain⟨_,_,_,sx,_⟩:=h;exact sx _ _ l.at (by simp[ML])
 .obtain⟨v3,v4,rfl,sx,dm⟩:=h;obtain⟨q,eq,rfl,rfl⟩:=vA e;have hq:wy q≠some 0:=(hW.iff q).mp (aG eq);have hqn:q<=n:=hW.le q (aG eq);have ng:Le H H2:=(SX.mE sx (E8.trans (l.le qV)) (by simp[hp])).trans (aK.le s2);obtain⟨dq,edq⟩:∃dq,ds[q]? =some dq:=⟨_,bM (by lia)⟩;have hdq:=uw q dq edq;refine⟨_,rfl,_,rfl,_,rfl,b,_,_,_,rfl,rfl,cY (ng _ _ iP hb),fY (v:=V.ref dq) (by rw[bT,edq];rfl),_,rfl,n,_,ff q,wy q,p,dq,rfl,hn,hq,dm.same s2,hdq.le ng,?_,fun H3 Ck LJ=>?_⟩
  .obtain⟨_,_,h⟩:=hdq;exact Ll h hp
  .refine⟨_,_,rfl,(sx.trans (SX.of s2)).trans Ck,?_⟩;have:(fun j=>vG (js.take (i+1)) fun q=>iB (wy q) (ff q j))=fun j=>iT (vG (js.take i) fun q=>iB (wy q) (ff q j)) (iB (wy q) (ff q j)):=by funext j;rw[dM eq,Gx]
   rw[this];exact LJ
 .obtain⟨v3,v4,rfl,sx,dm⟩:=h;refine⟨_,rfl,k H3 p ?_ hp ?_⟩
  .exact SX.same ((SX.trans (SX.of s0) (SX.lk l sx (by simp[ML]) ul)).drop (by simp[hp]))
  .have e:(fun j=>jZ ((bD (n+1)).map fun q=>iB (wy q) (ff q j)))=fun j=>vG js fun q=>iB (wy q) (ff q j):=by funext j;rw[Kz hW _ (fun q hq=>Tw.fX.mpr (.inl hq))]
   rw[e];rw[rT,bX]at dm;exact dm.at (ul.ne (fun z=>ML z.symm))
inductive Xf:Sp|mk {vs H Q Z} (n:Nat) (wy bh:Nat->Cn) (d b:Addr):vs=[.ref d,.ref b]->DW n H d wy->DW n H b bh->(∀H',aK H H'->Q (.int (enc (jZ ((bD (n+1)).map fun j=>iB (wy j) (bh j))))) H')->Xf vs H Q Z
theorem xl:cB ["ways","behind","total","end","trees"] ["ways","behind"] (bF (st 60)):=oP
theorem la(F:lY K "trees_in_all" "trees_in_all" (st 60) f fd)(hP:mW P w K mg aT 2 "plus" ["one","other"] Co)(hT:mW P w K mg aT 2 "times" ["one","other"] Dz):
  eN P w K mg aT lM 3 f fd ["ways","behind"] Xf:=by
 refine oB F xl fun H Q hr h=>?_
 obtain⟨n,wy,bh,d,b,rfl,⟨js,hW,hd⟩,⟨jb,hB,hb⟩,k⟩:=h
 have nd:=xl.nd
 have hu:=jV hr
 refine⟨_,aJ (sv (i:=2) nd cH)
  (aJ (tS (gR bN rfl (rY (pv 0)) (mP rfl (dF (gv (i:=3) nd) (dF (gv (i:=4) nd) kI)))
   (aU (gN (sG (Hb hu (pv 3) (pv 1)) (by with_unfolding_all rfl)) (aU (sv (i:=2) nd (dW hP hr (aB (pv 2) (aB (dW hT hr (aB (pv 4) (aB (nM hu (pv 1) (pv 3) (fun _ _=>rfl)) aP))) aP))))) dX))))
  (aU (cO (pv 2)))),?_⟩
 refine wG (K:=K) (a:=3) (b:=4) (i:=0) rfl hd (fun H1 i σ H'=>E2 fun v3 v4=>σ=[some (.ref d),some (.ref b),some (.int (enc (vG (js.take i) fun q=>iB (wy q) (bh q)))),v3,v4]/\aK H1 H')
  (fun o H1 l H2 s2=>?_) (fun o H1 l i σ H' h=>?_) (fun o H1 l i k v σ H' e h H2 rt bk s2=>?_) (fun o H1 l σ H' h H3 ul=>?_)
 .exact⟨none,none,rfl,s2⟩
 .obtain⟨_,_,_,sx⟩:=h;exact sx _ _ l.at
 .obtain⟨v3,v4,rfl,sx⟩:=h;obtain⟨q,eq,rfl,rfl⟩:=vA e;have hq:wy q≠some 0:=(hW.iff q).mp (aG eq);have Rt:=((l.le qV).trans ((aK.le sx).trans (aK.le s2))) _ _ qV hb;refine⟨_,rfl,_,rfl,b,_,rfl,kS Rt (aV (q:Int)),_,rfl,?_⟩;have sn:vG (js.take (i+1)) (fun q=>iB (wy q) (bh q))=iT (vG (js.take i) fun q=>iB (wy q) (bh q)) (iB (wy q) (bh q)):=by rw[dM eq,Gx]
  rw[hB.val];by_cases z:bh q≠some 0
  .rw[if_pos z];refine oZ ⟨_,rfl,_,rfl,_,rfl,_,rfl,b,.int (enc (bh q)),rfl,?_,wy q,bh q,rfl,hq,z,_,_,rfl,some (.int q),some (.int (enc (wy q))),?_,sx.trans s2⟩
   .have:=kS Rt (aV (q:Int));rw[hB.val,if_pos z]at this;exact this
   .rw[sn];rfl
  .rw[if_neg z];refine qF ⟨some (.int q),some (.int (enc (wy q))),?_,sx.trans s2⟩;have z:bh q=some 0:=bQ z;rw[sn,z,Tw.fX.mpr (.inr rfl),Tw.mZ];rfl
 .obtain⟨v3,v4,rfl,sx⟩:=h;refine⟨_,rfl,?_⟩;have:=k H3 (aK.lk l sx ul);rw[<-Kz hW _ (fun q hq=>Tw.fX.mpr (.inl hq))]at this;rw[rT,bX];exact this
theorem Fn{i1 i2:Nat}{tb:TS}(Pv:Nat->L2.St->Hp->Prop)(h0:Pv 0 σ H)(hl:∀i σ H,i<=xs.length->Pv i σ H->iY K H a xs)
  (hs:∀i x σ H,xs[i]? =some x->Pv i σ H->∀H2,aK H H2->tb {D with nx:=Pv (i+1),ct:=Pv (i+1),bk:=D.nx} ((σ.set i1 (some (.int (i:Nat)))).set i2 (some x)) H2) (hd:∀σ H,Pv xs.length σ H->D.nx σ H):
  ∃W:Nat->Nat->L2.St->Hp->Prop,(∃m,W 0 m σ H)/\∀i m σ H,W i m σ H->
   ((R0 K a).stop i H/\D.nx σ H)∨((R0 K a).go i H/\∃N:L2.St->Hp->Prop,(∀σ' H',N σ' H'->∃m',m'<m/\W (i+1) m' σ' H')/\∀x H',(R0 K a).BL i H x H'->g2 K i1 i2 x σ H' fun σ2 H2=>tb {D with nx:=N,ct:=N,bk:=D.nx} σ2 H2):=by
 refine⟨fun i m σ H=>m=xs.length-i/\i<=xs.length/\Pv i σ H,⟨xs.length,by simp,cI _,h0⟩,?_⟩
 rintro i m σ H ⟨rfl,hi,p⟩
 have q:=hl i σ H hi p
 by_cases oT:i<xs.length
 .refine .inr ⟨⟨xs,xs[i],q,by simp[oT]⟩,Pv (i+1),fun σ' H' p'=>⟨xs.length-(i+1),by lia,rfl,oT,p'⟩,fun x H' y=>?_⟩;obtain⟨T,x,rfl,hT,rfl,y⟩:=y;exact Bx (Wj.of aC) (hs i x σ _ (y xs q) p _ (aK.upd hT))
 .have e:i=xs.length:=by lia
  subst e;exact .inl ⟨⟨xs,q,aY _⟩,hd σ H p⟩
def tW(ls:List (Nat×Addr)):List (iM×V):=ls.map fun x=>((aV (x.1:Int):iM),V.ref x.2)
theorem uT(s:Nat):(s∉ls.map (·.1)/\eO (tW ls) (aV (s:Int))=none)∨∃b,(s,b)∈ls/\eO (tW ls) (aV (s:Int))=some (.ref b):=by
 induction ls with
 |nil=>exact .inl ⟨by simp,rfl⟩
 |cons x ls ih=>
  show(_/\eO ((aV (x.1:Int),V.ref x.2)::tW ls) _=none)∨∃b,_/\eO ((aV (x.1:Int),V.ref x.2)::tW ls) _=_;by_cases e:x.1=s
  .subst e;exact .inr ⟨x.2,aF,lC rfl⟩
  .rw[lD (fun z=>e (by have:=kJ z;lia))];rcases ih with ⟨h1,h2⟩|⟨b,h1,h2⟩
   .exact .inl ⟨by simp at h1 ⊢;exact⟨fun z=>e z.symm,h1⟩,h2⟩
   .exact .inr ⟨b,aD _ h1,h2⟩
def Bl(H:Hp)(a:Addr)(g:Lr)(ls:List (Nat×Addr)):Prop:=Rd H a (.dK (tW ls))/\(ls.map (·.1)).Nodup/\(∀x∈ls,Am H x.2 (cR g x.1))/\∀s,s∈ls.map (·.1)↔∃r∈g,r.left=s
theorem Bl.le(h:Bl H a g ls)(e:Le H H'):Bl H' a g ls:=let ⟨h1,h2,h3,h4⟩:=h;⟨e _ _ qV h1,h2,fun x hx=>(h3 x hx).le e,h4⟩
theorem rR(h:g[i]? =some r)(s:Nat):cR (g.take (i+1)) s=cR (g.take i) s++if r.left=s then [r.right]else []:=by unfold Tw.cR;rw[dM h,qH,aQ];by_cases q:r.left=s<;>simp[q]
theorem Paired.snoc{α β:Type}{G:α->β->Prop}:∀{l:List α} {m:List β} {a:α} {b:β},eZ G l m->G a b->eZ G (l++[a]) (m++[b])
 |_,_,_,_,.nil,h=>.cons h .nil
 |_,_,_,_,.cons x r,h=>.cons x (Paired.snoc r h)
structure VW(H H':Hp)(p:Addr)(g:Lr)(ls:List (Nat×Addr)):Prop where
 at_:H' p=some (.dK (tW ls))
 sx:SX [p] H H'
 nd:(ls.map (·.1)).Nodup
 Jy:(ls.map (·.2)).Nodup
 fresh:∀x∈ls,H x.2=none/\x.2≠p
 rows:∀x∈ls,∃qs:La,H' x.2=some (.lst (qs.map V.ref))/\eZ (oU H) qs (cR g x.1)
 mem:∀s,s∈ls.map (·.1)↔∃r∈g,r.left=s
inductive OJ:Sp|mk {vs H Q Z} (g:Lr) (a:Addr):vs=[.ref a]->fZ H a g->g.length<=1000->(∀H' r ls,aK H H'->H r=none->Bl H' r g ls->Q (.ref r) H')->OJ vs H Q Z
theorem Ka{α β:Type}{ls:List (α×β)}{a:α}{b:β}(h:(a,b)∈ls):a∈ls.map (·.1):=aE.mpr ⟨_,h,rfl⟩
theorem HI(Jy:(ls.map (·.2)).Nodup){x y:Nat×Addr}(hx:x∈ls)(hy:y∈ls)(e:x.2=y.2):x=y:=by obtain⟨i,hi⟩:=fD.mp hx;obtain⟨j,hj⟩:=fD.mp hy;have:=Rf Jy (x:=x.2) (i:=i) (j:=j) (by rw[bT,hi];rfl) (by rw[bT,hj,e];rfl);subst this;rw[hi]at hj;exact bC hj
theorem HJ{β:Type}{ls:List (Nat×β)}(nd:(ls.map (·.1)).Nodup){x y:Nat×β}(hx:x∈ls)(hy:y∈ls)(e:x.1=y.1):x=y:=by obtain⟨i,hi⟩:=fD.mp hx;obtain⟨j,hj⟩:=fD.mp hy;have:=Rf nd (x:=x.1) (i:=i) (j:=j) (by rw[bT,hi];rfl) (by rw[bT,hj,e];rfl);subst this;rw[hi]at hj;exact bC hj
theorem Lm{s:Nat}(h:s∉ls.map (·.1))(hv:eO (tW ls) (aV (s:Int))=none):kG (tW ls) (aV (s:Int)) (.ref b)=tW (ls++[(s,b)]):=by rw[Ej _ hv];unfold tW;rw[aQ];rfl
theorem VW.step{qs:La}(L:VW H H' p (g.take i) ls)(hr:g[i]? =some r)(s1:aK H' H1)(hq:oU H q r.right)(hb:(r.left,b)∈ls)(T6:H' b=some (.lst (qs.map V.ref)))(vO:eZ (oU H) qs (cR (g.take i) r.left)):
  VW H (upd H1 b (.lst (qs.map V.ref++[.ref q]))) p (g.take (i+1)) ls:=by
 obtain⟨f1,f2⟩:=L.fresh _ hb
 have f1:H b=none:=f1
 have f2:b≠p:=f2
 refine⟨?_,(L.sx.trans (SX.of s1)).then f1,L.nd,L.Jy,L.fresh,fun x hx=>?_,fun s=>?_⟩
 .rw[aH (fun z=>f2 z.symm)];exact s1 _ _ L.at_
 .by_cases e:x.2=b
  .have:=HI L.Jy hx hb e;subst this;refine⟨qs++[q],by rw[aQ];exact aC,?_⟩;rw[rR hr,if_pos rfl];exact Paired.snoc vO hq
  .obtain⟨j4,h1,h2⟩:=L.rows x hx;refine⟨j4,by rw[aH e];exact s1 _ _ h1,?_⟩;rw[rR hr,if_neg (fun z=>e (by rw[HJ L.nd hx hb z.symm])),dN];exact h2
 .rw[L.mem s,dM hr];constructor
  .rintro⟨r',h1,h2⟩;exact⟨r',dA _ h1,h2⟩
  .rintro⟨r',h1,h2⟩;rcases aN.mp h1 with h1|h1
   .exact⟨r',h1,h2⟩
   .rw[aO.mp h1]at h2;exact(L.mem s).mp (by rw[<-h2];exact Ka hb)
theorem Eh{s:Nat}(h:¬∃r∈g,r.left=s):cR g s=[]:=by unfold Tw.cR;rw[List.filter_eq_nil_iff.mpr (fun r hr=>by simp;exact fun z=>h ⟨r,hr,z⟩)];rfl
theorem yk:cB ["rules","rights","left","right"] ["rules"] (bF (st 28)):=oP
theorem lz(F:lY K "rights_of_lefts" "rights_of_lefts" (st 28) f fd):eN P w K mg aT lM 1 f fd ["rules"] OJ:=by
 refine oB F yk fun H Q hr h=>?_
 obtain⟨g,a,rfl,⟨ps,ha,uA⟩,Vb,k⟩:=h
 have nd:=yk.nd
 have hu:=jV hr
 refine⟨_,aJ (sv (i:=1) nd mB)
  (aJ (gR bN rfl (gT (pv 0)) (mP rfl (dF (gv (i:=2) nd) (dF (gv (i:=3) nd) kI)))
   (aU (fM (uY cF eY eX oN (Ep hu (pv 1) (pv 2) (fE aP) ⟨rfl,rfl,rfl,rfl⟩) (aB (pv 3) aP)))))
  (aU (cO (pv 1)))),?_⟩
 intro p hp
 have hap:a≠p:=Ll ha hp
 have mE:∀{H':Hp},SX [p] H H'->Le H H':=fun sx=>SX.mE sx .refl (by simp[hp])
 refine⟨_,rfl,a,rfl,⟨_,cY (aK.le (aK.upd hp) _ _ iP ha)⟩,mG (K:=K) (a:=a) (xs:=ps.map V.ref) (fun i σ H'=>E3 fun ls v2 v3=>σ=[some (.ref a),some (.ref p),v2,v3]/\VW H H' p (g.take i) ls)
  ⟨[],none,none,rfl,aC,SX.of (aK.upd hp),by simp,by simp,by simp,by simp,by simp⟩ (fun i σ H' _ ⟨_,_,_,_,L⟩=>cY (mE L.sx _ _ iP ha)) ?_ ?_⟩
 .rintro i x σ H' hx ⟨ls,v2,v3,rfl,L⟩
  obtain⟨q0,e0,rfl⟩:=mQ hx
  obtain⟨r,er,q,Cz,yR⟩:=gI uA e0
  refine Bx (nE (mE L.sx _ _ Ew Cz)) ?_
  refine⟨_,rfl,p,rfl,tY (.inl L.at_),_,rfl,(by show 0<=sizeLine;exact cI _),fun b hb=>?_⟩
  have ux:b≠p:=fun z=>by rw[z,L.at_]at hb;cases hb
  have s1:aK H' (upd H' b (.lst [])):=aK.upd hb
  have hlen:(tW ls).length<sizeLine:=by
   have h1:ls.length<=g.length:=by
    have:=L.nd.length_le_of_subset (l₂:=g.map (·.left)) (fun s hs=>by
     obtain⟨r,hr,e⟩:=(L.mem s).mp hs
     exact aE.mpr ⟨r,sN hr,e⟩)
    simpa using this
   unfold tW
   rw[aA]
   exact bV (bK h1 Vb) (by decide)
  refine .inl ⟨_,aV (r.left:Int),s1 _ _ L.at_,rfl,hlen,fun v hv=>?_,fun hv=>?_⟩
  .rcases uT (ls:=ls) r.left with ⟨_,z⟩|⟨b',Iv,z⟩
   .rw[z]at hv;cases hv
   .rw[z]at hv
    cases hv
    obtain⟨qs,h1,h2⟩:=L.rows _ Iv
    refine⟨.inl ⟨rfl,_,iY.of (s1 _ _ h1)⟩,_,rfl,b',_,_,rfl,rfl,s1 _ _ h1,?_,ls,_,_,rfl,L.step er s1 yR Iv h1 h2⟩
    rw[aA,dC h2]
    refine bV (m:=g.length) ?_ (bV Vb (by decide))
    unfold Tw.cR
    rw[aA]
    exact bK (eF _ _) (by rw[dB];lia)
  .rcases uT (ls:=ls) r.left with ⟨hn,z⟩|⟨b',Iv,z⟩
   .have VQ:H b=none:=L.sx.free hb (by simp[hp])
    have VJ:¬∃r'∈g.take i,r'.left=r.left:=fun z=>hn ((L.mem _).mpr z)
    rw[Lm hn z]
    refine⟨.inl ⟨rfl,_,iY.of (by rw[aH ux];exact aC)⟩,_,rfl,b,_,_,rfl,rfl,by rw[aH ux];exact aC,(by show 0<sizeLine;decide),ls++[(r.left,b)],_,_,rfl,?_⟩
    have nb:∀x∈ls,x.2≠b:=fun x hx e=>by
     obtain⟨qs,h1,_⟩:=L.rows x hx
     rw[e,hb]at h1;cases h1
    refine⟨?_,?_,?_,?_,?_,?_,?_⟩
    .rw[aH (fun z=>ux z.symm)];exact aC
    .exact((((L.sx.trans (SX.of s1))).trans (SX.upd (by simp))).then VQ)
    .rw[aQ];exact lW L.nd hn
    .rw[aQ];exact lW L.Jy fun m=>by
      obtain⟨x,hx,e⟩:=aE.mp m
      exact nb x hx e
    .intro x hx
     rcases aN.mp hx with hx|hx
     .exact L.fresh x hx
     .rw[aO.mp hx];exact⟨VQ,ux⟩
    .intro x hx
     rcases aN.mp hx with hx|hx
     .obtain⟨qs,h1,h2⟩:=L.rows x hx
      refine⟨qs,?_,?_⟩
      .rw[aH (nb x hx),aH (L.fresh x hx).2];exact s1 _ _ h1
      .rw[rR er,if_neg (fun z=>hn (by rw[z];exact aE.mpr ⟨x,hx,rfl⟩)),dN]
       exact h2
     .rw[aO.mp hx]
      refine⟨[q],aC,?_⟩
      rw[rR er,if_pos rfl,Eh VJ]
      exact .cons yR .nil
    .intro s
     rw[aQ,aN,L.mem s,dM er]
     constructor
     .rintro(⟨r',h1,h2⟩|h)
      .exact⟨r',dA _ h1,h2⟩
      .simp at h
       exact⟨r,by simp,h.symm⟩
     .rintro⟨r',h1,h2⟩
      rcases aN.mp h1 with h1|h1
      .exact .inl ⟨r',h1,h2⟩
      .rw[aO.mp h1]at h2
       exact .inr (by simp[h2])
   .rw[z]at hv;cases hv
 .rintro σ H' ⟨ls,v2,v3,rfl,L⟩;rw[aA,dC uA,bX]at L;refine⟨_,rfl,k H' p ls (SX.same (L.sx.drop (by simp[hp]))) hp ⟨.inl L.at_,L.nd,fun x hx=>?_,L.mem⟩⟩;obtain⟨qs,h1,h2⟩:=L.rows x hx;exact⟨qs,.inl h1,Paired.qE h2 fun _ _ z=>z.le (mE L.sx)⟩
abbrev TL:=List ((Nat×Nat)×Addr)
def Fg(ls:TL):List (List iM×V):=ls.map fun x=>(ky x.1.1 x.1.2,V.ref x.2)
theorem RN{s s' i':Nat}(h:ky s i=ky s' i'):(s,i)=(s',i'):=by have h1:=(eK h).1;have h2:=(eK (eK h).2).1;have a:=kJ h1;have b:=kJ h2;exact Prod.ext (by show s=s';lia) (by show i=i';lia)
theorem qM{ls:TL}(s i:Nat):((s,i)∉ls.map (·.1)/\eO (Fg ls) (ky s i)=none)∨∃b,((s,i),b)∈ls/\eO (Fg ls) (ky s i)=some (.ref b):=by
 induction ls with
 |nil=>exact .inl ⟨by simp,rfl⟩
 |cons x ls ih=>
  show(_/\eO ((ky x.1.1 x.1.2,V.ref x.2)::Fg ls) _=none)∨∃b,_/\eO ((ky x.1.1 x.1.2,V.ref x.2)::Fg ls) _=_;by_cases e:x.1=(s,i)
  .refine .inr ⟨x.2,?_,lC (by rw[e])⟩;rw[<-e];exact aF
  .rw[lD (fun z=>e (RN z))];rcases ih with ⟨h1,h2⟩|⟨b,h1,h2⟩
   .exact .inl ⟨fun m=>(aW.mp m).elim (fun z=>e z.symm) h1,h2⟩
   .exact .inr ⟨b,aD _ h1,h2⟩
structure TX(n:Nat)(H:Hp)(a:Addr)(c:Nat->Nat->Nat->Cn)(ls:TL):Prop where
 at_:H a=some (.dT (Fg ls))
 nd:(ls.map (·.1)).Nodup
 Jy:(ls.map (·.2)).Nodup
 bd:∀x∈ls,x.1.1<512/\x.1.2<=n
 ent:∀x∈ls,DM n H x.2 (c x.1.1 x.1.2)
 out:∀s i,(s,i)∉ls.map (·.1)->∀j,c s i j=some 0
theorem TX.na{ls:TL}(h:TX n H a c ls){x:(Nat×Nat)×Addr}(hx:x∈ls):x.2≠a:=fun e=>by obtain⟨kv,q⟩:=(h.ent x hx).ex;rw[e,h.at_]at q;cases q
theorem TX.tab{ls:TL}(h:TX n H a c ls):nS n H a c:=by
 refine⟨_,.inl h.at_,fun s i=>?_⟩;rcases qM (ls:=ls) s i with ⟨h1,h2⟩|⟨b,h1,h2⟩
 .exact .inl ⟨h2,h.out s i h1⟩
 .exact .inr ⟨b,h2,(h.ent _ h1).dw⟩
theorem TX.same{ls:TL}(h:TX n H a c ls)(s:aK H H'):TX n H' a c ls:=⟨s _ _ h.at_,h.nd,h.Jy,h.bd,fun x hx=>(h.ent x hx).same s,h.out⟩
theorem TX.at{ls:TL}(h:TX n H a c ls)(s:∀b,b=a∨b∈ls.map (·.2)->H' b=H b):TX n H' a c ls:=
 ⟨(s a (.inl rfl)).trans h.at_,h.nd,h.Jy,h.bd,fun x hx=>(h.ent x hx).at (s _ (.inr (aE.mpr ⟨x,hx,rfl⟩))),h.out⟩
theorem TX.len{ls:TL}(h:TX n H a c ls)(hn:n<=100):(Fg ls).length<sizeLine:=by
 have:=h.nd.length_le_of_subset (l₂:=(bD 512).flatMap fun s=>(bD (n+1)).map fun i=>(s,i)) (fun x hx=>by
  obtain⟨y,hy,rfl⟩:=aE.mp hx
  obtain⟨b1,b2⟩:=h.bd y hy
  exact bG.mpr ⟨y.1.1,bS.mpr b1,aE.mpr ⟨y.1.2,bS.mpr (by lia),rfl⟩⟩)
 rw[aA,fH]at this
 have e:((bD 512).map fun s=>((bD (n+1)).map fun i=>(s,i)).length)=(bD 512).map fun _=>n+1:=by refine eJ fun s _=>?_;rw[aA,dU]
 rw[e,Tw.oJ,dU]at this
 unfold Fg
 rw[aA]
 exact bV (bK this (pM 512 (yP hn))) (by decide)
theorem Yy{ls:TL}(Jy:(ls.map (·.2)).Nodup){x y:(Nat×Nat)×Addr}(hx:x∈ls)(hy:y∈ls)(e:x.2=y.2):x=y:=by obtain⟨i,hi⟩:=fD.mp hx;obtain⟨j,hj⟩:=fD.mp hy;have:=Rf Jy (x:=x.2) (i:=i) (j:=j) (by rw[bT,hi];rfl) (by rw[bT,hj,e];rfl);subst this;rw[hi]at hj;exact bC hj
theorem Mx{ls:TL}(nd:(ls.map (·.1)).Nodup){x y:(Nat×Nat)×Addr}(hx:x∈ls)(hy:y∈ls)(e:x.1=y.1):x=y:=by obtain⟨i,hi⟩:=fD.mp hx;obtain⟨j,hj⟩:=fD.mp hy;have:=Rf nd (x:=x.1) (i:=i) (j:=j) (by rw[bT,hi];rfl) (by rw[bT,hj,e];rfl);subst this;rw[hi]at hj;exact bC hj
theorem TX.new{ls:TL}(h:TX n H a c ls){s:Nat}(hs:s<512)(hi:i<=n)(hn:(s,i)∉ls.map (·.1))(hb:b∉ls.map (·.2))(ha:H' a=some (.dT (Fg (ls++[((s,i),b)]))))
  (he:∀x∈ls,H' x.2=H x.2) (hd:DM n H' b (c' s i)) (hc:∀s' i',(s',i')≠(s,i)->c' s' i'=c s' i'):TX n H' a c' (ls++[((s,i),b)]):=by
 refine⟨ha,?_,?_,fun x hx=>?_,fun x hx=>?_,fun s' i' Uz j=>?_⟩
 .rw[aQ];exact lW h.nd hn
 .rw[aQ];exact lW h.Jy hb
 .rcases aN.mp hx with hx|hx
  .exact h.bd x hx
  .rw[aO.mp hx];exact⟨hs,hi⟩
 .rcases aN.mp hx with hx|hx
  .have ne:x.1≠(s,i):=fun z=>hn (by rw[<-z];exact aE.mpr ⟨x,hx,rfl⟩);have:=(h.ent x hx).at (he x hx);rw[<-hc x.1.1 x.1.2 ne]at this;exact this
  .rw[aO.mp hx];exact hd
 .rw[aQ,aN,not_or]at Uz;have ne:(s',i')≠(s,i):=fun z=>Uz.2 (by rw[z];simp);rw[hc s' i' ne];exact h.out s' i' Uz.1 j
theorem TX.put{ls:TL}(h:TX n H a c ls){s:Nat}(hm:((s,i),b)∈ls)(hH:∀x,x≠b->H' x=H x)(hd:DM n H' b (c' s i))(hc:∀s' i',(s',i')≠(s,i)->c' s' i'=c s' i'):TX n H' a c' ls:=by
 refine⟨(hH a (fun z=>h.na hm z.symm)).trans h.at_,h.nd,h.Jy,h.bd,fun x hx=>?_,fun s' i' Uz j=>?_⟩
 .by_cases e:x.2=b
  .have:=Yy h.Jy hx hm e;subst this;exact hd
  .have ne:x.1≠(s,i):=fun z=>e (by rw[Mx h.nd hx hm z]);have:=(h.ent x hx).at (hH _ e);rw[<-hc x.1.1 x.1.2 ne]at this;exact this
 .have ne:(s',i')≠(s,i):=fun z=>Uz (by rw[z];exact aE.mpr ⟨_,hm,rfl⟩);rw[hc s' i' ne];exact h.out s' i' Uz j
theorem Tv{ls:TL}{s:Nat}(hv:eO (Fg ls) (ky s i)=none):kG (Fg ls) (ky s i) (.ref b)=Fg (ls++[((s,i),b)]):=by rw[Ej _ hv];unfold Fg;rw[aQ];rfl
def Ee(ls:TL)(k:Nat×Nat)(b:Addr):TL:=ls.map fun x=>if x.1=k then (x.1,b)else x
theorem Ec(ls:TL)(k:Nat×Nat)(b:Addr):(Ee ls k b).map (·.1)=ls.map (·.1):=by unfold Ee;rw[dG];refine eJ fun x _=>?_;show(if x.1=k then (x.1,b)else x).1=x.1;split<;>rfl
theorem Xs{ls:TL}{s:Nat}{b':Addr}(hm:((s,i),b')∈ls):kG (Fg ls) (ky s i) (.ref b)=Fg (Ee ls (s,i) b):=by
 unfold kG;rw[if_pos]
 .unfold Fg Ee;rw[dG,dG];refine eJ fun x _=>?_;show(if ky x.1.1 x.1.2=ky s i then _ else _)=(ky (if x.1=(s,i)then (x.1,b)else x).1.1 (if x.1=(s,i)then (x.1,b)else x).1.2,V.ref (if x.1=(s,i)then (x.1,b)else x).2);by_cases e:x.1=(s,i)
  .rw[if_pos (by rw[e]),if_pos e]
  .rw[if_neg (fun z=>e (RN z)),if_neg e]
 .rw[dI];exact⟨(ky s i,V.ref b'),aE.mpr ⟨_,hm,rfl⟩,by simp⟩
theorem TX.set{b':Addr}{ls:TL}(h:TX n H a c ls){s:Nat}(hm:((s,i),b')∈ls)(hb:b∉ls.map (·.2))(ha:H' a=some (.dT (Fg (Ee ls (s,i) b))))
  (he:∀x∈ls,H' x.2=H x.2) (hd:DM n H' b (c' s i)) (hc:∀s' i',(s',i')≠(s,i)->c' s' i'=c s' i'):TX n H' a c' (Ee ls (s,i) b):=by
 have mem:∀{y},y∈Ee ls (s,i) b->(y=((s,i),b))∨(y∈ls/\y.1≠(s,i)):=by
  intro y hy;obtain⟨x,hx,e⟩:=aE.mp hy;by_cases q:x.1=(s,i)
  .rw[if_pos q]at e;left;rw[<-e,q]
  .rw[if_neg q]at e;right;rw[<-e];exact⟨hx,q⟩
 refine⟨ha,by rw[Ec];exact h.nd,?_,fun x hx=>?_,fun x hx=>?_,fun s' i' Uz j=>?_⟩
 .
  have:∀(l:TL),(l.map (·.1)).Nodup->(l.map (·.2)).Nodup->b∉l.map (·.2)->((Ee l (s,i) b).map (·.2)).Nodup:=by
   intro l;induction l with
   |nil=>intro _ _ _;exact Py
   |cons x l ih=>
    intro n1 n2 nb;rw[bL,cQ]at n1 n2;have nb':b∉l.map (·.2):=fun z=>nb (aD _ z);show((if x.1=(s,i)then (x.1,b)else x).2::(Ee l (s,i) b).map (·.2)).Nodup;rw[cQ];refine⟨?_,ih n1.2 n2.2 nb'⟩;by_cases q:x.1=(s,i)
    .rw[if_pos q];intro m;obtain⟨y,hy,e⟩:=aE.mp m;obtain⟨z,hz,e2⟩:=aE.mp hy;have nz:z.1≠(s,i):=fun w=>n1.1 (by rw[q,<-w];exact aE.mpr ⟨z,hz,rfl⟩);rw[if_neg nz]at e2;exact nb' (by rw[<-e2]at e;exact aE.mpr ⟨z,hz,e⟩)
    .rw[if_neg q];intro m;obtain⟨y,hy,e⟩:=aE.mp m;obtain⟨z,hz,e2⟩:=aE.mp hy;by_cases q2:z.1=(s,i)
     .rw[if_pos q2]at e2;rw[<-e2]at e;exact nb (aE.mpr ⟨x,aF,e.symm⟩)
     .rw[if_neg q2]at e2;rw[<-e2]at e;exact n2.1 (aE.mpr ⟨z,hz,e⟩)
  exact this ls h.nd h.Jy hb
 .rcases mem hx with rfl|⟨hx,_⟩
  .exact⟨(h.bd _ hm).1,(h.bd _ hm).2⟩
  .exact h.bd x hx
 .rcases mem hx with rfl|⟨hx,ne⟩
  .exact hd
  .have:=(h.ent x hx).at (he x hx);rw[<-hc x.1.1 x.1.2 ne]at this;exact this
 .rw[Ec]at Uz;have ne:(s',i')≠(s,i):=fun z=>Uz (by rw[z];exact aE.mpr ⟨_,hm,rfl⟩);rw[hc s' i' ne];exact h.out s' i' Uz j
def QX(L:Ln)(n:Nat)(f:Nat->Nat->Bool):Nat:=(L.map fun s=>((bD (n+1)).filter (f s)).length).sum
theorem Gn{f f':Nat->Bool}(h:∀j∈l,f' j=true->f j=true):(l.filter f').length<=(l.filter f).length:=by
 induction l with
 |nil=>exact aY _
 |cons a l ih=>
  have:=ih fun j hj=>h j (aD _ hj);rw[fV,fV];cases e:f' a with
  |false=>simp only[iI,if_false];split<;>simp<;>lia
  |true=>rw[h a aF e];simp;lia
theorem Gm{f f':Nat->Bool}(h:∀j∈l,f' j=true->f j=true)(hj:j∈l)(h1:f j=true)(h2:f' j=false):(l.filter f').length<(l.filter f).length:=by
 induction l with
 |nil=>simp at hj
 |cons a l ih=>
  have h':∀j∈l,f' j=true->f j=true:=fun j hj=>h j (aD _ hj);have le:=Gn h';rw[fV,fV];rcases aW.mp hj with rfl|hj
  .rw[h1,h2];simp;lia
  .have:=ih h' hj;cases e:f' a with
   |false=>simp only[iI,if_false];split<;>simp<;>lia
   |true=>rw[h a aF e];simp;lia
theorem nc{L:Ln}{f f':Nat->Nat->Bool}(h:∀s∈L,∀j,j<=n->f' s j=true->f s j=true):QX L n f'<=QX L n f:=by
 unfold QX;induction L with
 |nil=>exact aY _
 |cons a L ih=>rw[bL,bL,iC,iC];have h1:=Gn (l:=bD (n+1)) (f:=f a) (f':=f' a) fun j hj=>h a aF j (by have:=bS.mp hj;lia);have h2:=ih fun s hs=>h s (aD _ hs);lia
theorem QW{L:Ln}{f f':Nat->Nat->Bool}(h:∀s∈L,∀j,j<=n->f' s j=true->f s j=true){s:Nat}(hs:s∈L)(hj:j<=n)(h1:f s j=true)(h2:f' s j=false):QX L n f'<QX L n f:=by
 induction L with
 |nil=>simp at hs
 |cons a L ih=>
  have hl:∀s∈L,∀j,j<=n->f' s j=true->f s j=true:=fun s hs=>h s (aD _ hs);have le:QX L n f'<=QX L n f:=nc hl;show((bD (n+1)).filter (f' a)).length+QX L n f'<((bD (n+1)).filter (f a)).length+QX L n f;have h3:=Gn (l:=bD (n+1)) (f:=f a) (f':=f' a) fun j hj=>h a aF j (by have:=bS.mp hj;lia);rcases aW.mp hs with rfl|hs
  .have:=Gm (l:=bD (n+1)) (f:=f s) (f':=f' s) (fun j hj=>h s aF j (by have:=bS.mp hj;lia)) (bS.mpr (by lia)) h1 h2;lia
  .have:=ih hl hs;lia
def Ib(t:T):Lv:=t.map fun c=>V.int (c.toNat:Int)
theorem Nl{s:Nat}:mJ g t (t.length+1) s i j=if 256<=s/\j=i+1/\(t[i]?).map (fun c=>c.toNat+256)=some s then some 1 else some 0:=by
 by_cases hs:256<=s
 .rw[Tw.Sb hs,Tw.UH hs];by_cases q:j=i+1/\(t[i]?).map (fun c=>c.toNat+256)=some s
  .rw[if_pos q,if_pos ⟨hs,q⟩]
  .rw[if_neg q,if_neg fun z=>q z.2]
 .rw[if_neg fun z=>hs z.1];by_cases hi:t.length+1<=i
  .rw[Tw.oQ hi,Tw.kC];intro c;have:=c.le;lia
  .unfold Tw.mJ;rw[if_neg fun z=>z.elim hi hs]
inductive jo:Sp|mk {vs H Q Z} (t:T) (a:Addr):vs=[.ref a]->t.length<=100->Rd H a (.lst (Ib t))->(∀H' r ls (g:Lr),aK H H'->H r=none->TX t.length H' r (mJ g t (t.length+1)) ls->(∀x∈ls,256<=x.1.1/\H x.2=none)->Q (.ref r) H')->jo vs H Q Z
theorem yj:cB ["text","table","place","byte"] ["text"] (bF (st 29)):=oP
noncomputable def cb(t:T)(k:Nat)(s i j:Nat):Cn:=if i<k/\256<=s/\j=i+1/\(t[i]?).map (fun c=>c.toNat+256)=some s then some 1 else some 0
theorem C4(F:lY K "byte_table" "byte_table" (st 29) f fd)(T:uO mg):eN P w K mg aT lM 1 f fd ["text"] jo:=by
 refine oB F yj fun H Q hr h=>?_
 obtain⟨t,a,rfl,uM,ha,k⟩:=h
 have nd:=yj.nd
 have hu:=jV hr
 refine⟨_,aJ (sv (i:=1) nd Ma)
  (aJ (gR bN rfl (Jx rfl T.enum (aB (pv 0) aP)) (mP rfl (dF (gv (i:=2) nd) (dF (gv (i:=3) nd) kI)))
   (aU (lV hu (pv 1) (oX (aB (jY nY (fB T.tH) (pv 3)) (aB (pv 2) aP))) (Bb (wC (jY nY (pv 2) cH) cH Ay) rfl rfl (by intro z;cases z) (by show 1<=15;decide)) rfl)))
  (aU (cO (pv 1)))),?_⟩
 intro p hp
 have hap:a≠p:=Ll ha hp
 have mE:∀{H':Hp},SX [p] H H'->Le H H':=fun sx=>SX.mE sx .refl (by simp[hp])
 refine⟨_,rfl,a,_,rfl,cY (aK.le (aK.upd hp) _ _ iP ha),Fn (K:=K) (a:=a) (xs:=Ib t) (i1:=2) (i2:=3) (fun i σ H'=>E3 fun ls v2 v3=>A4 (σ=[some (.ref a),some (.ref p),v2,v3]) (SX [p] H H') (TX t.length H' p (cb t i) ls) (∀x∈ls,256<=x.1.1/\x.1.2<i/\H x.2=none))
  ⟨[],none,none,rfl,SX.of (aK.upd hp),⟨aC,by simp,by simp,by simp,by simp,fun s i _ j=>by unfold cb;rw[if_neg (by lia)]⟩,by simp⟩ (fun i σ H' _ ⟨_,_,_,_,sx,_,_⟩=>cY (mE sx _ _ iP ha)) ?_ ?_⟩
 .rintro i x σ H' hx ⟨ls,v2,v3,rfl,sx,X,Hn⟩ H2 s2;obtain⟨ch,ec,rfl⟩:=mQ (f:=fun c:UInt8=>V.int (c.toNat:Int)) hx;have hit:i<t.length:=(aL.mp ec).1;have X2:=X.same s2;intro d hd;refine⟨_,rfl,_,_,rfl,rfl,aC,[(aV ((i:Int)+1),.int 1)],rfl,(by show 1<=15;decide),?_⟩;refine⟨_,rfl,_,rfl,_,_,rfl,rfl,_,rfl,z2,fun b hb=>?_⟩;have ML:d≠p:=fun z=>by rw[z,X2.at_]at hd;cases hd
  have s3:aK H2 (upd (upd H2 d (.dK [])) d (.dK (rJ [] [((aV ((i:Int)+1):iM),V.int 1)]))):=aK.then (aK.upd hd) hd;have X3:=X2.same s3;have X4:=X3.same (aK.upd (o:=.tup [.int (256+(ch.toNat:Int)),.int (i:Int)]) hb);have ux:b≠p:=fun z=>by rw[z,X3.at_]at hb;cases hb
  have HS:d≠b:=fun z=>by rw[<-z,aC]at hb;cases hb
  have MM:d∉ls.map (·.2):=fun m=>by obtain⟨y,hy,e⟩:=aE.mp m;obtain⟨kv,q⟩:=(X2.ent y hy).ex;rw[e,hd]at q;cases q
  have DQ:(256+ch.toNat,i)∉ls.map (·.1):=fun m=>by obtain⟨y,hy,e⟩:=aE.mp m;have:=(Hn y hy).2.1;rw[e]at this;lia
  have hv:eO (Fg ls) (ky (256+ch.toNat) i)=none:=by
   rcases qM (ls:=ls) (256+ch.toNat) i with ⟨_,z⟩|⟨b',Iv,_⟩
   .exact z
   .exact absurd (aE.mpr ⟨_,Iv,rfl⟩) DQ
  refine⟨p,_,rfl,sL.t (k:=ky (256+ch.toNat) i) X4.at_ (by rw[aC];show some (HO.tup [V.int (256+(ch.toNat:Int)),V.int (i:Int)])=some (HO.tup [V.int ((256+ch.toNat:Nat):Int),V.int (i:Int)]);push_cast;rfl) (X4.len (by lia)),?_⟩;rw[Tv hv];have V1:H d=none:=(sx.trans (SX.of s2)).free hd (by simp[hp]);have VQ:H b=none:=(sx.trans (SX.of (s2.trans s3))).free hb (by simp[hp]);refine⟨ls++[((256+ch.toNat,i),d)],_,_,rfl,(((sx.trans (SX.of (s2.trans s3))).then VQ).trans (SX.upd (by simp))),?_,?_⟩
  .refine X4.new (c':=cb t (i+1)) (by have:=ch.toNat_lt;lia) (by lia) DQ MM aC (fun y hy=>aH (X4.na hy)) ?_ ?_
   .have e:cb t (i+1) (256+ch.toNat) i=Tw.oR (i+1):=by
     funext j;unfold cb Tw.oR;rw[ec];by_cases q:j=i+1
     .rw[if_pos q,if_pos ⟨by lia,by lia,q,by simp;lia⟩]
     .rw[if_neg q,if_neg fun z=>q z.2.2.1]
    rw[e];have:=Zu (H:=H2) (p:=d) (n:=t.length) (i:=i+1) (by lia);refine(this.same (aK.upd hb)).at (by rw[aH ML];push_cast;rfl)
   .intro s' i' ne;funext j;unfold cb;by_cases q:i'<i
    .simp[q,xA q]
    .rw[if_neg (fun z:i'<i/\_=>q z.1)];refine if_neg fun z=>ne ?_;have:i'=i:=(by lia);subst this;have h4:=z.2.2.2;rw[ec]at h4;have:ch.toNat+256=s':=bC h4;exact Prod.ext (by show s'=256+ch.toNat;lia) rfl
  .intro y hy;rcases aN.mp hy with hy|hy
   .exact⟨(Hn y hy).1,by have:=(Hn y hy).2.1;lia,(Hn y hy).2.2⟩
   .rw[aO.mp hy];exact⟨by show 256<=256+ch.toNat;lia,by show i<i+1;lia,V1⟩
 .rintro σ H' ⟨ls,v2,v3,rfl,sx,X,Hn⟩;refine⟨_,rfl,?_⟩;have lt:(Ib t).length=t.length:=by unfold Ib;rw[aA]
  rw[lt]at X;refine k H' p ls [] (SX.same (sx.drop (by simp[hp]))) hp ?_ (fun x hx=>⟨(Hn x hx).1,(Hn x hx).2.2⟩)
  have e:mJ [] t (t.length+1)=cb t t.length:=by
   funext s i j;rw[Nl];unfold cb;by_cases q:i<t.length
   .simp[q]
   .rw[if_neg (fun z:i<t.length/\_=>q z.1)];refine if_neg fun z=>?_;have:=z.2.2;rw[vM.mpr (by lia)]at this;cases this
  rw[e];exact X
theorem GS{kvs:List (List iM×V)}(h:H a=some (.dT kvs))(xs:Lv):¬Rd H a (.lst xs):=by rintro(r|⟨o,r⟩)<;>rw[h]at r<;>cases r
theorem Eu(h:Rd H a (.dK kvs))(xs:Lv):¬Rd H a (.lst xs):=by rcases h with h|⟨o,h⟩<;>rintro(r|⟨o',r⟩)<;>rw[h]at r<;>cases r
theorem Am.sx{rs:List (Ln)}(h:Am H q rs)(s:SX F H H')(nl:∀x∈F,∀xs,¬Rd H x (.lst xs)):Am H' q rs:=by
 have le:∀{b xs},Rd H b (.lst xs)->Rd H' b (.lst xs):=fun{b xs} r=>by
  have hb:b∉F:=fun m=>nl b m xs r;rcases r with r|⟨o,r⟩
  .exact .inl (s _ _ r hb)
  .exact .inr ⟨o,s _ _ r hb⟩
 obtain⟨qs,h1,h2⟩:=h;exact⟨qs,le h1,Paired.qE h2 fun _ _ z=>le z⟩
theorem SX.ul{H3:Hp}{o:Obj}(s:SX [a,d] H H2)(ul:Ul H1 d o u H2 H3)(hd:H1 d=H d)(h2:H2 d=some (.kN o u)):SX [a] H H3:=by
 intro b x e n;by_cases q:b=d
 .subst q;rw[<-hd]at e;rcases ul with ⟨h,rfl⟩|⟨h,rfl⟩
  .rw[h]at e;cases e;exact aC
  .rw[h]at e;cases e;exact h2
 .rw[ul.ne q];exact s b x e (by simp at n ⊢;exact⟨n,q⟩)
structure FI(H:Hp)(b:Addr)(g:Lr)(t:T)(p:Nat)(H':Hp)(a:Addr)(c:Nat->Nat->Nat->Cn)(ls:TL):Prop where
 tx:TX t.length H' a c ls
 fd:vP g t p c
 no:∀x∈ls,x.1.1<256->p<=x.1.2
 fr:∀x∈ls,x.1.1<256->x.1.2=p->H x.2=none
 nb:∀x∈ls,x.2≠b
noncomputable def QR(L:Ln)(n p:Nat)(c:Nat->Nat->Nat->Cn):Nat:=QX L n fun s j=>decide (c s p j=some 0)
inductive ji:Sp|mk {vs H Q Z} (g:Lr) (t:T) (p:Nat) (a b:Addr) (Dp:TL) (zZ:List (Nat×Addr)):vs=[.ref a,.ref b,.int (p:Int)]->WF g->t.length<=100->p<=t.length->TX t.length H a (mJ g t (p+1)) Dp->(∀x∈Dp,(x.1.1<256->p<x.1.2)/\x.2≠b)->Bl H b g zZ->(∀H' c ls,SX [a] H H'->TX t.length H' a c ls->pI g t p c->(∀s∈zZ.map (·.1),(s,p)∈ls.map (·.1))->(∀x∈ls,(x.1.1<256->p<=x.1.2)/\x.2≠b)->Q .iU H')->ji vs H Q Z
theorem HF{k:iM}{v:V}(h:(tW ls)[i]? =some (k,v)):∃x,ls[i]? =some x/\k=aV (x.1:Int)/\v=.ref x.2:=by unfold tW at h;rw[bT]at h;obtain⟨j,e,q⟩:=dY.mp h;cases q;exact⟨j,e,rfl,rfl⟩
theorem HE:(tW ls).length=ls.length:=by unfold tW;rw[aA]
theorem yi:cB ["table","lefts","place","found","left","rights","ends","end"] ["table","lefts","place"] (bF (st 30)):=oP
theorem B5(F:lY K "find_ends" "find_ends" (st 30) f fd)(T:uO mg)(hW:mW P w K mg aT 5 "ways_of_rights" ["table","rights","place"] Ld):
  eN P w K mg aT lM 6 f fd ["table","lefts","place"] ji:=by
 refine oB F yi fun H Q hr h=>?_
 obtain⟨g,t,p,a,b,Dp,zZ,rfl,wf,uM,MH,X0,oz,⟨hb,hbn,M4,M5⟩,k⟩:=h
 have nd:=yi.nd
 have hu:=jV hr
 refine⟨_,aJ (sv (i:=3) nd sP)
  (aU (wA bN (nF (pv 3)) (aJ (sv (i:=3) nd sP)
   (aU (tS (gR bN rfl (rY (pv 1)) (mP rfl (dF (gv (i:=4) nd) (dF (gv (i:=5) nd) kI)))
    (aJ (sv (i:=6) nd (Ep hu (pv 0) (oX (aB (pv 4) (aB (pv 2) aP))) mB ⟨rfl,rfl,rfl,rfl⟩))
     (aU (gR bN rfl (En (Ha (dW hW hr (aB (pv 0) (aB (pv 5) (aB (pv 2) aP)))))) (gv (i:=7) nd)
      (aU (gN (sG (pV hu (pv 7) (pv 6)) (by with_unfolding_all rfl)) (aJ (lV hu (pv 6) (pv 7) (fB T.endless) rfl) (aU (sv (i:=3) nd sP))) dX))))))))))),?_⟩
 have Vd:a≠b:=fun z=>by have h1:=X0.at_;rcases hb with h|⟨o,h⟩<;>rw[<-z,h1]at h<;>cases h
 have nl:∀x∈[a,b],∀xs,¬Rd H x (.lst xs):=by
  intro x hx xs;simp at hx;rcases hx with rfl|rfl
  .exact GS X0.at_ xs
  .exact Eu hb xs
 have hHa:H a≠none:=by rw[X0.at_];simp
 have VQ:H b≠none:=fun z=>by rcases hb with h|⟨o,h⟩<;>rw[h]at z<;>cases z
 have FI0:FI H b g t p H a (mJ g t (p+1)) Dp:=⟨X0,Tw.LO,fun x hx q=>zK ((oz x hx).1 q),fun x hx q e=>absurd ((oz x hx).1 q) (by lia),fun x hx=>(oz x hx).2⟩
 refine⟨fun m σ H'=>E7 fun Kd c ls v4 v5 v6 v7=>A5 (σ=[some (.ref a),some (.ref b),some (.int p),some (.bl Kd),v4,v5,v6,v7]) (SX [a] H H') (FI H b g t p H' a c ls)
   (Kd=false->∀x∈zZ,(x.1,p)∈ls.map (·.1)/\∀j,vU t.length c (cR g x.1) p j≠some 0->c x.1 p j≠some 0) (m=QR (zZ.map (·.1)) t.length p c+(if Kd=true then 1 else 0)),
  ⟨_,true,_,_,none,none,none,none,rfl,SX.refl,FI0,(fun z=>by cases z),rfl⟩,?_⟩
 rintro m σ H' ⟨Kd,c,ls,v4,v5,v6,v7,rfl,sx,I,dn,rfl⟩
 refine⟨_,rfl,Kd,rfl,?_⟩
 cases Kd with
 |false=>
  refine qF ?_;have dn:=dn rfl;have cl:∀s j,s<256->vU t.length c (cR g s) p j≠some 0->c s p j≠some 0:=by intro s j hs h;obtain⟨l,hl,_⟩:=(Tw.FP I.tx.tab.lid MH).mp h;obtain⟨r,hr,e,_⟩:=Tw.xN.mp hl;obtain⟨x,hx,e2⟩:=aE.mp ((M5 s).mpr ⟨r,hr,e⟩);have:=(dn x hx).2 j;rw[e2]at this;exact this h
  refine k H' c ls sx I.tx (I.fd.ao wf MH (I.fd.done MH cl)) (fun s hs=>?_) (fun x hx=>⟨I.no x hx,I.nb x hx⟩);obtain⟨x,hx,e2⟩:=aE.mp hs;rw[<-e2];exact(dn x hx).1
 |true=>
  refine oZ ⟨_,fun σ' rW h=>h,?_⟩
  have Iv:Rd H' b (.dK (tW zZ)):=by
   rcases hb with h|⟨o,h⟩
   .exact .inl (sx _ _ h (by simp[Vd.symm]))
   .exact .inr ⟨o,sx _ _ h (by simp[Vd.symm])⟩
  have qf:H' b=H b:=by
   rcases hb with h|⟨o,h⟩<;>rw[h]<;>exact sx _ _ h (by simp[Vd.symm])
  refine wG (K:=K) (a:=4) (b:=5) (i:=1) rfl Iv (fun H1 i σ H2=>E7 fun Kd c2 pX v4 v5 v6 v7=>A6 (σ=[some (.ref a),some (.ref b),some (.int p),some (.bl Kd),v4,v5,v6,v7]) (SX [a,b] H H2) (H2 b=H1 b) (FI H b g t p H2 a c2 pX)
    (Kd=false->c2=c/\∀x∈zZ.take i,(x.1,p)∈pX.map (·.1)/\∀j,vU t.length c (cR g x.1) p j≠some 0->c x.1 p j≠some 0)
    (Kd=true->QR (zZ.map (·.1)) t.length p c2<QR (zZ.map (·.1)) t.length p c)) (fun o H1 l H2 s2=>?_) (fun o H1 l i σ H2 h=>?_) (fun o H1 l i kk v σ H2 e h H3 rt bk s3=>?_) (fun o H1 l σ H2 h H3 ul=>?_)
  .refine⟨false,c,ls,v4,v5,v6,v7,rfl,?_,?_,?_,fun _=>⟨rfl,by simp⟩,fun z=>by cases z⟩
   .intro x y hx hn
    have p6:x≠b:=fun z=>hn (by simp[z])
    exact s2 _ _ (by rw[l.ne p6];exact sx _ _ hx (fun z=>hn (by simp at z ⊢;exact .inl z)))
   .rw[s2 _ _ l.at,l.at]
   .refine⟨(I.tx.at fun y hy=>l.ne ?_).same s2,I.fd,I.no,I.fr,I.nb⟩
    rcases hy with rfl|hy
    .exact Vd
    .obtain⟨x,hx,rfl⟩:=aE.mp hy
     exact I.nb x hx
  .obtain⟨_,_,_,_,_,_,_,_,_,h2,_⟩:=h
   rw[h2,l.at]
  .obtain⟨Kd,c2,pX,v4,v5,v6,v7,rfl,tF,Rt,I2,d0,d1⟩:=h
   obtain⟨x,ex,rfl,rfl⟩:=HF e
   have MF:=aG ex
   obtain⟨r0,Be,er0⟩:=(M5 x.1).mp (aE.mpr ⟨x,MF,rfl⟩)
   have Yz:x.1<256:=by rw[<-er0];exact(wf r0 Be).1
   have I3:FI H b g t p H3 a c2 pX:=⟨I2.tx.same s3,I2.fd,I2.no,I2.fr,I2.nb⟩
   have Ck:=tF.trans (SX.of s3)
   have HV:H3 b=H1 b:=by rw[<-Rt];exact s3 _ _ (by rw[Rt];exact l.at)|>.trans (by rw[Rt];exact l.at.symm)
   have key:∀(Mn:TL) (H4:Hp) (e4:Addr),((x.1,p),e4)∈Mn->(∀y∈pX.map (·.1),y∈Mn.map (·.1))->SX [a,b] H H4->H4 b=H1 b->FI H b g t p H4 a c2 Mn->
     NY (HK (WY (JJ Ld (gS (fC 0) (gS (fC 5) (gS (fC 2) oW)))))) (mF 7)
      (JI (tB (Tg (fC 7) (fC 6))) (Kx (OW (fC 6) (fC 7) (tC (.int (-1)))) (Xb (tC (.bl true)) (mF 3))) Qm)
      ⟨fun σ H2=>E7 fun Kd c2 pX v4 v5 v6 v7=>A6 (σ=[some (.ref a),some (.ref b),some (.int p),some (.bl Kd),v4,v5,v6,v7]) (SX [a,b] H H2) (H2 b=H1 b) (FI H b g t p H2 a c2 pX)
       (Kd=false->c2=c/\∀x∈zZ.take (i+1),(x.1,p)∈pX.map (·.1)/\∀j,vU t.length c (cR g x.1) p j≠some 0->c x.1 p j≠some 0)
       (Kd=true->QR (zZ.map (·.1)) t.length p c2<QR (zZ.map (·.1)) t.length p c),rt,bk,fun σ H2=>E7 fun Kd c2 pX v4 v5 v6 v7=>A6 (σ=[some (.ref a),some (.ref b),some (.int p),some (.bl Kd),v4,v5,v6,v7]) (SX [a,b] H H2) (H2 b=H1 b) (FI H b g t p H2 a c2 pX)
       (Kd=false->c2=c/\∀x∈zZ.take (i+1),(x.1,p)∈pX.map (·.1)/\∀j,vU t.length c (cR g x.1) p j≠some 0->c x.1 p j≠some 0)
       (Kd=true->QR (zZ.map (·.1)) t.length p c2<QR (zZ.map (·.1)) t.length p c)⟩ [some (.ref a),some (.ref b),some (.int p),some (.bl Kd),some (.int x.1),some (.ref x.2),some (.ref e4),v7] H4:=by
    intro Mn H4 e4 HR Jp Gw pz I4
    have hHe:H e4=none:=I4.fr _ HR Yz rfl
    refine⟨_,rfl,_,rfl,_,rfl,t.length,p,c2,cR g x.1,a,x.2,rfl,by lia,I4.tx.tab,(M4 x MF).sx Gw nl,MH,fun H5 r s5 f5 VR=>?_⟩
    obtain⟨J,hJ,J4⟩:=VR
    refine⟨r,_,rfl,J4,trivial,fun o5=>⟨r,o5,rfl,.inl ⟨_,aC,?_⟩⟩⟩
    have N7:H r=none:=by
     cases q:H r with
     |none=>rfl
     |some y=>
      by_cases m:r∈[a,b]
      .simp at m
       rcases m with rfl|rfl
       .rw[I4.tx.at_]at f5;cases f5
       .rw[pz,l.at]at f5;cases f5
      .rw[Gw r y q m]at f5;cases f5
    have her:e4≠r:=fun z=>by
     obtain⟨kv,q⟩:=(I4.tx.ent _ HR).ex
     rw[z,f5]at q;cases q
    have Rn:a≠r:=fun z=>hHa (by rw[z];exact N7)
    have x8:b≠r:=fun z=>VQ (by rw[z];exact N7)
    have I5:FI H b g t p (upd H5 r (.kN o5 (.dK (sQ (vU t.length c2 (cR g x.1) p) J)))) a c2 Mn:=by
     refine⟨(I4.tx.same s5).at fun y hy=>aH ?_,I4.fd,I4.no,I4.fr,I4.nb⟩
     rcases hy with rfl|hy
     .exact Rn
     .obtain⟨z,hz,rfl⟩:=aE.mp hy
      rintro rfl
      obtain⟨kv,q⟩:=(I4.tx.ent _ hz).ex
      rw[f5]at q;cases q
    refine Zg (a:=7) (fun i' σ H6=>E3 fun Zi c6 v7=>A8 (σ=[some (.ref a),some (.ref b),some (.int p),some (.bl Zi),some (.int x.1),some (.ref x.2),some (.ref e4),v7]) (SX [a,b] H H6) (H6 b=H1 b)
      (H6 r=some (.kN o5 (.dK (sQ (vU t.length c2 (cR g x.1) p) J)))) (FI H b g t p H6 a c6 Mn) (∀j∈J.take i',c6 x.1 p j≠some 0) (Zi=false->Kd=false/\c6=c2)
      (Zi=true->QR (zZ.map (·.1)) t.length p c6<QR (zZ.map (·.1)) t.length p c)) ?_ ?_ ?_ ?_
    .refine⟨Kd,c2,v7,rfl,(Gw.trans (SX.of s5)).then N7,?_,aC,I5,by simp,fun z=>⟨z,rfl⟩,d1⟩
     rw[aH x8,s5 _ _ (by rw[pz];exact l.at),l.at]
    .rintro i' σ H6 _ ⟨_,_,_,_,_,_,h6,_⟩
     exact h6
    .rintro i' kk' v' σ H6 e6 ⟨Zi,c6,v7',rfl,XB,ZK,oq,I6,ba,z6,m6⟩ rt' bk'
     obtain⟨j,ej,rfl,rfl⟩:=vA e6
     have hjJ:=aG ej
     have hw:vU t.length c2 (cR g x.1) p j≠some 0:=(hJ.iff j).mp hjJ
     have T9:j<=t.length:=hJ.le j hjJ
     obtain⟨J6,hJ6,he6⟩:=I6.tx.ent _ HR
     refine⟨_,rfl,_,rfl,e4,_,rfl,kS (.inl he6) (aV (j:Int)),_,rfl,?_⟩
     rw[hJ6.val]
     by_cases q:c6 x.1 p j≠some 0
     .rw[if_pos q]
      refine qF ⟨Zi,c6,_,rfl,XB,ZK,oq,I6,?_,z6,m6⟩
      intro j' pb
      rw[dM ej]at pb
      rcases aN.mp pb with h|h
      .exact ba j' h
      .rw[aO.mp h];exact q
     .rw[if_neg q]
      have q:c6 x.1 p j=some 0:=bQ q
      obtain⟨J7,hJ7,e7⟩:=hJ6.put (j:=j) (x:=none) T9 (by simp)
      refine oZ ⟨_,rfl,_,rfl,e4,_,rfl,sL.k (k:=aV (j:Int)) he6 (hJ6.DD (by lia)),?_⟩
      have e8:kG (sQ (c6 x.1 p) J6) (aV (j:Int)) (.int (-1))=sQ (xJ (c6 x.1 p) j none) J7:=e7
      refine⟨true,fun s' i j'=>if s'=x.1/\i=p/\j'=j then none else c6 s' i j',_,rfl,XB.then hHe,?_,?_,?_,?_,(fun z=>by cases z),fun _=>?_⟩
      .rw[aH (fun z=>VQ (by rw[z];exact hHe))];exact ZK
      .rw[aH (fun z=>her z.symm)];exact oq
      .refine⟨?_,I6.fd.put wf MH I4.fd Yz hw,I6.no,I6.fr,I6.nb⟩
       refine I6.tx.put HR (fun y hy=>aH hy) ⟨J7,?_,?_⟩ ?_
       .have:(fun j'=>if x.1=x.1/\p=p/\j'=j then none else c6 x.1 p j')=xJ (c6 x.1 p) j none:=by
         funext j'
         unfold xJ
         simp
        rw[this];exact hJ7
       .have:(fun j'=>if x.1=x.1/\p=p/\j'=j then none else c6 x.1 p j')=xJ (c6 x.1 p) j none:=by
         funext j'
         unfold xJ
         simp
        rw[this,<-e8];exact aC
       .intro s' i2 ne
        funext j'
        exact if_neg fun z=>ne (Prod.ext z.1 z.2.1)
      .intro j' pb
       rw[dM ej]at pb
       show(if x.1=x.1/\p=p/\j'=j then none else c6 x.1 p j')≠some 0
       by_cases z:j'=j
       .rw[if_pos ⟨rfl,rfl,z⟩];simp
       .rw[if_neg fun y=>z y.2.2]
        rcases aN.mp pb with h|h
        .exact ba j' h
        .exact absurd (aO.mp h) z
      .have lt:QR (zZ.map (·.1)) t.length p (fun s' i j'=>if s'=x.1/\i=p/\j'=j then none else c6 s' i j')<QR (zZ.map (·.1)) t.length p c6:=by
        refine QW (fun s hs j' pb z=>?_) (aE.mpr ⟨x,MF,rfl⟩) T9 (bB q) ?_
        .have z:=aR z
         refine bB ?_
         dsimp only at z
         split at z
         .cases z
         .exact z
        .refine bH ?_
         show ¬(if x.1=x.1/\p=p/\j=j then none else c6 x.1 p j)=some 0
         rw[if_pos ⟨rfl,rfl,rfl⟩]
         simp
       cases hf:Zi with
       |true=>exact BF lt (m6 hf)
       |false=>
        obtain⟨z1,z2⟩:=z6 hf
        rw[z2,(d0 z1).1]at lt
        rw[z2,(d0 z1).1]
        exact lt
    .rintro σ H6 ⟨Zi,c6,v7',rfl,XB,ZK,oq,I6,ba,z6,m6⟩
     refine⟨Zi,c6,Mn,_,_,_,_,rfl,XB,ZK,I6,fun hf=>?_,m6⟩
     obtain⟨z1,z2⟩:=z6 hf
     obtain⟨d2,d3⟩:=d0 z1
     refine⟨z2.trans d2,fun y hy=>?_⟩
     rw[dM ex]at hy
     rcases aN.mp hy with hy|hy
     .exact⟨Jp _ (d3 y hy).1,(d3 y hy).2⟩
     .rw[aO.mp hy]
      refine⟨aE.mpr ⟨_,HR,rfl⟩,fun j hj=>?_⟩
      rw[<-d2]at hj ⊢
      have:=ba j (by rw[rT,bX];exact(hJ.iff j).mpr hj)
      rw[z2]at this
      exact this
   refine⟨_,rfl,a,rfl,sV (.inl I3.tx.at_),_,rfl,_,rfl,z2,fun b1 LC qx DR=>?_⟩
   have s4:aK H3 (upd (upd H3 b1 (.tup [.int (x.1:Int),.int (p:Int)])) qx (.dK [])):=(aK.upd LC).trans (aK.upd DR)
   have X4:=I3.tx.same s4
   have L7:∀{y:Addr},H3 y=none->H y=none:=fun{y} h=>by
    cases q:H y with
    |none=>rfl
    |some z=>
     by_cases m:y∈[a,b]
     .simp at m
      rcases m with rfl|rfl
      .rw[I3.tx.at_]at h;cases h
      .rw[HV,l.at]at h;cases h
     .rw[Ck y z q m]at h;cases h
   have abB:=L7 LC
   have ZI:H3 qx=none:=(aK.upd (o:=.tup [.int (x.1:Int),.int (p:Int)]) LC).free DR
   have abA:=L7 ZI
   have aaN:b1≠qx:=fun z=>by rw[<-z,aC]at DR;cases DR
   refine .inr ⟨_,ky x.1 p,b1,X4.at_,rfl,by rw[aH aaN];exact aC,X4.len (by lia),fun v hv=>?_,fun hv=>?_⟩
   .rcases qM (ls:=pX) x.1 p with ⟨_,z⟩|⟨e4,HR,z⟩
    .rw[z]at hv;cases hv
    .rw[z]at hv
     cases hv
     refine key pX _ e4 HR (fun y hy=>hy) (Ck.trans (SX.of s4)) ?_ ⟨X4,I3.fd,I3.no,I3.fr,I3.nb⟩
     exact(s4 _ _ (by rw[HV];exact l.at)).trans l.at.symm
   .rcases qM (ls:=pX) x.1 p with ⟨hn,z⟩|⟨e4,HR,z⟩
    .rw[Tv z]
     have aaO:a≠qx:=fun z=>by rw[<-z,I3.tx.at_]at ZI;cases ZI
     have MM:qx∉pX.map (·.2):=fun m=>by
      obtain⟨y,hy,e⟩:=aE.mp m
      obtain⟨kv,q⟩:=(I3.tx.ent y hy).ex
      rw[e,ZI]at q;cases q
     have V1:=abA
     refine key (pX++[((x.1,p),qx)]) _ qx (by simp) (fun y hy=>by rw[aQ];exact dA _ hy) ?_ ?_ ⟨?_,I3.fd,?_,?_,?_⟩
     .exact(Ck.trans (SX.of s4)).trans (SX.upd (by simp))
     .rw[aH Vd.symm];exact(s4 _ _ (by rw[HV];exact l.at)).trans l.at.symm
     .refine X4.new (by lia) MH hn MM aC (fun y hy=>aH (X4.na hy)) ?_ (fun _ _ _=>rfl)
      have:c2 x.1 p=fun _=>some 0:=by
       funext j
       exact X4.out x.1 p hn j
      rw[this]
      exact⟨[],.nil,by rw[aH aaO.symm];exact aC⟩
     .intro y hy q
      rcases aN.mp hy with hy|hy
      .exact I3.no y hy q
      .rw[aO.mp hy];exact aY _
     .intro y hy q q2
      rcases aN.mp hy with hy|hy
      .exact I3.fr y hy q q2
      .rw[aO.mp hy];exact V1
     .intro y hy
      rcases aN.mp hy with hy|hy
      .exact I3.nb y hy
      .rw[aO.mp hy];exact fun z=>VQ (by rw[<-z];exact V1)
    .rw[z]at hv;cases hv
  .obtain⟨Kd,c2,pX,v4,v5,v6,v7,rfl,tF,Rt,I2,d0,d1⟩:=h
   have Ck:SX [a] H H3:=SX.ul tF ul qf (by rw[Rt];exact l.at)
   have I3:FI H b g t p H3 a c2 pX:=by
    refine⟨I2.tx.at fun y hy=>ul.ne ?_,I2.fd,I2.no,I2.fr,I2.nb⟩
    rcases hy with rfl|hy
    .exact Vd
    .obtain⟨x,hx,rfl⟩:=aE.mp hy
     exact I2.nb x hx
   cases Kd with
   |false=>
    obtain⟨rfl,d2⟩:=d0 rfl
    rw[HE,bX]at d2
    exact⟨_,by simp,false,_,pX,_,_,_,_,rfl,Ck,I3,fun _=>d2,rfl⟩
   |true=>
    exact⟨_,by have:=d1 rfl;simp;lia,true,_,pX,_,_,_,_,rfl,Ck,I3,(fun z=>by cases z),rfl⟩
theorem RQ{W V:Nat->Cn}{JV:Ln}(h:Wy n W J)(k:Wy n V JV)(ap:∀j,Ap (V j) (W j)):
  (((sQ W J).length==(sQ V JV).length)&&(sQ W J).all fun p=>decide (eO (sQ V JV) p.1=some p.2))=true↔W=V:=by
 rw[bJ,cX]
 constructor
 .rintro⟨_,h2⟩;funext j;by_cases q:W j≠some 0
  .have:=aR (h2 (aV (j:Int),.int (enc (W j))) (aE.mpr ⟨j,(h.iff j).mpr q,rfl⟩));rw[k.val]at this;rw[if_pos fun z=>q ((ap j).zero.mp z)]at this;have e:=L2.V.int.inj (bC this);rcases ap j with z|⟨z,_⟩
   .exact z.symm
   .rw[z]at e;rw[z,<-xS];exact e.symm
  .have q:W j=some 0:=bQ q;rw[q,(ap j).zero.mpr q]
 .rintro rfl;refine⟨?_,fun p hp=>?_⟩
  .rw[rT,rT,beq_iff_eq];exact((kY h.nd k.nd).mpr fun x=>by rw[h.iff,k.iff]).length_eq
  .obtain⟨j,hj,rfl⟩:=aE.mp hp;refine bB ?_;show eO _ (aV (j:Int))=_;rw[k.val,if_pos ((h.iff j).mp hj)]
theorem HC{W:Nat->Cn}:∀p∈sQ W J,∃i,p.2=.int i:=fun p hp=>by obtain⟨j,_,rfl⟩:=aE.mp hp;exact⟨_,rfl⟩
noncomputable def D8(L:Ln)(n p:Nat)(c:Nat->Nat->Nat->Cn):Nat:=QX L n fun s j=>decide (c s p j=none)
structure CI(b:Addr)(g:Lr)(t:T)(p:Nat)(H':Hp)(a:Addr)(c:Nat->Nat->Nat->Cn)(Dp ls:TL):Prop where
 tx:TX t.length H' a c ls
 ct:pI g t p c
 fs:ls.map (·.1)=Dp.map (·.1)
 nb:∀x∈ls,x.2≠b
inductive jn:Sp|mk {vs H Q Z} (g:Lr) (t:T) (p:Nat) (a b:Addr) (c0:Nat->Nat->Nat->Cn) (Dp:TL) (zZ:List (Nat×Addr)):vs=[.ref a,.ref b,.int (p:Int)]->WF g->t.length<=100->p<=t.length->TX t.length H a c0 Dp->pI g t p c0->(∀x∈Dp,x.2≠b)->Bl H b g zZ->(∀s∈zZ.map (·.1),(s,p)∈Dp.map (·.1))->(∀H' ls,SX [a] H H'->TX t.length H' a (mJ g t p) ls->ls.map (·.1)=Dp.map (·.1)->(∀x∈ls,x.2≠b)->Q .iU H')->jn vs H Q Z
theorem yh:cB ["table","lefts","place","changed","left","rights","ways"] ["table","lefts","place"] (bF (st 31)):=oP
theorem C2(F:lY K "count_ends" "count_ends" (st 31) f fd)(hW:mW P w K mg aT 5 "ways_of_rights" ["table","rights","place"] Ld):
  eN P w K mg aT lM 6 f fd ["table","lefts","place"] jn:=by
 refine oB F yh fun H Q hr h=>?_
 obtain⟨g,t,p,a,b,c0,Dp,zZ,rfl,wf,uM,MH,X0,C0,nb0,⟨hb,hbn,M4,M5⟩,HP,k⟩:=h
 have nd:=yh.nd
 have hu:=jV hr
 refine⟨_,aJ (sv (i:=3) nd sP)
  (aU (wA bN (nF (pv 3)) (aJ (sv (i:=3) nd sP)
   (aU (tS (gR bN rfl (rY (pv 1)) (mP rfl (dF (gv (i:=4) nd) (dF (gv (i:=5) nd) kI)))
    (aJ (sv (i:=6) nd (dW hW hr (aB (pv 0) (aB (pv 5) (aB (pv 2) aP)))))
     (aU (gN (eM (JW hr.gk) (pv 6) (nM hu (pv 0) (oX (aB (pv 4) (aB (pv 2) aP))) (fun _ _=>rfl)) (fU _))
      (aJ (lV hu (pv 0) (oX (aB (pv 4) (aB (pv 2) aP))) (pv 6) rfl) (aU (sv (i:=3) nd sP))) dX))))))))),?_⟩
 have Vd:a≠b:=fun z=>by have h1:=X0.at_;rcases hb with h|⟨o,h⟩<;>rw[<-z,h1]at h<;>cases h
 have nl:∀x∈[a,b],∀xs,¬Rd H x (.lst xs):=by
  intro x hx xs;simp at hx;rcases hx with rfl|rfl
  .exact GS X0.at_ xs
  .exact Eu hb xs
 have VQ:H b≠none:=fun z=>by rcases hb with h|⟨o,h⟩<;>rw[h]at z<;>cases z
 refine⟨fun m σ H'=>E6 fun ch c ls v4 v5 v6=>A5 (σ=[some (.ref a),some (.ref b),some (.int p),some (.bl ch),v4,v5,v6]) (SX [a] H H') (CI b g t p H' a c Dp ls)
   (ch=false->∀x∈zZ,∀j,c x.1 p j=vU t.length c (cR g x.1) p j) (m=D8 (zZ.map (·.1)) t.length p c+(if ch=true then 1 else 0)),
  ⟨_,true,_,_,none,none,none,rfl,SX.refl,⟨X0,C0,rfl,nb0⟩,(fun z=>by cases z),rfl⟩,?_⟩
 rintro m σ H' ⟨ch,c,ls,v4,v5,v6,rfl,sx,I,dn,rfl⟩
 refine⟨_,rfl,ch,rfl,?_⟩
 cases ch with
 |false=>
  refine qF ?_;have dn:=dn rfl
  have fx:∀s j,s<256->c s p j=vU t.length c (cR g s) p j:=by
   intro s j hs;by_cases q:∃r∈g,r.left=s
   .obtain⟨x,hx,e2⟩:=aE.mp ((M5 s).mpr q);rw[<-e2];exact dn x hx j
   .have e0:=Eh q;have:vU t.length c (cR g s) p j=some 0:=(by rw[e0];rfl);rw[this,(I.ct.ap s p j).zero,Tw.oQ (aY _),Tw.kC,Tw.wQ wf hs];rintro⟨r,h1,h2,_⟩;exact q ⟨r,h1,h2⟩
  have e:=I.ct.done wf MH fx;exact k H' ls sx (by rw[<-e];exact I.tx) I.fs I.nb
 |true=>
  refine oZ ⟨_,fun σ' rW h=>h,?_⟩
  have Iv:Rd H' b (.dK (tW zZ)):=by
   rcases hb with h|⟨o,h⟩
   .exact .inl (sx _ _ h (by simp[Vd.symm]))
   .exact .inr ⟨o,sx _ _ h (by simp[Vd.symm])⟩
  have qf:H' b=H b:=by
   rcases hb with h|⟨o,h⟩<;>rw[h]<;>exact sx _ _ h (by simp[Vd.symm])
  refine wG (K:=K) (a:=4) (b:=5) (i:=1) rfl Iv (fun H1 i σ H2=>E6 fun ch c2 pX v4 v5 v6=>A6 (σ=[some (.ref a),some (.ref b),some (.int p),some (.bl ch),v4,v5,v6]) (SX [a,b] H H2) (H2 b=H1 b) (CI b g t p H2 a c2 Dp pX)
    (ch=false->c2=c/\∀x∈zZ.take i,∀j,c x.1 p j=vU t.length c (cR g x.1) p j)
    (ch=true->D8 (zZ.map (·.1)) t.length p c2<D8 (zZ.map (·.1)) t.length p c)) (fun o H1 l H2 s2=>?_) (fun o H1 l i σ H2 h=>?_) (fun o H1 l i kk v σ H2 e h H3 rt bk s3=>?_) (fun o H1 l σ H2 h H3 ul=>?_)
  .refine⟨false,c,ls,v4,v5,v6,rfl,?_,?_,?_,fun _=>⟨rfl,by simp⟩,fun z=>by cases z⟩
   .intro x y hx hn
    have p6:x≠b:=fun z=>hn (by simp[z])
    exact s2 _ _ (by rw[l.ne p6];exact sx _ _ hx (fun z=>hn (by simp at z ⊢;exact .inl z)))
   .rw[s2 _ _ l.at,l.at]
   .refine⟨(I.tx.at fun y hy=>l.ne ?_).same s2,I.ct,I.fs,I.nb⟩
    rcases hy with rfl|hy
    .exact Vd
    .obtain⟨x,hx,rfl⟩:=aE.mp hy
     exact I.nb x hx
  .obtain⟨_,_,_,_,_,_,_,_,h2,_⟩:=h
   rw[h2,l.at]
  .obtain⟨ch,c2,pX,v4,v5,v6,rfl,tF,Rt,I2,d0,d1⟩:=h
   obtain⟨x,ex,rfl,rfl⟩:=HF e
   have MF:=aG ex
   obtain⟨r0,Be,er0⟩:=(M5 x.1).mp (aE.mpr ⟨x,MF,rfl⟩)
   have Yz:x.1<256:=by rw[<-er0];exact(wf r0 Be).1
   have X3:=I2.tx.same s3
   have Ck:=tF.trans (SX.of s3)
   have HV:H3 b=some (.kN o (.dK (tW zZ))):=s3 _ _ (by rw[Rt];exact l.at)
   have fre:∀{y:Addr},H3 y=none->H y=none:=fun{y} h=>by
    cases q:H y with
    |none=>rfl
    |some z=>
     by_cases m:y∈[a,b]
     .simp at m
      rcases m with rfl|rfl
      .rw[X3.at_]at h;cases h
      .rw[HV]at h;cases h
     .rw[Ck y z q m]at h;cases h
   obtain⟨e4,HR⟩:∃e4,((x.1,p),e4)∈pX:=by
    have:=HP x.1 (aE.mpr ⟨x,MF,rfl⟩)
    rw[<-I2.fs]at this
    obtain⟨y,hy,ey⟩:=aE.mp this
    exact⟨y.2,by rw[<-ey];exact hy⟩
   have hv4:eO (Fg pX) (ky x.1 p)=some (.ref e4):=by
    rcases qM (ls:=pX) x.1 p with ⟨hn,_⟩|⟨b',Iv,z⟩
    .exact absurd (aE.mpr ⟨_,HR,rfl⟩) hn
    .rw[z]
     have:=Mx X3.nd Iv HR rfl
     cases this
     rfl
   refine⟨_,rfl,_,rfl,_,rfl,t.length,p,c2,cR g x.1,a,x.2,rfl,by lia,X3.tab,(M4 x MF).sx Ck nl,MH,fun H5 r s5 f5 VR=>?_⟩
   obtain⟨J,hJ,J4⟩:=VR
   have X5:=X3.same s5
   have M8:=s5 _ _ HV
   have sx5:=Ck.trans (SX.of s5)
   have N7:=fre f5
   have Bc:r∉pX.map (·.2):=fun m=>by
    obtain⟨y,hy,e⟩:=aE.mp m
    obtain⟨kv,q⟩:=(X3.ent y hy).ex
    rw[e,f5]at q;cases q
   refine⟨_,rfl,_,rfl,_,rfl,_,rfl,z2,fun b1 LC=>?_⟩
   have s6:aK H5 (upd H5 b1 (.tup [.int (x.1:Int),.int (p:Int)])):=aK.upd LC
   have X6:=X5.same s6
   obtain⟨JV,hJV,heV⟩:=X6.ent _ HR
   have abB:H b1=none:=by
    have:=s5.free LC
    exact fre this
   refine⟨a,.ref e4,rfl,?_,r,e4,_,_,rfl,rfl,.inl (s6 _ _ J4),.inl heV,HC,HC,_,rfl,?_⟩
   .have:=Fu (b:=b1) (.inl X6.at_) (s:=x.1) (i:=p) aC
    rw[hv4]at this
    exact this
   have ap:∀j,Ap (c2 x.1 p j) (vU t.length c2 (cR g x.1) p j):=fun j=>I2.ct.up x.1 j Yz
   have iff:=RQ hJ hJV ap
   have XB:=sx5.trans (SX.of s6)
   have ZK:=s6 _ _ M8
   cases pq:((sQ (vU t.length c2 (cR g x.1) p) J).length==(sQ (c2 x.1 p) JV).length)&&(sQ (vU t.length c2 (cR g x.1) p) J).all fun q=>decide (eO (sQ (c2 x.1 p) JV) q.1=some q.2)with
   |true=>
    have eW:=iff.mp pq
    refine qF ⟨ch,c2,pX,_,_,_,rfl,XB,ZK.trans l.at.symm,⟨X6,I2.ct,I2.fs,I2.nb⟩,fun hf=>?_,d1⟩
    obtain⟨d2,d3⟩:=d0 hf
    refine⟨d2,fun y hy=>?_⟩
    rw[dM ex]at hy
    rcases aN.mp hy with hy|hy
    .exact d3 y hy
    .rw[aO.mp hy]
     intro j
     rw[<-d2]
     exact(congrFun eW j).symm
   |false=>
    have nW:vU t.length c2 (cR g x.1) p≠c2 x.1 p:=fun z=>by rw[iff.mpr z]at pq;cases pq
    refine oZ ⟨_,rfl,_,rfl,_,rfl,_,rfl,z2,fun b2 Rt=>?_⟩
    have s7:aK (upd H5 b1 (.tup [.int (x.1:Int),.int (p:Int)])) (upd (upd H5 b1 (.tup [.int (x.1:Int),.int (p:Int)])) b2 (.tup [.int (x.1:Int),.int (p:Int)])):=aK.upd Rt
    have X7:=X6.same s7
    refine⟨a,_,rfl,sL.t (k:=ky x.1 p) X7.at_ aC (X7.len (by lia)),?_⟩
    rw[Xs HR]
    have Rn:r≠a:=fun z=>by rw[z,X3.at_]at f5;cases f5
    have ah5:r≠b1:=cK J4 LC
    refine⟨true,fun s' i j=>if s'=x.1/\i=p then vU t.length c2 (cR g x.1) p j else c2 s' i j,Ee pX (x.1,p) r,_,_,_,rfl,(XB.trans (SX.of s7)).trans (SX.upd (by simp)),?_,⟨?_,I2.ct.put wf MH Yz,?_,?_⟩,(fun z=>by cases z),fun _=>?_⟩
    .rw[aH Vd.symm,l.at];exact s7 _ _ ZK
    .refine X7.set HR Bc aC (fun y hy=>aH (X7.na hy)) ⟨J,?_,?_⟩ ?_
     .have:(fun j=>if x.1=x.1/\p=p then vU t.length c2 (cR g x.1) p j else c2 x.1 p j)=vU t.length c2 (cR g x.1) p:=by
       funext j;rw[if_pos ⟨rfl,rfl⟩]
      rw[this];exact hJ
     .have:(fun j=>if x.1=x.1/\p=p then vU t.length c2 (cR g x.1) p j else c2 x.1 p j)=vU t.length c2 (cR g x.1) p:=by
       funext j;rw[if_pos ⟨rfl,rfl⟩]
      rw[this,aH Rn]
      exact s7 _ _ (s6 _ _ J4)
     .intro s' i2 ne
      funext j
      exact if_neg fun z=>ne (Prod.ext z.1 z.2)
    .rw[Ec];exact I2.fs
    .intro y hy
     obtain⟨z,hz,rfl⟩:=aE.mp hy
     split
     .exact fun q=>VQ (by rw[<-q];exact N7)
     .exact I2.nb z hz
    .obtain⟨j,hj⟩:∃j,c2 x.1 p j≠vU t.length c2 (cR g x.1) p j:=bQ fun z=>nW (funext fun j=>bQ fun y=>z ⟨j,fun q=>y q.symm⟩)
     have SH:c2 x.1 p j=none:=(ap j).elim (fun z=>absurd z hj) (fun z=>z.1)
     have T9:j<=t.length:=hJV.lid (by rw[SH];simp)
     have lt:D8 (zZ.map (·.1)) t.length p (fun s' i j=>if s'=x.1/\i=p then vU t.length c2 (cR g x.1) p j else c2 s' i j)<D8 (zZ.map (·.1)) t.length p c2:=by
      refine QW (fun s hs j' pb z=>?_) (aE.mpr ⟨x,MF,rfl⟩) T9 (bB SH) ?_
      .have z:=aR z
       refine bB ?_
       dsimp only at z
       split at z
       .rename_i q
        rw[q.1]
        rcases ap j' with y|⟨y,_⟩
        .rw[y];exact z
        .exact y
       .exact z
      .refine bH ?_
       show ¬(if x.1=x.1/\p=p then vU t.length c2 (cR g x.1) p j else c2 x.1 p j)=none
       rw[if_pos ⟨rfl,rfl⟩]
       intro z
       exact hj (by rw[SH,z])
     cases hf:ch with
     |true=>exact BF lt (d1 hf)
     |false=>
      rw[<-(d0 hf).1]
      exact lt
  .obtain⟨ch,c2,pX,v4,v5,v6,rfl,tF,Rt,I2,d0,d1⟩:=h
   have Ck:SX [a] H H3:=SX.ul tF ul qf (by rw[Rt];exact l.at)
   have I3:CI b g t p H3 a c2 Dp pX:=by
    refine⟨I2.tx.at fun y hy=>ul.ne ?_,I2.ct,I2.fs,I2.nb⟩
    rcases hy with rfl|hy
    .exact Vd
    .obtain⟨x,hx,rfl⟩:=aE.mp hy
     exact I2.nb x hx
   cases ch with
   |false=>
    obtain⟨rfl,d2⟩:=d0 rfl
    rw[HE,bX]at d2
    exact⟨_,by simp,false,_,pX,_,_,_,rfl,Ck,I3,fun _=>d2,rfl⟩
   |true=>
    exact⟨_,by have:=d1 rfl;simp;lia,true,_,pX,_,_,_,rfl,Ck,I3,(fun z=>by cases z),rfl⟩
inductive iq:Sp|mk {vs H Q Z} (g:Lr) (t:T) (a b:Addr):vs=[.ref a,.ref b]->WF g->g.length<=1000->t.length<=100->fZ H a g->Rd H b (.lst (Ib t))->(∀H' r,aK H H'->H r=none->nS t.length H' r (fun s i j=>iL g t [s] i j)->Q (.ref r) H')->iq vs H Q Z
theorem yg:cB ["rules","text","lefts","table","place"] ["rules","text"] (bF (st 32)):=oP
theorem zj(F:lY K "tree_table" "tree_table" (st 32) f fd)(T:uO mg)(hR:mW P w K mg aT 1 "rights_of_lefts" ["rules"] OJ)(hB:mW P w K mg aT 1 "byte_table" ["text"] jo)
  (hF:mW P w K mg aT 6 "find_ends" ["table","lefts","place"] ji) (hC:mW P w K mg aT 6 "count_ends" ["table","lefts","place"] jn):eN P w K mg aT lM 7 f fd ["rules","text"] iq:=by
 refine oB F yg fun H Q hr h=>?_
 obtain⟨g,t,a,b,rfl,wf,Vb,uM,hG,hb,k⟩:=h
 have nd:=yg.nd
 have yJ:=hr.mono (show 1<=6 by decide)
 refine⟨_,aJ (sv (i:=2) nd (dW hR yJ (aB (pv 0) aP)))
  (aJ (sv (i:=3) nd (dW hB yJ (aB (pv 1) aP)))
  (aJ (gR bN rfl (Qx rfl T.range (aB (eT eB (by rfl) T.len dO (aB (pv 1) aP)) (aB (Ly Cj cH) (aB (Ly Cj cH) aP)))) (gv (i:=4) nd)
   (aJ (fM (dW hF hr (aB (pv 3) (aB (pv 2) (aB (pv 4) aP))))) (aU (fM (dW hC hr (aB (pv 3) (aB (pv 2) (aB (pv 4) aP))))))))
  (aU (cO (pv 3))))),?_⟩
 refine⟨_,rfl,g,a,rfl,hG,Vb,fun H1 L zZ s1 fL hL=>?_⟩
 refine⟨_,rfl,t,b,rfl,uM,aK.le s1 _ _ iP hb,fun H2 r ls g' s2 fr X Jp=>?_⟩
 have lt:(Ib t).length=t.length:=by unfold Ib;rw[aA]
 have hL1:H1 L≠none:=fun z=>by rcases hL.1 with h|⟨o,h⟩<;>rw[h]at z<;>cases z
 refine⟨_,rfl,b,_,rfl,.inl (cY (aK.le (s1.trans s2) _ _ iP hb)),_,rfl,_,rfl,t.length,-1,-1,t.length+1,by rw[lt],?_,?_⟩
 .have:=Q5.neg (i:=(t.length:Int)) (j:= -1) (by lia) (by lia) (by decide) (by decide);rw[show((t.length:Int)- -1).toNat=t.length+1 by lia]at this;exact this
 .refine Nd (fun i σ H'=>E2 fun ls v4=>A5 (σ=[some (.ref a),some (.ref b),some (.ref L),some (.ref r),v4]) (SX [r] H1 H') (i<=t.length+1) (TX t.length H' r (mJ g t (t.length+1-i)) ls) (∀x∈ls,(x.1.1<256->t.length+1-i<=x.1.2)/\x.2≠L)) ?_ ?_ ?_
  .refine⟨ls,none,rfl,SX.of s2,cI _,?_,fun x hx=>⟨fun z=>absurd (Jp x hx).1 (by lia),fun z=>hL1 (by rw[<-z];exact(Jp x hx).2)⟩⟩;have e:mJ g t (t.length+1-0)=mJ g' t (t.length+1):=by funext s i j;show mJ g t (t.length+1) s i j=_;rw[Nl,Nl]
   rw[e];exact X
  .rintro i σ H' hi ⟨ls,v4,rfl,sx,L5,X,Jp⟩;have hLe:Le H1 H':=SX.mE sx .refl (by simp[fr]);have epl:((t.length:Int)+(i:Nat)* -1)=((t.length-i:Nat):Int):=by lia
   refine⟨_,rfl,_,rfl,_,rfl,g,t,t.length-i,r,L,ls,zZ,by rw[<-epl],wf,uM,by lia,?_,fun x hx=>⟨fun z=>by have:=(Jp x hx).1 z;lia,(Jp x hx).2⟩,hL.le hLe,fun H3 c3 ls3 Ck X3 C3 DN hn3=>?_⟩
   .have:t.length+1-i=t.length-i+1:=(by lia);rw[<-this];exact X
   .have vz:=sx.trans Ck;have aa5:Le H1 H3:=SX.mE vz .refl (by simp[fr]);refine⟨_,rfl,_,rfl,_,rfl,g,t,t.length-i,r,L,c3,ls3,zZ,by rw[<-epl],wf,uM,by lia,X3,C3,fun x hx=>(hn3 x hx).2,hL.le aa5,DN,fun H4 Mn Gw X4 hf4 hn4=>?_⟩;refine⟨Mn,_,rfl,vz.trans Gw,by lia,?_,fun x hx=>⟨fun z=>?_,hn4 x hx⟩⟩
    .have:t.length+1-(i+1)=t.length-i:=(by lia);rw[this];exact X4
    .have:x.1∈Mn.map (·.1):=aE.mpr ⟨x,hx,rfl⟩;rw[hf4]at this;obtain⟨y,hy,e⟩:=aE.mp this;have:=(hn3 y hy).1 (by rw[e];exact z);rw[e]at this;lia
  .rintro σ H' ⟨ls,v4,rfl,sx,_,X,_⟩;refine⟨_,rfl,k H' r ?_ (s1.free fr) ?_⟩
   .exact s1.trans (SX.same (sx.drop (by simp[fr])))
   .have e:mJ g t (t.length+1-(t.length+1))=fun s i j=>iL g t [s] i j:=(by funext s i j;exact Tw.oQ (by lia));rw[e]at X;exact X.tab
theorem Kj:pZ "all"=some (.builtin "all"):=by kernel_rfl
theorem Dr:pZ "any"=some (.builtin "any"):=by kernel_rfl
theorem Wm:pZ "sum"=some (.builtin "sum"):=by kernel_rfl
theorem NP(σ:L2.St)(v:Nat)(x:Option V):jW ((jW σ [v]).set v x) [v]=jW σ [v]:=by show((σ.set v none).set v x).set v none=σ.set v none;rw[List.set_set,List.set_set]
theorem RL{v:Nat}(f:V->V)(hv:vs=[v])(uM:∀R:VK,R (.ref a) H->tl σ H R)(hx:iY K H a xs)(hl:xs.length<=70000)
  (he:∀(i:Nat) x H',xs[i]? =some x->aK H H'->∀R:VK,(∀H4,aK H' H4->R (f x) H4)->te ((jW σ [v]).set v (some x)) H' R)
  (k:∀D H',H D=none->aK H H'->H' D=some (.lst (xs.map f))->Q (.ref D) H'):JH (My K tl) (mF v) Tf te vs σ H Q:=by
 subst hv
 refine uM _ ⟨a,rfl,⟨xs,hx⟩,fun D hD=>?_⟩
 refine Ff (K:=K) (a:=a) (xs:=xs) (Qd:=Q (.ref D)) (fun i H'=>aK H H'/\H' D=some (.lst ((xs.take i).map f))) ⟨aK.upd hD,aC⟩ (fun i H' _ h=>h.1.seq hx) ?_ fun H' h=>?_
 .rintro i x H' HL ⟨s1,h1⟩;refine⟨NP _ _ _,he i x H' HL s1 _ fun H4 s4=>⟨_,s4 _ _ h1,?_,aK.then (s1.trans s4) hD,?_⟩⟩
  .rw[aA,dB];have:i<xs.length:=(aL.mp HL).1;exact cA (show min i xs.length<70001 by lia) (by decide)
  .rw[dM HL,aQ];exact aC
 .rw[bX]at h;exact k D H' hD h.1 h.2
inductive jt:Sp|mk {vs H Q Z} (ns:List Int) (a:Addr):vs=[.ref a]->Rd H a (.lst (ns.map V.int))->ns.length<=1000->(∀H',aK H H'->Q (.bl (ns.all fun n=>decide (0<=n/\n<=511))) H')->jt vs H Q Z
theorem sc9:cB ["numbers","number"] ["numbers"] (bF (st 9)):=oP
theorem C8(F:lY K "all_symbols" "all_symbols" (st 9) f fd)(T:uO mg)(hS:mW P w K mg aT 1 "is_symbol" ["number"] rG):eN P w K mg aT lM 2 f fd ["numbers"] jt:=by
 refine oB F sc9 fun H Q hr h=>?_;obtain⟨ns,a,rfl,ha,hl,k⟩:=h;have nd:=sc9.nd;refine⟨_,aU (cO (eT (EO rfl) (by rfl) T.all Kj (aB (sO (own:=[("number",1)]) rfl nd (gT (pv 0)) (iR (by show vK ["numbers","number"] (bF (st 9)) _ _=true;decide+kernel)) (fun _ _ _ _ _=>gv (i:=1) nd) (fun _ _ _ _ _=>oK) (fun _ _ _ _ _=>dW hS hr (aB (pv 1) aP))) aP))),?_⟩;refine RL (K:=K) (tl:=fC 0) (te:=JJ rG (gS (fC 1) oW)) (vs:=[1]) (σ:=[some (.ref a),none]) (Q:=fun x H1=>XU K [x] H1 Q) (v:=1) (fun x=>match x with|.int n=>.bl (decide (0<=n/\n<=511))|_=>.iU) (by rfl) (fun R h=>⟨_,rfl,h⟩) (cY ha) (by rw[aA];lia) ?_ ?_
 .intro i x H' hx s1 R hR;obtain⟨n,en,rfl⟩:=mQ hx;exact⟨_,rfl,n,rfl,hR H' (aK.refl _)⟩
 .intro D H' hD s1 h1;rw[dG]at h1;refine⟨D,ns.map fun n=>decide (0<=n/\n<=511),rfl,iY.of ?_,?_⟩
  .rw[dG];exact h1
  .have:=k H' s1;rw[show(ns.map fun n=>decide (0<=n/\n<=511)).all id=ns.all fun n=>decide (0<=n/\n<=511) by rw[Hz];rfl];exact this
inductive OL:Sp|mk {vs H Q Z} (kvs:List (iM×V)) (l:Ln) (a q:Addr):vs=[.ref a,.ref q]->Rd H a (.dK kvs)->oU H q l->l.length<=1000->(∀H',aK H H'->Q (.bl (l.all fun s=>(eO kvs (aV (s:Int))).isSome)) H')->OL vs H Q Z
theorem yw:cB ["known","right","symbol"] ["known","right"] (bF (st 11)):=oP
theorem zy(F:lY K "parts_known" "parts_known" (st 11) f fd)(T:uO mg):eN P w K mg aT lM 1 f fd ["known","right"] OL:=by
 refine oB F yw fun H Q hr h=>?_;obtain⟨kvs,l,a,q,rfl,ha,hq,hl,k⟩:=h;have nd:=yw.nd;have hu:=jV hr;refine⟨_,aU (cO (eT (EO rfl) (by rfl) T.all Kj (aB (sO (own:=[("symbol",2)]) rfl nd (gT (pv 1)) (iR (by show vK ["known","right","symbol"] (bF (st 11)) _ _=true;decide+kernel)) (fun _ _ _ _ _=>gv (i:=2) nd) (fun _ _ _ _ _=>oK) (fun _ _ _ _ _=>QB (Hb hu (pv 2) (pv 0)) (by with_unfolding_all rfl))) aP))),?_⟩;refine RL (K:=K) (tl:=fC 1) (te:=vx (fC 2) (fC 0)) (vs:=[2]) (σ:=[some (.ref a),some (.ref q),none]) (Q:=fun x H1=>XU K [x] H1 Q) (v:=2) (fun x=>match x with|.int n=>.bl (eO kvs (aV n)).isSome|_=>.iU) (by rfl) (fun R h=>⟨_,rfl,h⟩) (cY hq) (by rw[fO];lia) ?_ ?_
 .intro i x H' hx s1 R hR;obtain⟨s,es,rfl⟩:=xP hx;exact⟨_,rfl,_,rfl,a,_,rfl,kS (aK.le s1 _ _ qV ha) (aV (s:Int)),hR H' (aK.refl _)⟩
 .intro D H' hD s1 h1;refine⟨D,l.map fun(s:Nat)=>(eO kvs (aV (s:Int))).isSome,rfl,iY.of ?_,?_⟩
  .unfold kL at h1;rw[dG]at h1;rw[dG];exact h1
  .have:=k H' s1;rw[show(l.map fun(s:Nat)=>(eO kvs (aV (s:Int))).isSome).all id=l.all fun(s:Nat)=>(eO kvs (aV (s:Int))).isSome by rw[Hz];rfl];exact this
def yT(F:Nat->Option Nat)(kvs:List (iM×V)):Prop:=∀s:Nat,eO kvs (aV (s:Int))=(F s).map fun(n:Nat)=>V.int (n:Int)
inductive JN:Sp|mk {vs H Q Z} (F:Nat->Option Nat) (kvs:List (iM×V)) (l:Ln) (n:Nat) (a q:Addr):vs=[.ref a,.ref q]->Rd H a (.dK kvs)->yT F kvs->oU H q l->l.length<=1000->jL F l=some n->(∀H',aK H H'->Q (.int (n:Int)) H')->JN vs H Q Z
theorem yu:cB ["lengths","right","symbol"] ["lengths","right"] (bF (st 12)):=oP
theorem Xn{F:Nat->Option Nat}:∀{l:Ln} {n:Nat},jL F l=some n->(l.map fun s=>(((F s).getD 0:Nat):Int)).sum=(n:Int)
 |[],n,e=>by cases e;rfl
 |s::l,n,e=>by
  unfold Tw.jL at e;split at e
  .rename_i a b e1 e2;cases e;rw[bL,iC,Xn e2,e1];show(a:Int)+b=_;push_cast;rfl
  .cases e
theorem B0(F:lY K "length_of_right" "length_of_right" (st 12) f fd)(T:uO mg):eN P w K mg aT lM 1 f fd ["lengths","right"] JN:=by
 refine oB F yu fun H Q hr h=>?_;obtain⟨F',kvs,l,n,a,q,rfl,ha,hF,hq,hl,hn,k⟩:=h;have nd:=yu.nd;have hu:=jV hr;refine⟨_,aU (cO (eT (UE rfl) (by rfl) T.sum Wm (aB (sO (own:=[("symbol",2)]) rfl nd (gT (pv 1)) (iR (by show vK ["lengths","right","symbol"] (bF (st 12)) _ _=true;decide+kernel)) (fun _ _ _ _ _=>gv (i:=2) nd) (fun _ _ _ _ _=>oK) (fun _ _ _ _ _=>nM hu (pv 0) (pv 2) (fun _ _=>rfl))) aP))),?_⟩;refine RL (K:=K) (tl:=fC 1) (te:=Xa (fC 0) (fC 2)) (vs:=[2]) (σ:=[some (.ref a),some (.ref q),none]) (Q:=fun x H1=>ke K [x] H1 Q) (v:=2) (fun x=>match x with|.int s=>.int (((F' s.toNat).getD 0:Nat):Int)|_=>.iU) (by rfl) (fun R h=>⟨_,rfl,h⟩) (cY hq) (by rw[fO];lia) ?_ ?_
 .intro i x H' hx s1 R hR;obtain⟨s,es,rfl⟩:=xP hx;obtain⟨m,em⟩:=Tw.Li hn s (aG es);have hg:=kS (aK.le s1 _ _ qV ha) (aV (s:Int));rw[hF s,em]at hg;refine⟨_,rfl,_,rfl,a,_,rfl,hg,?_⟩;have:=hR H' (aK.refl _);have e:(((F' (s:Int).toNat).getD 0:Nat):Int)=(m:Int):=by rw[gE,em];rfl
  show R (.int (m:Int)) H';rw[<-e];exact this
 .intro D H' hD s1 h1;refine⟨D,l.map fun s=>(((F' s).getD 0:Nat):Int),rfl,iY.of ?_,?_⟩
  .unfold kL at h1;rw[dG]at h1;rw[dG];exact h1
  .rw[Xn hn];exact k H' s1
theorem gB{A B:Prop}{c:Bool}(hc:c=true)(h:A):if c=true then A else B:=by rw[if_pos hc];exact h
theorem eE{A B:Prop}{c:Bool}(hc:c=false)(h:B):if c=true then A else B:=by rw[hc];exact qF h
theorem fZ.sx(h:fZ H a g)(s:SX F H H')(nl:∀x∈F,∀xs,¬Rd H x (.lst xs))(nt:∀x∈F,∀xs,¬Rd H x (.tup xs)):fZ H' a g:=by
 have le:∀{b xs},Rd H b (.lst xs)->Rd H' b (.lst xs):=fun{b xs} r=>by
  have hb:b∉F:=fun m=>nl b m xs r;rcases r with r|⟨o,r⟩
  .exact .inl (s _ _ r hb)
  .exact .inr ⟨o,s _ _ r hb⟩
 have m8:∀{b xs},Rd H b (.tup xs)->Rd H' b (.tup xs):=fun{b xs} r=>by
  have hb:b∉F:=fun m=>nt b m xs r;rcases r with r|⟨o,r⟩
  .exact .inl (s _ _ r hb)
  .exact .inr ⟨o,s _ _ r hb⟩
 obtain⟨ps,h1,h2⟩:=h;exact⟨ps,le h1,Paired.qE h2 fun _ _ ⟨q,z1,z2⟩=>⟨q,m8 z1,le z2⟩⟩
theorem Yi(h:Rd H a (.dK kvs))(xs:Lv):¬Rd H a (.tup xs):=by rcases h with h|⟨o,h⟩<;>rintro(r|⟨o',r⟩)<;>rw[h]at r<;>cases r
theorem Yu{k:iM}{v:V}:(kG kvs k v).map (·.1)=if (eO kvs k).isSome=true then kvs.map (·.1)else kvs.map (·.1)++[k]:=by
 unfold kG;rw[pE];split
 .rw[dG];refine eJ fun x _=>?_;show(if x.1=k then (x.1,v)else x).1=x.1;split<;>rfl
 .rw[aQ];rfl
structure uN(kvs:List (iM×V)):Prop where
 nd:(kvs.map (·.1)).Nodup
 W2:∀k∈kvs.map (·.1),∃s:Nat,s<512/\k=aV (s:Int)
theorem uN.put(h:uN kvs){s:Nat}(hs:s<512)(v:V):uN (kG kvs (aV (s:Int)) v):=by
 constructor
 .rw[Yu];split
  .exact h.nd
  .rename_i q;refine lW h.nd (NQ ?_);cases e:eO kvs (aV (s:Int))with
   |none=>rfl
   |some x=>rw[e]at q;exact absurd rfl q
 .intro k hk;rw[Yu]at hk;split at hk
  .exact h.W2 k hk
  .rcases aN.mp hk with hk|hk
   .exact h.W2 k hk
   .exact⟨s,hs,aO.mp hk⟩
theorem uN.len(h:uN kvs):kvs.length<sizeLine:=by
 have:=h.nd.length_le_of_subset (l₂:=(bD 512).map fun(s:Nat)=>(aV (s:Int):iM)) (fun k hk=>by
  obtain⟨s,hs,e⟩:=h.W2 k hk
  exact aE.mpr ⟨s,bS.mpr hs,e.symm⟩)
 rw[aA,aA,dU]at this
 exact bV this (by decide)
theorem uN.new:uN []:=⟨by simp,by simp⟩
theorem yT.put{F:Nat->Option Nat}(h:yT F kvs)(s n:Nat):yT (fun x=>if x=s then some n else F x) (kG kvs (aV (s:Int)) (.int (n:Int))):=by
 intro x;rw[Kv];by_cases e:x=s
 .subst e;simp
 .rw[if_neg (fun z=>e (by have:=kJ z;lia))];show _=Option.map _ (if x=s then some n else F x);rw[if_neg e];exact h x
def Jl{α:Type}(g:Lr)(F:Nat->Option α):Nat:=(g.filter fun r=>(F r.left).isNone).length
def Oj{α:Type}(μ:α->Nat)(g:Lr)(F:Nat->Option α):Nat:=(g.map fun r=>match F r.left with|some n=>μ n|none=>0).sum
theorem ia{l:Lr}{f f':Rule->Nat}(h:∀r∈l,f' r<=f r):(l.map f').sum<=(l.map f).sum:=by
 induction l with
 |nil=>exact aY _
 |cons a l ih=>rw[bL,bL,iC,iC];have:=h a aF;have:=ih fun r hr=>h r (aD _ hr);lia
theorem gz{l:Lr}{f f':Rule->Nat}(h:∀r∈l,f' r<=f r)(hr:r∈l)(oT:f' r<f r):(l.map f').sum<(l.map f).sum:=by
 induction l with
 |nil=>simp at hr
 |cons a l ih=>
  rw[bL,bL,iC,iC];have h1:=h a aF;have h2:=ia fun r hr=>h r (aD a hr);rcases aW.mp hr with rfl|hr
  .lia
  .have:=ih (fun r hr=>h r (aD _ hr)) hr;lia
theorem DV{l:Lr}{f f':Rule->Bool}(h:∀r∈l,f' r=true->f r=true):(l.filter f').length<=(l.filter f).length:=by
 induction l with
 |nil=>exact aY _
 |cons a l ih=>
  have:=ih fun j hj=>h j (aD _ hj);rw[fV,fV];cases e:f' a with
  |false=>simp only[iI,if_false];split<;>simp<;>lia
  |true=>rw[h a aF e];simp;lia
theorem DU{l:Lr}{f f':Rule->Bool}(h:∀r∈l,f' r=true->f r=true)(hj:r∈l)(h1:f r=true)(h2:f' r=false):(l.filter f').length<(l.filter f).length:=by
 induction l with
 |nil=>simp at hj
 |cons a l ih=>
  have h':∀j∈l,f' j=true->f j=true:=fun j hj=>h j (aD _ hj);have le:=DV h';rw[fV,fV];rcases aW.mp hj with rfl|hj
  .rw[h1,h2];simp;lia
  .have:=ih h' hj;cases e:f' a with
   |false=>simp only[iI,if_false];split<;>simp<;>lia
   |true=>rw[h a aF e];simp;lia
theorem GY{α:Type}{μ:α->Nat}{F:Nat->Option α}(hr:r∈g){n:α}(h:F r.left=none∨∃m,F r.left=some m/\μ n<μ m):
  wW (Jl g (fun s=>if s=r.left then some n else F s),Oj μ g (fun s=>if s=r.left then some n else F s)) (Jl g F,Oj μ g F):=by
 have mono:∀r'∈g,((if r'.left=r.left then some n else F r'.left).isNone=true)->((F r'.left).isNone=true):=by
  intro r' _ z;split at z
  .cases z
  .exact z
 rcases h with h|⟨m,h,lt⟩
 .left;exact DU mono hr (by rw[h];rfl) (by dsimp only;rw[if_pos rfl];rfl)
 .right;constructor
  .show(Jl g fun s=>if s=r.left then some n else F s)=Jl g F;unfold Jl;congr 1;refine List.filter_congr fun r' MG=>?_;dsimp only;split
   .rename_i q;rw[q,h];rfl
   .rfl
  .refine gz (fun r' _=>?_) hr ?_<;>dsimp only
   .by_cases q:r'.left=r.left
    .rw[if_pos q,q,h];exact zK lt
    .rw[if_neg q];exact aY _
   .rw[if_pos rfl,h];exact lt
theorem wW.trans{a b c:Nat×Nat}(h:wW a b)(k:wW b c):wW a c:=by unfold wW at*;lia
inductive CA(P:dJ)(w:World)(K:aX)(mg:Str->Option Value)(aT:Heap):Sp|mk {vs H Q Z} (g:Lr) (F:Nat->Option Nat) (kvs:List (iM×V)) (a kn fv:Addr) (fd:oI):vs=[.ref a,.ref kn,.ref fv]->gZ K (.ref fv)=true->tL K fd ["lengths","right"] []->eN P w K mg aT lM 1 fv fd ["lengths","right"] JN->WF g->(∀r∈g,r.right.length<=1000)->fZ H a g->H kn=some (.dK kvs)->uN kvs->yT F kvs->LenS g F->(∀H' F' Ph,SX [kn] H H'->H' kn=some (.dK Ph)->uN Ph->yT F' Ph->qR g F'->Q (.ref kn) H')->CA P w K mg aT vs H Q Z
theorem XN:cB ["rules","known","value_of_right","changed","left","right","value"] ["rules","known","value_of_right"] (bF (st 13)):=oP
theorem GO{F:Nat->Option Nat}(h:yT F kvs)(l:Ln):(l.all fun s=>(eO kvs (aV (s:Int))).isSome)=(jL F l).isSome:=by
 induction l with
 |nil=>rfl
 |cons s l ih=>rw[jP,ih,h s];show _=(match F s,jL F l with|some a,some b=>some (a+b)|_,_=>none).isSome;cases F s<;>cases jL F l<;>rfl
theorem YJ(F:lY K "least_of_each" "least_of_each" (st 13) f fd)(N6:mW P w K mg aT 1 "parts_known" ["known","right"] OL):
  eN P w K mg aT lM 2 f fd ["rules","known","value_of_right"] (CA P w K mg aT):=by
 refine oB F XN fun H Q hr h=>?_
 obtain⟨g,F0,nh,a,kn,fv,qr,rfl,kp,bi,fo,wf,Bc,hG,HP,Y2,n6,Dp,k⟩:=h
 have nd:=XN.nd
 have hu:=jV hr
 refine⟨_,aJ (sv (i:=3) nd sP)
  (aJ (Qv bN (nF (pv 3)) (aJ (sv (i:=3) nd sP)
   (aU (gR bN rfl (gT (pv 0)) (mP rfl (dF (gv (i:=4) nd) (dF (gv (i:=5) nd) kI)))
    (aU (gN (nF (dW N6 hr (aB (pv 1) (aB (pv 5) aP))))
     (aJ (sv (i:=6) nd (QA (i:=2) (aB (pv 1) (aB (pv 5) aP))))
      (aU (gN (zT (sG (pV hu (pv 4) (pv 1)) (by with_unfolding_all rfl)) (vI (eM Xz (pv 6) (nM hu (pv 1) (pv 4) (fun _ _=>rfl)) (fU _)))).pt
       (aJ (lV hu (pv 1) (pv 4) (pv 6) rfl) (aU (sv (i:=3) nd sP))) dX))) dX))))))
  (aU (cO (pv 1)))),?_⟩
 have nl:∀x∈[kn],∀xs,¬Rd H x (.lst xs):=fun x hx xs=>by rw[aO.mp hx];exact Eu (.inl HP) xs
 have nt:∀x∈[kn],∀xs,¬Rd H x (.tup xs):=fun x hx xs=>by rw[aO.mp hx];exact Yi (.inl HP) xs
 refine⟨fun m σ H'=>E6 fun ch F kvs v4 v5 v6=>A8 (σ=[some (.ref a),some (.ref kn),some (.ref fv),some (.bl ch),v4,v5,v6]) (SX [kn] H H') (H' kn=some (.dK kvs)) (uN kvs) (yT F kvs) (LenS g F)
   (ch=false->∀r∈g,∀n,jL F r.right=some n->∃m,F r.left=some m/\m<=n) (m=(Jl g F,Oj id g F+(if ch=true then 1 else 0))),
  ⟨_,true,F0,nh,none,none,none,rfl,SX.refl,HP,Y2,n6,Dp,(fun z=>by cases z),rfl⟩,?_⟩
 rintro m σ H' ⟨ch,F,kvs,v4,v5,v6,rfl,sx,hk,sy,ld,ls,cl,rfl⟩
 refine⟨_,rfl,ch,rfl,?_⟩
 cases ch with
 |false=>refine qF ?_;exact⟨_,rfl,k H' F kvs sx hk sy ld (ls.done wf (cl rfl))⟩
 |true=>
  refine oZ ⟨_,fun σ' rW h=>h,?_⟩
  obtain⟨ps,uA,vO⟩:=hG
  have hG:fZ H a g:=⟨ps,uA,vO⟩
  have rd:∀{rW:Hp},SX [kn] H rW->Rd rW a (.lst (ps.map V.ref)):=fun{rW} s=>by
   have hb:a∉[kn]:=fun m=>nl a m _ uA
   rcases uA with r|⟨o,r⟩
   .exact .inl (s _ _ r hb)
   .exact .inr ⟨o,s _ _ r hb⟩
  refine⟨_,rfl,a,rfl,⟨_,cY (rd sx)⟩,mG (K:=K) (a:=a) (xs:=ps.map V.ref) (fun i σ H2=>E6 fun ch F2 mR v4 v5 v6=>A8 (σ=[some (.ref a),some (.ref kn),some (.ref fv),some (.bl ch),v4,v5,v6]) (SX [kn] H H2) (H2 kn=some (.dK mR)) (uN mR) (yT F2 mR) (LenS g F2)
    (ch=false->F2=F/\∀r∈g.take i,∀n,jL F r.right=some n->∃m,F r.left=some m/\m<=n) (ch=true->wW (Jl g F2,Oj id g F2) (Jl g F,Oj id g F)))
   ⟨false,F,kvs,v4,v5,v6,rfl,sx,hk,sy,ld,ls,fun _=>⟨rfl,by simp⟩,(fun z=>by cases z)⟩ (fun i σ H2 _ ⟨_,_,_,_,_,_,_,tF,_,_,_,_,_,_⟩=>cY (rd tF)) ?_ ?_⟩
  .rintro i x σ H2 hx ⟨ch,F2,mR,v4,v5,v6,rfl,tF,Ir,Xc,Wg,pX,c0,c1⟩
   obtain⟨p0,e0,rfl⟩:=mQ hx
   obtain⟨r,er,_⟩:=gI vO e0
   have hG2:=hG.sx tF nl nt
   obtain⟨Xt,DK,KU⟩:=hG2
   have eps:Xt=ps:=by
    have h1:=rd tF
    have:∀{u u':Lv},Rd H2 a (.lst u)->Rd H2 a (.lst u')->u=u':=by
     rintro u u' (z|⟨o,z⟩) (y|⟨o',y⟩)<;>rw[z]at y<;>cases y<;>rfl
    have:=this DK h1
    exact(Gi (fun x y h=>by cases h;rfl)).mp this
   subst eps
   obtain⟨r',qt,q,Cz,yR⟩:=gI KU e0
   rw[er]at qt
   cases qt
   have AR:=aG er
   refine Bx (nE Cz) ?_
   refine⟨_,rfl,_,rfl,mR,r.right,kn,q,rfl,.inl Ir,yR,Bc r AR,fun H3 s3=>⟨_,rfl,?_⟩⟩
   rw[GO Wg]
   have DN:=s3 _ _ Ir
   have Ck:=tF.trans (SX.of s3)
   have pO:∀v4 v5 v6 (H4:Hp),SX [kn] H H4->H4 kn=some (.dK mR)->(∀n,jL F2 r.right=some n->∃m,F2 r.left=some m/\m<=n)->
     E6 fun ET F2 mR gj gi gf=>A8 ([some (V.ref a),some (.ref kn),some (.ref fv),some (.bl ch),v4,v5,v6]=[some (.ref a),some (.ref kn),some (.ref fv),some (.bl ET),gj,gi,gf]) (SX [kn] H H4) (H4 kn=some (.dK mR)) (uN mR) (yT F2 mR) (LenS g F2)
      (ET=false->F2=F/\∀r∈g.take (i+1),∀n,jL F r.right=some n->∃m,F r.left=some m/\m<=n) (ET=true->wW (Jl g F2,Oj id g F2) (Jl g F,Oj id g F)):=by
    intro v4 v5 v6 H4 s4 h4 hc
    refine⟨ch,F2,mR,v4,v5,v6,rfl,s4,h4,Xc,Wg,pX,fun hf=>?_,c1⟩
    obtain⟨e1,e2⟩:=c0 hf
    refine⟨e1,fun r' MG=>?_⟩
    rw[dM er]at MG
    rcases aN.mp MG with h|h
    .exact e2 r' h
    .rw[aO.mp h,<-e1];exact hc
   cases Mz:jL F2 r.right with
   |none=>
    refine qF (pO _ _ _ H3 Ck DN fun n z=>by rw[Mz]at z;cases z)
   |some n=>
    refine oZ ⟨fv,rfl,kp,1,qr,_,JN,hr,bi,fo,_,rfl,_,rfl,F2,mR,r.right,n,kn,q,rfl,.inl DN,Wg,yR.le (aK.le s3),Bc r AR,Mz,fun H4 s4=>?_⟩
    have MK:=s4 _ _ DN
    have Gw:=Ck.trans (SX.of s4)
    have LB:=kS (.inl MK) (aV (r.left:Int))
    rw[Wg r.left]at LB
    refine⟨_,rfl,_,rfl,kn,_,rfl,LB,_,rfl,?_⟩
    have chg:(F2 r.left=none∨∃m,F2 r.left=some m/\n<m)->
     E6 fun ET UO Mu gj gi gf=>A8 ([some (V.ref a),some (.ref kn),some (.ref fv),some (.bl true),some (.int r.left),some (.ref q),some (.int n)]=[some (.ref a),some (.ref kn),some (.ref fv),some (.bl ET),gj,gi,gf]) (SX [kn] H (bI H4 kn (.dK (kG mR (aV (r.left:Int)) (.int n))))) ((bI H4 kn (.dK (kG mR (aV (r.left:Int)) (.int n)))) kn=some (.dK Mu)) (uN Mu) (yT UO Mu) (LenS g UO)
      (ET=false->UO=F/\∀r∈g.take (i+1),∀n,jL F r.right=some n->∃m,F r.left=some m/\m<=n) (ET=true->wW (Jl g UO,Oj id g UO) (Jl g F,Oj id g F)):=by
     intro hc
     have lx:wW (Jl g (fun s=>if s=r.left then some n else F2 s),Oj id g (fun s=>if s=r.left then some n else F2 s)) (Jl g F2,Oj id g F2):=GY (μ:=id) AR hc
     refine⟨true,fun s=>if s=r.left then some n else F2 s,_,_,_,_,rfl,Gw.trans (SX.upd (by simp)),aC,Xc.put (by have:=(wf r AR).1;lia) _,Wg.put _ _,pX.put wf AR Mz,(fun z=>by cases z),fun _=>?_⟩
     cases ch with
     |false=>rw[<-(c0 rfl).1];exact lx
     |true=>exact wW.trans lx (c1 rfl)
    cases hl:F2 r.left with
    |none=>
     refine oZ (oZ ⟨_,rfl,_,rfl,_,rfl,kn,_,rfl,sL.k (k:=aV (r.left:Int)) MK Xc.len,chg (.inl hl)⟩)
    |some m=>
     rw[hl]at LB
     refine qF ⟨_,rfl,_,rfl,_,rfl,kn,_,rfl,LB,?_⟩
     refine⟨_,_,rfl,rfl,_,rfl,?_⟩
     by_cases lt:n<m
     .refine gB (bB (by lia)) ?_
      exact⟨_,rfl,_,rfl,_,rfl,kn,_,rfl,sL.k (k:=aV (r.left:Int)) MK Xc.len,chg (.inr ⟨m,hl,lt⟩)⟩
     .refine eE (bH (by lia)) ?_
      exact pO _ _ _ H4 Gw MK fun n' z=>by rw[Mz]at z;cases z;exact⟨m,hl,by lia⟩
  .rintro σ H2 ⟨ch,F2,mR,v4,v5,v6,rfl,tF,Ir,Xc,Wg,pX,c0,c1⟩
   have len:(ps.map V.ref).length=g.length:=by rw[aA];exact dC vO
   rw[len]at c0
   rw[bX]at c0
   cases ch with
   |false=>
    obtain⟨rfl,cl⟩:=c0 rfl
    exact⟨(Jl g F2,Oj id g F2),.inr ⟨rfl,sE _⟩,false,F2,mR,v4,v5,v6,rfl,tF,Ir,Xc,Wg,pX,fun _=>cl,rfl⟩
   |true=>
    refine⟨_,?_,true,F2,mR,v4,v5,v6,rfl,tF,Ir,Xc,Wg,pX,(fun z=>by cases z),rfl⟩
    have:=c1 rfl
    unfold wW at*
    simp only[if_true]at*
    lia
inductive OH:Sp|mk {vs H Q Z} (g:Lr) (a:Addr):vs=[.ref a]->WF g->(∀r∈g,r.right.length<=1000)->fZ H a g->(∀H' d F kvs,aK H H'->H d=none->H' d=some (.dK kvs)->uN kvs->yT F kvs->qR g F->Q (.ref d) H')->OH vs H Q Z
theorem yt:cB ["rules","lengths","symbol"] ["rules"] (bF (st 14)):=oP
theorem zq(F:lY K "shortest_lengths" "shortest_lengths" (st 14) f fd)(T:uO mg)(hL:mW P w K mg aT 2 "least_of_each" ["rules","known","value_of_right"] (CA P w K mg aT))(hR:mW P w K mg aT 1 "length_of_right" ["lengths","right"] JN):
  eN P w K mg aT lM 3 f fd ["rules"] OH:=by
 refine oB F yt fun H Q hr h=>?_
 obtain⟨g,a,rfl,wf,Bc,hG,k⟩:=h
 have nd:=yt.nd
 have hu:=jV hr
 obtain⟨fv,qr,e1,e2,e3,e4⟩:=hR
 refine⟨_,aJ (sv (i:=1) nd mB)
  (aJ (gR bN rfl (Qy rfl T.range (aB (fB T.tH) (aB (jY nY (fB T.Ct) cH) aP))) (gv (i:=2) nd)
   (aU (lV hu (pv 1) (pv 2) cH rfl)))
  (aU (cO (dW hL hr (aB (pv 0) (aB (pv 1) (aB (Ua (v:=.ref fv) rfl e1 rfl) aP))))))),?_⟩
 intro d hd
 refine⟨_,_,rfl,rfl,256,512,rfl,by decide,Ho (n:=256) (fun i σ H'=>E2 fun kvs v2=>A5 (σ=[some (.ref a),some (.ref d),v2]) (SX [d] H H') (H' d=some (.dK kvs)) (uN kvs) (yT (fun s=>if 256<=s/\s<256+i then some 1 else none) kvs)) ?_ ?_ ?_⟩
 .refine⟨[],none,rfl,SX.upd (by simp),aC,.new,fun s=>?_⟩;show none=Option.map _ (if 256<=s/\s<256+0 then some 1 else none);rw[if_neg (by lia)];rfl
 .rintro i σ H' hi ⟨kvs,v2,rfl,sx,hk,sy,ld⟩;refine⟨_,rfl,_,rfl,d,_,rfl,sL.k (k:=aV ((256:Int)+i)) hk sy.len,_,_,rfl,sx.trans (SX.upd (by simp)),aC,?_,?_⟩
  .exact sy.put (s:=256+i) (by lia) _
  .have:=ld.put (256+i) 1;intro s;rw[show((256:Int)+i)=((256+i:Nat):Int) by lia,show(V.int 1)=V.int ((1:Nat):Int) from rfl,this s];congr 1;show(if s=256+i then some 1 else if 256<=s/\s<256+i then some 1 else none)=if 256<=s/\s<256+(i+1)then some 1 else none
   repeat' split
   all_goals first|rfl|lia
 .rintro σ H' ⟨kvs,v2,rfl,sx,hk,sy,ld⟩;have le:Le H H':=SX.mE sx .refl (by simp[hd]);have hG':=hG.le le;refine⟨_,rfl,_,rfl,g,_,kvs,a,d,fv,qr,rfl,e2,e3,e4,wf,Bc,hG',hk,sy,ld,⟨fun s hs=>?_,fun s n e=>?_⟩,fun H2 F2 mR tF Ir Xc Wg lo=>k H2 d F2 mR ?_ hd Ir Xc Wg lo⟩
  .by_cases q:s<512
   .rw[if_pos q,if_pos ⟨hs,q⟩]
   .rw[if_neg q,if_neg fun z=>q z.2]
  .split at e
   .rename_i q;cases e;exact⟨_,_,Tw.D.Nv (Tw.Nu q.1 q.2),rfl⟩
   .cases e
  .exact SX.same ((sx.trans tF).drop (by simp[hd]))
theorem aK.free(s:aK H H')(h:H' a=none):H a=none:=SX.free (SX.of s (F:=[])) h (by simp)
theorem S4{X:Cx}{a b:Nat}{x y:Str}{px py:Pos}(hc:X.calm=true)(nd:X.N.Nodup)(ha:X.N[a]? =some x)(hb:X.N[b]? =some y)(hx:X.env.scope.names.lookup x=some .local)(hy:X.env.scope.names.lookup y=some .local)(hK:X.K=K):PG X (.Tuple [.Name x px,.Name y py] k pos) (g2 K a b):=by subst hK;exact mP hc (dF (Eo nd ha (Dk hx) (.inr hx)) (dF (Eo nd hb (Dk hy) (.inr hy)) kI))
theorem Qp{α β:Type}{G:α->β->Prop}{l:List α}{m:List β}(h:eZ G l m){a:α}{b:β}(hg:G a b):eZ G (l++[a]) (m++[b]):=by
 induction h with
 |nil=>exact .cons hg .nil
 |cons h1 _ ih=>exact .cons h1 ih
theorem Ac{α:Type}{l:List α}{x:α}(h:l[i]? =some x)(p:α->Bool):(l.take (i+1)).filter p=if p x=true then (l.take i).filter p++[x]else (l.take i).filter p:=by rw[dM h,qH];cases e:p x<;>simp[e]
theorem Ys{v1 v2:Nat}(pass:Rule->Bool)(hv:vs=[v1,v2])(qg:v1≠v2)(h1:v1<σ.length)(h2:v2<σ.length)
  (uM:∀R:VK,R (.ref a) H->tl σ H R) (hG:fZ H a g) (hl:g.length<=1000)
  (ht:∀(r:Rule) (q:Addr) (H':Hp),r∈g->aK H H'->oU H q r.right->∀R:Bool->Hp->Prop,(∀H4,aK H' H4->R (pass r) H4)->tt (((jW σ [v1,v2]).set v1 (some (.int r.left))).set v2 (some (.ref q))) H' R)
  (k:∀D H',H D=none->aK H H'->fZ H' D (g.filter pass)->Q (.ref D) H'):JH (My K tl) (g2 K v1 v2) tt (WV (gS (fC v1) (gS (fC v2) oW))) vs σ H Q:=by
 subst hv
 obtain⟨ps,uA,vO⟩:=hG
 have hlen:ps.length=g.length:=dC vO
 refine uM _ ⟨a,rfl,⟨_,cY uA⟩,fun D hD=>?_⟩
 refine Ff (K:=K) (a:=a) (xs:=ps.map V.ref) (Qd:=Q (.ref D)) (fun i H'=>aK H H'/\∃Gk:La,H' D=some (.lst (Gk.map V.ref))/\eZ (fun p r=>∃q,Rd H' p (.tup [.int (r.left:Int),.ref q])/\oU H q r.right) Gk ((g.take i).filter pass)) ⟨aK.upd hD,[],aC,.nil⟩ (fun i H' _ h=>cY (aK.le h.1 _ _ iP uA)) ?_ fun H' h=>?_
 .rintro i x H' HL ⟨s1,Gk,SQ,Ro⟩;obtain⟨p0,e0,rfl⟩:=mQ HL;obtain⟨r,er,q,Cz,yR⟩:=gI vO e0;have hi:i<g.length:=(aL.mp er).1;have N8:∀{rW:Hp} {xs ys},rW D=some (.lst xs)->∀{p},Rd rW p (.tup ys)->p≠D:=by intro rW xs ys e p r z;rw[z]at r;rcases r with r|⟨o,r⟩<;>rw[e]at r<;>cases r
  refine Bx (nE (aK.le s1 _ _ Ew Cz)) ⟨?_,?_⟩
  .show((((((σ.set v2 none).set v1 none).set v1 _).set v2 _).set v2 none).set v1 none)=(σ.set v2 none).set v1 none;apply Hy;intro j;simp only[vS,tD];repeat' split
   all_goals first|rfl|lia
  .refine ht r q H' (aG er) s1 yR _ fun H4 s4=>?_;have ZA:eZ (fun p r=>∃q,Rd H4 p (.tup [.int (r.left:Int),.ref q])/\oU H q r.right) Gk ((g.take i).filter pass):=Paired.qE Ro fun _ _ ⟨q,z1,z2⟩=>⟨q,aK.le s4 _ _ Ew z1,z2⟩;rw[Ac er];cases SG:pass r with
   |false=>exact qF ⟨s1.trans s4,Gk,s4 _ _ SQ,by simpa[SG]using ZA⟩
   |true=>
    refine oZ ⟨.int r.left,?_,.ref q,?_,z2,fun b hb=>⟨Gk.map V.ref,?_,?_,aK.then (s1.trans (s4.trans (aK.upd hb))) hD,Gk++[b],?_,?_⟩⟩;rotate_left 2
    .rw[aH (cK (s4 _ _ SQ) hb)];exact s4 _ _ SQ
    .rw[aA,dC ZA];exact bV (eF _ _) (by rw[dB];exact cA (show min i g.length<1001 by lia) (by decide))
    .rw[aQ];exact aC
    .simp only[if_true];have U7:b≠D:=fun z=>by rw[z,s4 _ _ SQ]at hb;cases hb
     have s5:aK H4 (bI H4 b (.tup [.int (r.left:Int),.ref q])):=aK.upd hb;refine Qp (Paired.qE ZA ?_) ⟨q,.inl (by rw[aH U7];exact aC),yR⟩;rintro p r ⟨q,z1,z2⟩;refine⟨q,?_,z2⟩;have n1:=N8 (s4 _ _ SQ) z1;have z3:=aK.le s5 _ _ Ew z1;unfold Rd at*;rw[aH n1];exact z3
    .simp only[vS,tD,jW];simp[qg,h1,h2,Ne.symm qg]
    .simp only[vS,tD,jW];simp[qg,h1,h2]
 .obtain⟨s1,Gk,SQ,Ro⟩:=h;rw[aA,hlen,bX]at Ro;exact k D H' hD s1 ⟨Gk,.inl SQ,Paired.qE Ro fun _ _ ⟨q,z1,z2⟩=>⟨q,z1,z2.le (aK.le s1)⟩⟩
inductive Xh:Sp|mk {vs H Q Z} (g:Lr) (F:Nat->Option Nat) (kvs:List (iM×V)) (a d:Addr):vs=[.ref a,.ref d]->(∀r∈g,r.right.length<=1000)->g.length<=1000->fZ H a g->Rd H d (.dK kvs)->yT F kvs->(∀H' r,aK H H'->H r=none->fZ H' r (g.filter fun x=>(jL F x.right).isSome)->Q (.ref r) H')->Xh vs H Q Z
theorem yr:cB ["rules","lengths","left","right"] ["rules","lengths"] (bF (st 15)):=oP
theorem lr(F:lY K "rules_of_some_tree" "rules_of_some_tree" (st 15) f fd)(N6:mW P w K mg aT 1 "parts_known" ["known","right"] OL):eN P w K mg aT lM 2 f fd ["rules","lengths"] Xh:=by refine oB F yr fun H Q hr h=>?_;obtain⟨g,F',kvs,a,d,rfl,Bc,Vb,hG,hd,ld,k⟩:=h;have nd:=yr.nd;refine⟨_,aU (cO (sO (own:=[("left",2),("right",3)]) rfl nd (gT (pv 0)) (iR (by show vK ["rules","lengths","left","right"] (bF (st 15)) _ _=true;decide+kernel)) (fun _ _ _ _ _=>S4 (a:=2) (b:=3) rfl nd rfl rfl rfl rfl rfl) (fun _ _ _ _ _=>Ax (nF (dW N6 hr (aB (pv 1) (aB (pv 3) aP))))) (fun _ _ _ _ _=>oX (aB (pv 2) (aB (pv 3) aP))))),?_⟩;refine Ys (K:=K) (tl:=fC 0) (σ:=[some (.ref a),some (.ref d),none,none]) (Q:=Q) (v1:=2) (v2:=3) (vs:=[2,3]) (fun x=>(jL F' x.right).isSome) rfl (by decide) (by simp) (by simp) (fun R h=>⟨_,rfl,h⟩) hG Vb ?_ fun D H' hD s1 hR=>k H' D s1 hD hR;intro r q H' MG s1 hq R hR;refine⟨_,rfl,_,rfl,kvs,r.right,d,q,rfl,aK.le s1 _ _ qV hd,hq.le (aK.le s1),Bc r MG,fun H4 s4=>⟨_,rfl,?_⟩⟩;rw[GO ld];exact hR H4 s4
theorem DE{F:Nat->Option Nat}(wf:WF g)(h:qR g F)(hr:r∈g)(e:(jL F r.right).isSome=true):∃m,F r.left=some m:=by obtain⟨n,e⟩:=fR.mp e;obtain⟨w,rs,d,_⟩:=Tw.xK h.toLenS e;obtain⟨k,ek⟩:=Tw.sS hr;have hl:=(wf r hr).1;obtain⟨m,em,_⟩:=h.least (Tw.D.nN ek hl d) (by simp;lia);exact⟨m,Tw.mN.mp em⟩
def RS(F:Nat->Option Nat)(most:Nat)(r:Rule):Bool:=match jL F r.right,F r.left with
 |some n,some m=>decide (n=m/\m<=most)
 |_,_=>false
theorem Yx{F:Nat->Option Nat}{most:Nat}:r∈(g.filter fun x=>(jL F x.right).isSome).filter (RS F most)↔SR g F most r:=by
 rw[aM,aM];unfold RS SR;constructor
 .rintro⟨⟨h1,h2⟩,h3⟩;split at h3
  .rename_i n m e1 e2;have:=aR h3;exact⟨h1,n,e1,by rw[e2,this.1],by lia⟩
  .cases h3
 .rintro⟨h1,n,e1,e2,e3⟩;refine⟨⟨h1,by rw[e1];rfl⟩,?_⟩;rw[e1,e2];exact bB ⟨rfl,e3⟩
inductive OG:Sp|mk {vs H Q Z} (g:Lr) (F:Nat->Option Nat) (kvs:List (iM×V)) (a d:Addr) (most:Nat):vs=[.ref a,.ref d,.int (most:Int)]->WF g->(∀r∈g,r.right.length<=1000)->g.length<=1000->fZ H a g->Rd H d (.dK kvs)->yT F kvs->qR g F->(∀H' r,aK H H'->H r=none->fZ H' r ((g.filter fun x=>(jL F x.right).isSome).filter (RS F most))->Q (.ref r) H')->OG vs H Q Z
theorem yq:cB ["rules","lengths","most","useful","left","right"] ["rules","lengths","most"] (bF (st 16)):=oP
theorem lj(F:lY K "shortest_rules" "shortest_rules" (st 16) f fd)(N5:mW P w K mg aT 2 "rules_of_some_tree" ["rules","lengths"] Xh)(hLR:mW P w K mg aT 1 "length_of_right" ["lengths","right"] JN):eN P w K mg aT lM 3 f fd ["rules","lengths","most"] OG:=by
 refine oB F yq fun H Q hr h=>?_
 obtain⟨g,F',kvs,a,d,most,rfl,wf,Bc,Vb,hG,hd,ld,lo,k⟩:=h
 have nd:=yq.nd
 have hu:=jV hr
 have yJ:=hr.mono (show 1<=2 by decide)
 refine⟨_,aJ (sv (i:=3) nd (dW N5 hr (aB (pv 0) (aB (pv 1) aP))))
  (aU (cO (sO (own:=[("left",4),("right",5)]) rfl nd (gT (pv 3)) (iR (by show vK ["rules","lengths","most","useful","left","right"] (bF (st 16)) _ _=true;decide+kernel)) (fun _ _ _ _ _=>S4 (a:=4) (b:=5) rfl nd rfl rfl rfl rfl rfl) (fun _ _ _ _ _=>Ax (El pF tU (dW hLR yJ (aB (pv 1) (aB (pv 5) aP))) (nM hu (pv 1) (pv 4) (fun _ _=>rfl)) (pv 2))) (fun _ _ _ _ _=>oX (aB (pv 4) (aB (pv 5) aP)))))),?_⟩
 refine⟨_,rfl,_,rfl,g,F',kvs,a,d,rfl,Bc,Vb,hG,hd,ld,fun H1 u s1 fu hU=>?_⟩
 refine Ys (K:=K) (tl:=fC 3) (σ:=[some (.ref a),some (.ref d),some (.int most),some (.ref u),none,none]) (Q:=Q) (v1:=4) (v2:=5) (vs:=[4,5]) (RS F' most) rfl (by decide) (by simp) (by simp) (fun R h=>⟨_,rfl,h⟩) hU (bK (eF _ _) Vb) ?_ fun D H' hD s2 hR=>k H' D (s1.trans s2) (aK.free s1 hD) hR
 intro r q H' MG s2 hq R hR
 obtain⟨J9,J5⟩:=aM.mp MG
 obtain⟨m,em⟩:=DE wf lo J9 J5
 obtain⟨n,en⟩:=fR.mp J5
 have DR:=aK.le (s1.trans s2) _ _ qV hd
 refine⟨_,rfl,_,rfl,F',kvs,r.right,n,d,q,rfl,DR,ld,hq.le (aK.le s2),Bc r J9,en,fun H4 s4=>?_⟩
 have LB:=kS (aK.le s4 _ _ qV DR) (aV (r.left:Int))
 rw[ld r.left,em]at LB
 refine⟨_,rfl,_,rfl,d,_,rfl,LB,rfl,_,rfl,?_⟩
 have hS:=hR H4 s4
 unfold RS at hS
 rw[en,em]at hS
 by_cases q:n=m
 .refine gB (bB (by rw[q])) ⟨_,rfl,_,_,rfl,rfl,_,rfl,?_⟩;have:decide ((m:Int)<=most)=decide (n=m/\m<=most):=by by_cases q2:m<=most<;>simp[q,q2]
  rw[this];exact hS
 .refine eE (bH (fun z=>q (by injection z with z;lia))) ⟨_,rfl,?_⟩;have:false=decide (n=m/\m<=most):=by simp[q]
  rw[this];exact hS
def Pq:T->Nat
 |[]=>0
 |c::l=>c.toNat*256^l.length+Pq l
theorem QK:∀l:T,Pq l<256^l.length
 |[]=>by decide
 |c::l=>by have h1:=QK l;have h2:=c.toNat_lt;show c.toNat*256^l.length+Pq l<256^(l.length+1);have h3:(c.toNat+1)*256^l.length<=256*256^l.length:=oV _ (by lia);rw[IX]at h3;rw[Nat.pow_succ];lia
def i8(t:T):List Int:=t.map fun c=>(c.toNat:Int)
theorem cz(t:T):(i8 t).map V.int=Ib t:=by unfold i8 Ib;rw[dG];rfl
theorem RY(t:T):(i8 t).length=t.length:=by unfold i8;rw[aA]
theorem Mq:∀{a b:T},HT.Dq (i8 a) (i8 b)=uL (Tw.rO a) (Tw.rO b)
 |[],[]=>rfl
 |[],_::_=>rfl
 |_::_,[]=>rfl
 |x::a,y::b=>by
  show HT.Dq ((x.toNat:Int)::i8 a) ((y.toNat:Int)::i8 b)=(decide (x.toNat<y.toNat)||(x.toNat==y.toNat&&uL (Tw.rO a) (Tw.rO b)));rw[HT.Mr,Mq];by_cases h:x.toNat=y.toNat
  .rw[if_pos (by lia),h];simp
  .rw[if_neg (by lia)];simp[h]
theorem Yh:∀{a b:T},a.length=b.length->uL (Tw.rO a) (Tw.rO b)=true->Pq a<Pq b
 |[],[],_,h=>by cases h
 |[],_::_,h,_=>by simp at h
 |_::_,[],h,_=>by simp at h
 |x::a,y::b,hl,h=>by
  have hl:a.length=b.length:=by simpa using hl
  have h:(decide (x.toNat<y.toNat)||(x.toNat==y.toNat&&uL (Tw.rO a) (Tw.rO b)))=true:=h;show x.toNat*256^a.length+Pq a<y.toNat*256^b.length+Pq b;rw[hl];have ha:=QK a;rw[hl]at ha;rcases(eI _ _).mp h with h|h
  .have h:=aR h;have h3:(x.toNat+1)*256^b.length<=y.toNat*256^b.length:=oV _ h;rw[IX]at h3;lia
  .obtain⟨h1,h2⟩:=(bJ _ _).mp h;rw[beq_iff_eq]at h1;rw[h1];have:=Yh hl h2;lia
def xZ(B H:Hp)(X:Nat->Option T)(kvs:List (iM×V)):Prop:=∀s:Nat,(X s=none/\eO kvs (aV (s:Int))=none)∨∃w b,X s=some w/\eO kvs (aV (s:Int))=some (.ref b)/\H b=some (.lst (Ib w))/\B b=none
theorem xZ.sx{B:Hp}(h:xZ B H X kvs)(s:SX F H H')(nl:∀x∈F,∀xs,H x≠some (.lst xs)):xZ B H' X kvs:=fun x=>by
 rcases h x with h|⟨w,b,h1,h2,h3,h4⟩
 .exact .inl h
 .exact .inr ⟨w,b,h1,h2,s _ _ h3 fun m=>nl b m _ h3,h4⟩
theorem xZ.put{B:Hp}(h:xZ B H X kvs)(s:Nat){w:T}(hb:H b=some (.lst (Ib w)))(hB:B b=none):xZ B H (fun x=>if x=s then some w else X x) (kG kvs (aV (s:Int)) (.ref b)):=by
 intro x;rw[Kv];by_cases e:x=s
 .subst e;exact .inr ⟨w,b,by simp,by simp,hb,hB⟩
 .rw[if_neg (fun z=>e (by have:=kJ z;lia))];show((if x=s then some w else X x)=none/\_)∨∃w' b',(if x=s then some w else X x)=some w'/\_;rw[if_neg e];exact h x
theorem xZ.OT{B:Hp}(h:xZ B H X kvs)(s:Nat):(eO kvs (aV (s:Int))).isSome=(X s).isSome:=by rcases h s with ⟨h1,h2⟩|⟨w,b,h1,h2,_⟩<;>rw[h1,h2]<;>rfl
theorem XZ{B:Hp}(h:xZ B H X kvs)(l:Ln):(l.all fun s=>(eO kvs (aV (s:Int))).isSome)=(mI X l).isSome:=by
 induction l with
 |nil=>rfl
 |cons s l ih=>rw[jP,ih,h.OT s];show _=(match X s,mI X l with|some a,some b=>some (a++b)|_,_=>none).isSome;cases X s<;>cases mI X l<;>rfl
theorem Gy:∀{l:Ln} {s:Nat},mI X (l++[s])=match mI X l,X s with|some a,some b=>some (a++b)|_,_=>none
 |[],s=>by
  show(match X s,some []with|some a,some b=>some (a++b)|_,_=>none)=match some [],X s with|some a,some b=>some (a++b)|_,_=>none
  cases X s<;>simp
 |x::l,s=>by
  show(match X x,mI X (l++[s])with|some a,some b=>some (a++b)|_,_=>none)=match (match X x,mI X l with|some a,some b=>some (a++b)|_,_=>none),X s with|some a,some b=>some (a++b)|_,_=>none
  rw[Gy];cases X x<;>cases mI X l<;>cases X s<;>simp
theorem JP{w:T}(h:mI X l=some w)(i:Nat):∃v u,mI X (l.take i)=some v/\w=v++u:=by
 induction l generalizing i w with
 |nil=>cases h;exact⟨[],[],by simp[mI],rfl⟩
 |cons s l ih=>
  have h:(match X s,mI X l with|some a,some b=>some (a++b)|_,_=>none)=some w:=h;cases i with
  |zero=>exact⟨[],w,by simp[mI],rfl⟩
  |succ i=>
   cases e1:X s with
   |none=>rw[e1]at h;cases h
   |some a=>
    cases e2:mI X l with
    |none=>rw[e1,e2]at h;cases h
    |some b=>rw[e1,e2]at h;cases h;obtain⟨v,u,e3,e4⟩:=ih e2 i;refine⟨a++v,u,?_,by rw[e4,eV]⟩;show(match X s,mI X (l.take i)with|some a,some b=>some (a++b)|_,_=>none)=_;rw[e1,e3]
inductive OE:Sp|mk {vs H Q Z} (B:Hp) (X:Nat->Option T) (kvs:List (iM×V)) (l:Ln) (w:T) (a q:Addr):vs=[.ref a,.ref q]->Rd H a (.dK kvs)->xZ B H X kvs->oU H q l->mI X l=some w->w.length<=100000->(∀H' r,aK H H'->H r=none->H' r=some (.lst (Ib w))->Q (.ref r) H')->OE vs H Q Z
theorem yp:cB ["texts","right","text","symbol"] ["texts","right"] (bF (st 17)):=oP
theorem zk(F:lY K "text_of_right" "text_of_right" (st 17) f fd):eN P w K mg aT lM 1 f fd ["texts","right"] OE:=by
 refine oB F yp fun H Q hr h=>?_
 obtain⟨B,X,kvs,l,wd,a,q,rfl,ha,hX,hq,hw,ug,k⟩:=h
 have nd:=yp.nd
 have hu:=jV hr
 refine⟨_,aJ (sv (i:=2) nd (fE aP))
  (aJ (gR bN rfl (gT (pv 1)) (gv (i:=3) nd)
   (aU (fM (uY cF lK lJ wF (pv 2) (aB (nM hu (pv 0) (pv 3) (fun _ _=>rfl)) aP)))))
  (aU (cO (pv 2)))),?_⟩
 refine⟨z0,fun r Be=>?_⟩
 have mE:∀{H':Hp},SX [r] H H'->Le H H':=fun sx=>SX.mE sx .refl (by simp[Be])
 refine⟨_,rfl,q,rfl,⟨_,cY (mE (SX.upd (by simp)) _ _ iP hq)⟩,mG (K:=K) (a:=q) (xs:=kL l) (fun i σ H'=>E2 fun v3 v=>A4 (σ=[some (.ref a),some (.ref q),some (.ref r),v3]) (SX [r] H H') (mI X (l.take i)=some v) (H' r=some (.lst (Ib v))))
  ⟨none,[],rfl,SX.upd (by simp),by simp[mI],aC⟩ (fun i σ H' _ ⟨_,_,_,sx,_,_⟩=>cY (mE sx _ _ iP hq)) ?_ ?_⟩
 .rintro i x σ H' hx ⟨v3,v,rfl,sx,ev,yJ⟩;obtain⟨s,es,rfl⟩:=xP hx;obtain⟨v',u,e1,e2⟩:=JP hw (i+1);rw[dM es,Gy,ev]at e1;have hX':=hX.sx sx (by simp[Be]);rcases hX' s with ⟨z,_⟩|⟨y,b,ey,eb,hb,_⟩
  .rw[z]at e1;cases e1
  .rw[ey]at e1;cases e1;have hg:=kS (mE sx _ _ qV ha) (aV (s:Int));rw[eb]at hg;have hlen:v.length+y.length<=100000:=by have:=gL jU e2;rw[bA,bA]at this;lia
   refine⟨_,rfl,.inl ⟨rfl,_,iY.of yJ⟩,_,rfl,_,rfl,a,_,rfl,hg,r,b,_,_,rfl,rfl,yJ,hb,?_,?_⟩
   .unfold Ib;rw[aA,aA];exact bK hlen (by decide)
   .refine⟨_,v++y,rfl,sx.trans (SX.upd (by simp)),?_,?_⟩
    .rw[dM es,Gy,ev,ey]
    .unfold Ib;rw[aQ];exact aC
 .rintro σ H' ⟨v3,v,rfl,sx,ev,yJ⟩;rw[fO,bX,hw]at ev;cases ev;exact⟨_,rfl,k H' r (SX.same (sx.drop (by simp[Be]))) Be yJ⟩
inductive BZ(P:dJ)(w:World)(K:aX)(mg:Str->Option Value)(aT:Heap):Sp|mk {vs H Q Z} (B:Hp) (g0 g:Lr) (L:Nat->Option Nat) (most:Nat) (F:Nat->Option T) (kvs:List (iM×V)) (a kn fv:Addr) (fd:oI):vs=[.ref a,.ref kn,.ref fv]->gZ K (.ref fv)=true->tL K fd ["texts","right"] []->eN P w K mg aT lM 1 fv fd ["texts","right"] OE->(∀a,H a=none->B a=none)->WF g0->LenS g0 L->most<=65536->(∀r,r∈g↔SR g0 L most r)->(∀r∈g,r.right.length<=1000)->fZ H a g->H kn=some (.dK kvs)->uN kvs->xZ B H F kvs->xY g0 L most F->(∀H' F' Ph,SX [kn] H H'->H' kn=some (.dK Ph)->uN Ph->xZ B H' F' Ph->xY g0 L most F'->(∀r,SR g0 L most r->∀n,mI F' r.right=some n->∃m,F' r.left=some m/\Tw.LE m n)->Q (.ref kn) H')->BZ P w K mg aT vs H Q Z
theorem YI(F:lY K "least_of_each" "least_of_each" (st 13) f fd)(N6:mW P w K mg aT 1 "parts_known" ["known","right"] OL):
  eN P w K mg aT lM 2 f fd ["rules","known","value_of_right"] (BZ P w K mg aT):=by
 refine oB F XN fun H Q hr h=>?_
 obtain⟨B,g0,g,L,most,F0,nh,a,kn,fv,qr,rfl,kp,bi,fo,hBH,wf,hL,hmo,hSR,Bc,hG,HP,Y2,n6,Dp,k⟩:=h
 have nd:=XN.nd
 have hu:=jV hr
 refine⟨_,aJ (sv (i:=3) nd sP)
  (aJ (Qv bN (nF (pv 3)) (aJ (sv (i:=3) nd sP)
   (aU (gR bN rfl (gT (pv 0)) (mP rfl (dF (gv (i:=4) nd) (dF (gv (i:=5) nd) kI)))
    (aU (gN (nF (dW N6 hr (aB (pv 1) (aB (pv 5) aP))))
     (aJ (sv (i:=6) nd (QA (i:=2) (aB (pv 1) (aB (pv 5) aP))))
      (aU (gN (zT (sG (pV hu (pv 4) (pv 1)) (by with_unfolding_all rfl)) (vI (eM (ki (VA hu)) (pv 6) (nM hu (pv 1) (pv 4) (fun _ _=>rfl)) (fU _)))).pt
       (aJ (lV hu (pv 1) (pv 4) (pv 6) rfl) (aU (sv (i:=3) nd sP))) dX))) dX))))))
  (aU (cO (pv 1)))),?_⟩
 have nl:∀x∈[kn],∀xs,¬Rd H x (.lst xs):=fun x hx xs=>by rw[aO.mp hx];exact Eu (.inl HP) xs
 have nt:∀x∈[kn],∀xs,¬Rd H x (.tup xs):=fun x hx xs=>by rw[aO.mp hx];exact Yi (.inl HP) xs
 refine⟨fun m σ H'=>E6 fun ch F kvs v4 v5 v6=>A8 (σ=[some (.ref a),some (.ref kn),some (.ref fv),some (.bl ch),v4,v5,v6]) (SX [kn] H H') (H' kn=some (.dK kvs)) (uN kvs) (xZ B H' F kvs) (xY g0 L most F)
   (ch=false->∀r∈g,∀n,mI F r.right=some n->∃m,F r.left=some m/\Tw.LE m n) (m=(Jl g F,Oj Pq g F+(if ch=true then 1 else 0))),
  ⟨_,true,F0,nh,none,none,none,rfl,SX.refl,HP,Y2,n6,Dp,(fun z=>by cases z),rfl⟩,?_⟩
 rintro m σ H' ⟨ch,F,kvs,v4,v5,v6,rfl,sx,hk,sy,ld,ls,cl,rfl⟩
 refine⟨_,rfl,ch,rfl,?_⟩
 cases ch with
 |false=>refine qF ?_;exact⟨_,rfl,k H' F kvs sx hk sy ld ls fun r hr=>cl rfl r ((hSR r).mpr hr)⟩
 |true=>
  refine oZ ⟨_,fun σ' rW h=>h,?_⟩
  obtain⟨ps,uA,vO⟩:=hG
  have hG:fZ H a g:=⟨ps,uA,vO⟩
  have rd:∀{rW:Hp},SX [kn] H rW->Rd rW a (.lst (ps.map V.ref)):=fun{rW} s=>by
   have hb:a∉[kn]:=fun m=>nl a m _ uA
   rcases uA with r|⟨o,r⟩
   .exact .inl (s _ _ r hb)
   .exact .inr ⟨o,s _ _ r hb⟩
  refine⟨_,rfl,a,rfl,⟨_,cY (rd sx)⟩,mG (K:=K) (a:=a) (xs:=ps.map V.ref) (fun i σ H2=>E6 fun ch F2 mR v4 v5 v6=>A8 (σ=[some (.ref a),some (.ref kn),some (.ref fv),some (.bl ch),v4,v5,v6]) (SX [kn] H H2) (H2 kn=some (.dK mR)) (uN mR) (xZ B H2 F2 mR) (xY g0 L most F2)
    (ch=false->F2=F/\∀r∈g.take i,∀n,mI F r.right=some n->∃m,F r.left=some m/\Tw.LE m n) (ch=true->wW (Jl g F2,Oj Pq g F2) (Jl g F,Oj Pq g F)))
   ⟨false,F,kvs,v4,v5,v6,rfl,sx,hk,sy,ld,ls,fun _=>⟨rfl,by simp⟩,(fun z=>by cases z)⟩ (fun i σ H2 _ ⟨_,_,_,_,_,_,_,tF,_,_,_,_,_,_⟩=>cY (rd tF)) ?_ ?_⟩
  .rintro i x σ H2 hx ⟨ch,F2,mR,v4,v5,v6,rfl,tF,Ir,Xc,Wg,pX,c0,c1⟩
   obtain⟨p0,e0,rfl⟩:=mQ hx
   obtain⟨r,er,_⟩:=gI vO e0
   have hG2:=hG.sx tF nl nt
   obtain⟨Xt,DK,KU⟩:=hG2
   have eps:Xt=ps:=by
    have h1:=rd tF
    have:∀{u u':Lv},Rd H2 a (.lst u)->Rd H2 a (.lst u')->u=u':=by
     rintro u u' (z|⟨o,z⟩) (y|⟨o',y⟩)<;>rw[z]at y<;>cases y<;>rfl
    have:=this DK h1
    exact(Gi (fun x y h=>by cases h;rfl)).mp this
   subst eps
   obtain⟨r',qt,q,Cz,yR⟩:=gI KU e0
   rw[er]at qt
   cases qt
   have AR:=aG er
   refine Bx (nE Cz) ?_
   refine⟨_,rfl,_,rfl,mR,r.right,kn,q,rfl,.inl Ir,yR,Bc r AR,fun H3 s3=>⟨_,rfl,?_⟩⟩
   rw[XZ Wg]
   have DN:=s3 _ _ Ir
   have Ck:=tF.trans (SX.of s3)
   have pO:∀v4 v5 v6 (H4:Hp),SX [kn] H H4->H4 kn=some (.dK mR)->xZ B H4 F2 mR->(∀n,mI F2 r.right=some n->∃m,F2 r.left=some m/\Tw.LE m n)->
     E6 fun ET F2 mR gj gi gf=>A8 ([some (V.ref a),some (.ref kn),some (.ref fv),some (.bl ch),v4,v5,v6]=[some (.ref a),some (.ref kn),some (.ref fv),some (.bl ET),gj,gi,gf]) (SX [kn] H H4) (H4 kn=some (.dK mR)) (uN mR) (xZ B H4 F2 mR) (xY g0 L most F2)
      (ET=false->F2=F/\∀r∈g.take (i+1),∀n,mI F r.right=some n->∃m,F r.left=some m/\Tw.LE m n) (ET=true->wW (Jl g F2,Oj Pq g F2) (Jl g F,Oj Pq g F)):=by
    intro v4 v5 v6 H4 s4 h4 E9 hc
    refine⟨ch,F2,mR,v4,v5,v6,rfl,s4,h4,Xc,E9,pX,fun hf=>?_,c1⟩
    obtain⟨e1,e2⟩:=c0 hf
    refine⟨e1,fun r' MG=>?_⟩
    rw[dM er]at MG
    rcases aN.mp MG with h|h
    .exact e2 r' h
    .rw[aO.mp h,<-e1];exact hc
   cases Mz:mI F2 r.right with
   |none=>
    refine qF (pO _ _ _ H3 Ck DN (Wg.sx (SX.of s3 (F:=[])) (by simp)) fun n z=>by rw[Mz]at z;cases z)
   |some n=>
    have uj:=(hSR r).mp AR
    obtain⟨_,J0⟩:=Tw.Cp hL pX Mz
    have hnl:n.length<=most:=by
     obtain⟨_,m,e1,_,e3⟩:=uj
     rw[J0]at e1;cases e1;exact e3
    refine oZ ⟨fv,rfl,kp,1,qr,_,OE,hr,bi,fo,_,rfl,_,rfl,B,F2,mR,r.right,n,kn,q,rfl,.inl DN,Wg.sx (SX.of s3 (F:=[])) (by simp),yR.le (aK.le s3),Mz,by lia,fun H4 nb s4 V2 ur=>?_⟩
    have abK:B nb=none:=by
     refine hBH _ ?_
     cases z:H nb with
     |none=>rfl
     |some o=>
      have:=Ck _ _ z (by simp;intro e;rw[e,DN]at V2;cases V2)
      rw[this]at V2;cases V2
    have MK:=s4 _ _ DN
    have Gw:=Ck.trans (SX.of s4)
    have E9:=Wg.sx (SX.of (s3.trans s4) (F:=[])) (by simp)
    have LB:=kS (.inl MK) (aV (r.left:Int))
    refine⟨_,rfl,_,rfl,kn,_,rfl,LB,_,rfl,?_⟩
    have chg:(F2 r.left=none∨∃m,F2 r.left=some m/\Pq n<Pq m)->
     E6 fun ET UO Mu gj gi gf=>A8 ([some (V.ref a),some (.ref kn),some (.ref fv),some (.bl true),some (.int r.left),some (.ref q),some (.ref nb)]=[some (.ref a),some (.ref kn),some (.ref fv),some (.bl ET),gj,gi,gf]) (SX [kn] H (bI H4 kn (.dK (kG mR (aV (r.left:Int)) (.ref nb))))) ((bI H4 kn (.dK (kG mR (aV (r.left:Int)) (.ref nb)))) kn=some (.dK Mu)) (uN Mu) (xZ B (bI H4 kn (.dK (kG mR (aV (r.left:Int)) (.ref nb)))) UO Mu) (xY g0 L most UO)
      (ET=false->UO=F/\∀r∈g.take (i+1),∀n,mI F r.right=some n->∃m,F r.left=some m/\Tw.LE m n) (ET=true->wW (Jl g UO,Oj Pq g UO) (Jl g F,Oj Pq g F)):=by
     intro hc
     have lx:wW (Jl g (fun s=>if s=r.left then some n else F2 s),Oj Pq g (fun s=>if s=r.left then some n else F2 s)) (Jl g F2,Oj Pq g F2):=GY (μ:=Pq) AR hc
     refine⟨true,fun s=>if s=r.left then some n else F2 s,_,_,_,_,rfl,Gw.trans (SX.upd (by simp)),aC,Xc.put (by have:=(wf r uj.1).1;lia) _,(E9.put _ ur abK).sx (SX.upd (F:=[kn]) (by simp)) (by simp[MK]),pX.put wf hL uj Mz,(fun z=>by cases z),fun _=>?_⟩
     cases ch with
     |false=>rw[<-(c0 rfl).1];exact lx
     |true=>exact wW.trans lx (c1 rfl)
    rcases E9 r.left with ⟨hl,e0⟩|⟨m,mb,hl,e0,hmb,_⟩
    .rw[e0]
     refine oZ (oZ ⟨_,rfl,_,rfl,_,rfl,kn,_,rfl,sL.k (k:=aV (r.left:Int)) MK Xc.len,chg (.inl hl)⟩)
    .rw[e0]at LB ⊢
     have hml:n.length=m.length:=by
      obtain⟨_,x,e1,e2,e3⟩:=uj
      rw[J0]at e1
      obtain⟨_,e4⟩:=pX.any hL hl
      rw[e2]at e4
      have q1:=bC e1
      have q2:=bC e4
      lia
     refine qF ⟨_,rfl,_,rfl,_,rfl,kn,_,rfl,LB,?_⟩
     refine⟨nb,mb,i8 n,i8 m,rfl,rfl,by rw[cz];exact ur,by rw[cz];exact hmb,by rw[RY,RY,hml],_,rfl,?_⟩
     rw[Mq]
     cases lt:uL (Tw.rO n) (Tw.rO m)with
     |true=>exact oZ ⟨_,rfl,_,rfl,_,rfl,kn,_,rfl,sL.k (k:=aV (r.left:Int)) MK Xc.len,chg (.inr ⟨m,hl,Yh hml lt⟩)⟩
     |false=>
      refine qF (pO _ _ _ H4 Gw MK E9 fun n' z=>?_)
      rw[Mz]at z
      cases z
      refine⟨m,hl,Tw.LE.Hd fun z=>?_⟩
      rcases Tw.lL.mp z with z|⟨_,z⟩
      .lia
      .rw[lt]at z;cases z
  .rintro σ H2 ⟨ch,F2,mR,v4,v5,v6,rfl,tF,Ir,Xc,Wg,pX,c0,c1⟩
   have len:(ps.map V.ref).length=g.length:=by rw[aA];exact dC vO
   rw[len]at c0
   rw[bX]at c0
   cases ch with
   |false=>
    obtain⟨rfl,cl⟩:=c0 rfl
    exact⟨(Jl g F2,Oj Pq g F2),.inr ⟨rfl,sE _⟩,false,F2,mR,v4,v5,v6,rfl,tF,Ir,Xc,Wg,pX,fun _=>cl,rfl⟩
   |true=>
    refine⟨_,?_,true,F2,mR,v4,v5,v6,rfl,tF,Ir,Xc,Wg,pX,(fun z=>by cases z),rfl⟩
    have:=c1 rfl
    unfold wW at*
    simp only[if_true]at*
    lia
inductive iy:Sp|mk {vs H Q Z} (g:Lr) (L:Nat->Option Nat) (kvs:List (iM×V)) (a d:Addr) (most:Nat):vs=[.ref a,.ref d,.int (most:Int)]->most<=65536->WF g->(∀r∈g,r.right.length<=1000)->g.length<=1000->fZ H a g->Rd H d (.dK kvs)->yT L kvs->qR g L->(∀H' r X Ph,aK H H'->H r=none->H' r=some (.dK Ph)->xZ H H' X Ph->xY g L most X->(∀r,SR g L most r->∀n,mI X r.right=some n->∃m,X r.left=some m/\Tw.LE m n)->Q (.ref r) H')->iy vs H Q Z
theorem yo:cB ["rules","lengths","most","texts","symbol"] ["rules","lengths","most"] (bF (st 18)):=oP
theorem zo(F:lY K "shortest_texts" "shortest_texts" (st 18) f fd)(T:uO mg)(hL:mW P w K mg aT 2 "least_of_each" ["rules","known","value_of_right"] (BZ P w K mg aT))(hR:mW P w K mg aT 1 "text_of_right" ["texts","right"] OE)(hS:mW P w K mg aT 3 "shortest_rules" ["rules","lengths","most"] OG):
  eN P w K mg aT lM 4 f fd ["rules","lengths","most"] iy:=by
 refine oB F yo fun H Q hr h=>?_
 obtain⟨g,L,n8,a,d,most,rfl,hmo,wf,Bc,Vb,hG,hd,ld,lo,k⟩:=h
 have nd:=yo.nd
 have hu:=jV hr
 have Uy:=hr.mono (show 2<=3 by decide)
 obtain⟨fv,qr,e1,e2,e3,e4⟩:=hR
 refine⟨_,aJ (sv (i:=3) nd mB)
  (aJ (gR bN rfl (Qy rfl T.range (aB (fB T.tH) (aB (jY nY (fB T.Ct) cH) aP))) (gv (i:=4) nd)
   (aU (lV hu (pv 3) (pv 4) (fE (aB (jY Mb (pv 4) (fB T.tH)) aP)) rfl)))
  (aU (cO (dW hL Uy (aB (dW hS hr (aB (pv 0) (aB (pv 1) (aB (pv 2) aP)))) (aB (pv 3) (aB (Ua (v:=.ref fv) rfl e1 rfl) aP))))))),?_⟩
 intro p hp
 refine⟨_,_,rfl,rfl,256,512,rfl,by decide,Ho (n:=256) (fun i σ H'=>E2 fun kvs v4=>A5 (σ=[some (.ref a),some (.ref d),some (.int most),some (.ref p),v4]) (SX [p] H H') (H' p=some (.dK kvs)) (uN kvs) (xZ H H' (fun s=>if 256<=s/\s<256+i then some [eA (s-256)]else none) kvs)) ?_ ?_ ?_⟩
 .refine⟨[],none,rfl,SX.upd (by simp),aC,.new,fun s=>.inl ⟨?_,rfl⟩⟩;show(if 256<=s/\s<256+0 then some [eA (s-256)]else none)=none;rw[if_neg (by lia)]
 .rintro i σ H' hi ⟨kvs,v4,rfl,sx,hk,sy,td⟩;refine⟨_,rfl,_,_,rfl,rfl,z1,fun b hb=>⟨_,rfl,_,rfl,p,_,rfl,sL.k (k:=aV ((256:Int)+i)) (by rw[aH (cK hk hb)];exact hk) sy.len,_,_,rfl,?_,aC,?_,?_⟩⟩
  .exact(sx.trans (SX.of (aK.upd hb))).trans (SX.upd (by simp))
  .exact sy.put (s:=256+i) (by lia) _
  .have ux:b≠p:=fun z=>by rw[z,hk]at hb;cases hb
   have:=((td.sx (SX.of (aK.upd (o:=.lst [.int ((256:Int)+i-256)]) hb) (F:=[])) (by simp)).put (256+i) (w:=[eA i]) (b:=b) ?_ (sx.free hb (by simp[hp]))).sx (SX.upd (F:=[p]) (a:=p) (o:=.dK (kG kvs (aV ((256:Int)+i)) (.ref b))) (by simp)) (by intro x hx xs;rw[aO.mp hx,aH (cK hk hb),hk];intro z;cases z)
   .intro s;have:=this s;rw[show((256:Int)+i)=((256+i:Nat):Int) by lia]at*
    have e:(fun x=>if x=256+i then some [eA i]else if 256<=x/\x<256+i then some [eA (x-256)]else none) s=if 256<=s/\s<256+(i+1)then some [eA (s-256)]else none:=by
     dsimp only;by_cases q:s=256+i
     .rw[if_pos q,if_pos (by lia),show s-256=i by lia]
     .rw[if_neg q];repeat' split
      all_goals first|rfl|lia
    rw[e]at this;exact this
   .rw[aC];show some (HO.lst [V.int ((256:Int)+i-256)])=some (HO.lst [V.int ((eA i).toNat:Int)]);rw[show(eA i).toNat=i by simp;lia,show((256:Int)+i-256)=(i:Int) by lia]
 .rintro σ H' ⟨kvs,v4,rfl,sx,hk,sy,td⟩;have le:Le H H':=SX.mE sx .refl (by simp[hp]);refine⟨_,rfl,_,rfl,_,rfl,g,L,n8,a,d,most,rfl,wf,Bc,Vb,hG.le le,le _ _ qV hd,ld,lo,fun H2 u s2 fu hU=>?_⟩;refine⟨_,rfl,H,g,_,L,most,_,kvs,u,p,fv,qr,rfl,e2,e3,e4,(fun z hz=>(sx.trans (SX.of s2)).free hz (by simp[hp])),wf,lo.toLenS,hmo,fun r=>Yx,fun r hr=>Bc r (Yx.mp hr).1,hU,s2 _ _ hk,sy,td.sx (SX.of s2 (F:=[])) (by simp),⟨fun s hs=>?_,fun s v hs e=>?_⟩,fun H3 X3 n9 Ck DN sy3 td3 ts3 cl3=>k H3 p X3 n9 ?_ hp DN td3 ts3 cl3⟩
  .by_cases q:s<512
   .rw[if_pos q,if_pos ⟨hs,q⟩]
   .rw[if_neg q,if_neg fun z=>q z.2]
  .rw[if_neg (by lia)]at e;cases e
  .exact SX.same (((sx.trans (SX.of s2)).trans Ck).drop (by simp[hp]))
structure se(α:Type) where
 at_:Hp->V->α->Prop
 ob:List α->HO
structure IP{α:Type}[DecidableEq α](N:se α):Prop where
 keep:∀{H H' v x},N.at_ H v x->(∀b u,H b=some (.tup u)->H' b=some (.tup u))->N.at_ H' v x
 get:∀{H v x r ns},N.at_ H v x->H r=some (N.ob ns)->Aq H r v (if x∈ns then some (.bl true)else none)
 put:∀{H v x r ns},N.at_ H v x->H r=some (N.ob ns)->ns.length<sizeLine->x∉ns->sL H r v (.bl true) (bI H r (N.ob (ns++[x])))
 nt:∀ns xs,N.ob ns≠.tup xs
def AF{α:Type}(N:se α)(H:Hp)(e:Addr)(E:α->List α):Prop:=∀H',aK H H'->vg H' e/\∀v x,N.at_ H' v x->(Aq H' e v none/\E x=[])∨∃b zs,Aq H' e v (some (.ref b))/\Rd H b (.lst zs)/\eZ (N.at_ H) zs (E x)
theorem AF.same{α:Type}{N:se α}[DecidableEq α](ok:IP N){E:α->List α}(h:AF N H e E)(s:aK H H1):AF N H1 e E:=fun H' s'=>by
 obtain⟨h1,h2⟩:=h H' (s.trans s');refine⟨h1,fun v x hv=>?_⟩;rcases h2 v x hv with z|⟨b,zs,z1,z2,z3⟩
 .exact .inl z
 .exact .inr ⟨b,zs,z1,aK.le s _ _ iP z2,Paired.qE z3 fun _ _ q=>ok.keep q fun b u e=>s _ _ e⟩
def PD(K:aX):TS:=Kx (Xb (Ky (gS (fC 1) oW)) (mF 3))
 (Kx (NV (fun σ H_1 Q=>fC 3 σ H_1 fun x H'=>∃k,rp K x H' k/\Q k H')
   (Kx (Xb (vy K "list" yx (fC 3)) (mF 4))
    (NY (My K (BU (fC 0) (fC 4) (Ky oW))) (mF 5)
     (JI (tB (Tg (fC 5) (fC 2))) (Kx (OW (fC 2) (fC 5) (tC (V.bl true))) (bw (tBM K "list" Tt (fC 3) (gS (fC 5) oW)))) Qm))))
  (Jm (fC 2)))
theorem Xx{α β:Type}{G:α->β->Prop}{l:List α}{a:α}:∀{m:List β},eZ G (l++[a]) m->∃m' b,m=m'++[b]/\eZ G l m'/\G a b:=by
 induction l with
 |nil=>intro m h;cases h with|cons h1 h2=>cases h2;exact⟨[],_,rfl,.nil,h1⟩
 |cons x l ih=>
  intro m h;cases h with
  |cons h1 h2=>obtain⟨m',b,rfl,h3,h4⟩:=ih h2;exact⟨_::m',b,rfl,.cons h1 h3,h4⟩
section
variable {K:aX}
theorem IL{α:Type}[DecidableEq α]{N:se α}(ok:IP N){H0:Hp}{r:Addr}{v0:V}{x0:α}{E:α->List α}{U:List α}(hE:AF N H0 e E)(Be:H0 r=none)(s1:SX [r] H0 H1)(h1:H1 r=some (N.ob [x0]))(hv:N.at_ H1 v0 x0)
  (hU0:x0∈U) (hU:∀x∈U,∀y∈E x,y∈U) (ZM:U.length<=100000)
  (k:∀H' ns,aK H0 H'->H' r=some (N.ob ns)->ns.Nodup->(∀x,x∈ns↔cJ (fun a b=>b∈E a) x0 x)->(∀x∈ns,x∈U)->D.rt (.ref r) H'):PD K D [some (.ref e),some v0,some (.ref r),none,none,none] H1:=by
 unfold PD
 refine⟨_,rfl,z1,fun t ht=>?_⟩
 have G7:t≠r:=fun z=>by rw[z,h1]at ht;cases ht
 have ht0:H0 t=none:=s1.free ht (by simp[Be])
 have hF:∀x∈[r,t],H0 x=none:=by simp[Be,ht0]
 have tup:∀{H:Hp} {y:Addr} {o:HO} {q:HO},H y=some q->(∀u,q≠.tup u)->∀b u,H b=some (.tup u)->bI H y o b=some (.tup u):=by intro H y o q e1 e2 b u e3;rw[aH (fun z=>by rw[z,e1]at e3;cases e3;exact e2 _ rfl)];exact e3
 have sx1:SX [r,t] H0 (bI H1 t (.lst [v0])):=(s1.mono (by simp)).trans (SX.upd (by simp))
 refine⟨fun m σ H'=>E5 fun ns td xs v4 v5=>A8 (σ=[some (.ref e),some v0,some (.ref r),some (.ref t),v4,v5]) (SX [r,t] H0 H') (H' r=some (N.ob ns)) (H' t=some (.lst td)) (eZ (N.at_ H') td xs) ns.Nodup (∀x∈ns,x∈U/\cJ (fun a b=>b∈E a) x0 x) (A5 (x0∈ns) (∀x∈xs,x∈ns)
   (∀x∈ns,x∈xs∨∀y∈E x,y∈ns) (xs.length<=ns.length) (m=2*(U.length-ns.length)+xs.length)),
  ⟨_,[x0],[v0],[x0],none,none,rfl,sx1,by rw[aH (Ne.symm G7)];exact h1,aC,.cons (ok.keep hv fun b u q=>by rw[aH (cK q ht)];exact q) .nil,by simp,by simp;exact⟨hU0,.refl⟩,by simp,by simp,by simp,by simp,rfl⟩,?_⟩
 rintro m σ H' ⟨ns,td,xs,v4,v5,rfl,sx,hr,T4,hp,nd,MJ,p8,tZ,SN,hlen,rfl⟩
 refine⟨_,rfl,!td.isEmpty,.inl ⟨td,iY.of T4,rfl⟩,?_⟩
 rcases BH td with rfl|⟨MC,v,rfl⟩
 .refine qF ⟨_,rfl,k H' ns (SX.same (sx.drop (fun x hx _=>hF x hx))) hr nd (fun x=>⟨fun h=>(MJ x h).2,fun h=>?_⟩) fun x hx=>(MJ x hx).1⟩;cases hp;induction h with
  |refl=>exact p8
  |tail _ h2 ih=>
   rcases SN _ ih with z|z
   .simp at z
   .exact z _ h2
 .rw[BI]at*
  obtain⟨Ks,x,rfl,Ro,hvx⟩:=Xx hp
  have hxn:x∈ns:=tZ x (by simp)
  have nsU:ns.length<=U.length:=nd.length_le_of_subset fun y hy=>(MJ y hy).1
  refine gB (by simp) ⟨_,fun σ' rW h=>h,_,rfl,.inl ⟨rfl,_,iY.of T4⟩,t,_,v,rfl,rfl,T4,by simp,?_⟩
  rw[List.dropLast_concat]
  have kp:∀b u,H' b=some (.tup u)->bI H' t (.lst MC) b=some (.tup u):=tup T4 (by intro u z;cases z)
  have tF:SX [r,t] H0 (bI H' t (.lst MC)):=sx.trans (SX.upd (by simp))
  have Y5:aK H0 (bI H' t (.lst MC)):=SX.same (tF.drop (fun x hx _=>hF x hx))
  refine⟨_,rfl,e,rfl,(hE _ Y5).1,_,rfl,z0,fun p Kc=>?_⟩
  have sm3:aK H0 (bI (bI H' t (.lst MC)) p (.lst [])):=aK.then Y5 (aK.free Y5 Kc)
  have kp3:∀b u,H' b=some (.tup u)->bI (bI H' t (.lst MC)) p (.lst []) b=some (.tup u):=fun b u q=>by
   have:=kp b u q
   rw[aH (cK this Kc)];exact this
  have vO:p≠r:=fun z=>by rw[z,aH (Ne.symm G7),hr]at Kc;cases Kc
  have MH:p≠t:=fun z=>by rw[z,aC]at Kc;cases Kc
  have Pk:bI (bI H' t (.lst MC)) p (.lst []) r=some (N.ob ns):=by rw[aH (Ne.symm vO),aH (Ne.symm G7)];exact hr
  have ui:bI (bI H' t (.lst MC)) p (.lst []) t=some (.lst MC):=by rw[aH (Ne.symm MH)];exact aC
  have T8:=Paired.qE Ro fun _ _ q=>ok.keep q kp3
  have u9:=ok.keep hvx kp3
  have hpe:bI (bI H' t (.lst MC)) p (.lst []) p=some (.lst []):=aC
  generalize bI (bI H' t (.lst MC)) p (.lst [])=H3 at*
  have Ck:SX [r,t] H0 H3:=SX.of sm3
  have m9:Ks.length+1<=ns.length:=by rw[bA]at hlen;exact hlen
  have red:(Ks++[x]).length=Ks.length+1:=by simp
  rw[red]
  rcases(hE _ sm3).2 v x u9 with ⟨hg,hEx⟩|⟨b,zs,hg,hb,hz⟩
  .refine⟨none,hg,p,rfl,⟨_,iY.of hpe⟩,mG (K:=K) (a:=p) (xs:=[]) (fun _ σ rW=>σ=[some (.ref e),some v0,some (.ref r),some (.ref t),some v,v5]/\rW=H3) ⟨rfl,rfl⟩ (fun _ _ _ _ h=>by rw[h.2];exact iY.of hpe) (fun i y σ rW h _=>by simp at h) ?_⟩
   rintro σ rW ⟨rfl,rfl⟩
   refine⟨_,?_,ns,MC,Ks,_,_,rfl,Ck,Pk,ui,T8,nd,MJ,p8,fun y hy=>tZ y (by simp[hy]),fun y hy=>?_,by lia,rfl⟩
   .lia
   .rcases SN y hy with z|z
    .rcases aN.mp z with z|z
     .exact .inl z
     .rw[aO.mp z,hEx];exact .inr (by simp)
    .exact .inr z
  .have rdb:∀{rW:Hp},SX [r,t] H0 rW->iY K rW b zs:=fun sx=>cY (SX.mE sx .refl hF _ _ iP hb)
   refine⟨some (.ref b),hg,b,rfl,⟨_,rdb Ck⟩,mG (K:=K) (a:=b) (xs:=zs) (fun i σ rW=>E4 fun Ol VF NM v5=>A8 (σ=[some (.ref e),some v0,some (.ref r),some (.ref t),some v,v5]) (SX [r,t] H0 rW) (rW r=some (N.ob Ol)) (rW t=some (.lst VF)) (eZ (N.at_ rW) VF NM) Ol.Nodup (∀x∈Ol,x∈U/\cJ (fun a b=>b∈E a) x0 x) (A6 (∀y∈ns,y∈Ol) (∀x∈NM,x∈Ol)
     (∀y∈Ol,y=x∨y∈NM∨∀z∈E y,z∈Ol) (∀y∈(E x).take i,y∈Ol) (NM.length+1<=Ol.length) (2*(U.length-Ol.length)+NM.length<=2*(U.length-ns.length)+Ks.length)))
    ⟨ns,MC,Ks,v5,rfl,Ck,Pk,ui,T8,nd,MJ,fun _ h=>h,fun y hy=>tZ y (by simp[hy]),fun y hy=>?_,by simp,m9,aY _⟩ (fun i σ rW _ ⟨_,_,_,_,_,Gw,_,_,_,_,_,_⟩=>rdb Gw) ?_ ?_⟩
   .rcases SN y hy with z|z
    .rcases aN.mp z with z|z
     .exact .inr (.inl z)
     .exact .inl (aO.mp z)
    .exact .inr (.inr z)
   .rintro i u σ H4 hu ⟨Ol,VF,NM,v5,rfl,Gw,di,T5,ZA,ME,KW,pf,HM,ZJ,G8,SK,VM⟩
    obtain⟨y,ey,hy⟩:=gI hz hu
    have yE:y∈E x:=aG ey
    have sm4:aK H0 H4:=SX.same (Gw.drop (fun x hx _=>hF x hx))
    have p5:=ok.keep hy fun b u e=>sm4 _ _ e
    have uf:y∈U:=hU x (MJ x hxn).1 y yE
    have LB:=ok.get p5 di
    refine⟨_,rfl,_,rfl,r,_,rfl,LB,_,rfl,?_⟩
    have agQ:Ol.length<=U.length:=ME.length_le_of_subset fun y hy=>(KW y hy).1
    by_cases q:y∈Ol
    .rw[if_pos q]
     refine qF ⟨Ol,VF,NM,_,rfl,Gw,di,T5,ZA,ME,KW,pf,HM,ZJ,fun z hz=>?_,SK,VM⟩
     rw[dM ey]at hz
     rcases aN.mp hz with hz|hz
     .exact G8 z hz
     .rw[aO.mp hz];exact q
    .rw[if_neg q]
     have oT:Ol.length<U.length:=by
      have:=(lW ME q).length_le_of_subset (l₂:=U) fun z hz=>by
       rcases aN.mp hz with hz|hz
       .exact(KW z hz).1
       .rw[aO.mp hz];exact uf
      rw[bA]at this
      exact this
     have szs:Ol.length<sizeLine:=cA oT (bK ZM (by decide))
     have kp4:∀b u,H4 b=some (.tup u)->bI H4 r (N.ob (Ol++[y])) b=some (.tup u):=tup di (ok.nt _)
     have w9:bI H4 r (N.ob (Ol++[y])) t=some (.lst VF):=by rw[aH G7];exact T5
     have tl:VF.length=NM.length:=dC ZA
     refine oZ ⟨_,rfl,_,rfl,r,_,rfl,ok.put p5 di szs q,_,rfl,.inl ⟨rfl,_,iY.of w9⟩,_,rfl,t,_,_,rfl,rfl,w9,by rw[tl];lia,?_⟩
     have kp5:∀b w,H4 b=some (.tup w)->bI (bI H4 r (N.ob (Ol++[y]))) t (.lst (VF++[u])) b=some (.tup w):=fun b w e=>tup w9 (by intro u z;cases z) b w (kp4 b w e)
     refine⟨Ol++[y],VF++[u],NM++[y],_,rfl,(Gw.trans (SX.upd (by simp))).trans (SX.upd (by simp)),by rw[aH (Ne.symm G7)];exact aC,aC,Qp (Paired.qE ZA fun _ _ q=>ok.keep q kp5) (ok.keep p5 kp5),lW ME q,?_,?_,?_,?_,?_,?_,?_⟩
     .intro z hz
      rcases aN.mp hz with hz|hz
      .exact KW z hz
      .rw[aO.mp hz];exact⟨uf,.tail (MJ x hxn).2 yE⟩
     .intro z hz;exact dA _ (pf z hz)
     .intro z hz
      rcases aN.mp hz with hz|hz
      .exact dA _ (HM z hz)
      .exact dR _ hz
     .intro z hz
      rcases aN.mp hz with hz|hz
      .rcases ZJ z hz with h|h|h
       .exact .inl h
       .exact .inr (.inl (dA _ h))
       .exact .inr (.inr fun a ha=>dA _ (h a ha))
      .exact .inr (.inl (dR _ hz))
     .intro z hz
      rw[dM ey]at hz
      rcases aN.mp hz with hz|hz
      .exact dA _ (G8 z hz)
      .exact dR _ hz
     .rw[bA,bA];simp;lia
     .rw[bA,bA];simp only[Au];lia
   .rintro σ H4 ⟨Ol,VF,NM,v5,rfl,Gw,di,T5,ZA,ME,KW,pf,HM,ZJ,G8,SK,VM⟩
    rw[dC hz,bX]at G8
    refine⟨_,?_,Ol,VF,NM,_,_,rfl,Gw,di,T5,ZA,ME,KW,pf _ p8,HM,fun y hy=>?_,by lia,rfl⟩
    .lia
    .rcases ZJ y hy with rfl|z
     .exact .inr G8
     .exact z
end
theorem vW{α κ:Type}[DecidableEq α][DecidableEq κ]{f:α->κ}(inj:∀a b,f a=f b->a=b)(ns:List α)(x:α):eO (ns.map fun x=>(f x,V.bl true)) (f x)=if x∈ns then some (.bl true)else none:=by
 induction ns with
 |nil=>rfl
 |cons n ns ih=>
  rw[bL];unfold eO at*;rw[kF];by_cases q:n=x
  .subst q;simp
  .rw[show decide (f n=f x)=false from bH fun z=>q (inj _ _ z)];simp only[];rw[ih];have:x∈n::ns↔x∈ns:=by simp[Ne.symm q]
   by_cases h:x∈ns
   .rw[if_pos h,if_pos (this.mpr h)]
   .rw[if_neg h,if_neg fun z=>h (this.mp z)]
theorem Qs{α κ:Type}[DecidableEq α][DecidableEq κ]{f:α->κ}(inj:∀a b,f a=f b->a=b)(ns:List α){x:α}(h:x∉ns):kG (ns.map fun x=>(f x,V.bl true)) (f x) (.bl true)=(ns++[x]).map fun x=>(f x,V.bl true):=by unfold kG;rw[pE,vW inj,if_neg h,aQ];rfl
def NK:se Nat:=⟨fun _ v x=>v=.int (x:Int),fun ns=>.dK (ns.map fun(x:Nat)=>(aV (x:Int),V.bl true))⟩
def NT:se (Nat×Nat):=⟨fun H v x=>∃p,v=.ref p/\H p=some (.tup [.int (x.1:Int),.int (x.2:Int)]),fun ns=>.dT (ns.map fun x=>(ky x.1 x.2,V.bl true))⟩
theorem YX(a b:Nat)(h:(aV (a:Int):iM)=aV (b:Int)):a=b:=by have:=kJ h;lia
theorem F9(a b:Nat×Nat)(h:ky a.1 a.2=ky b.1 b.2):a=b:=by unfold ky at h;simp at h;exact Prod.ext (by lia) (by lia)
theorem NK.ok:IP NK where
 keep h _:=h
 get {H v x r ns} h e:=by rw[show v=V.int (x:Int) from h];have:=Aq.k (k:=aV (x:Int)) (show H r=some (.dK (ns.map fun(x:Nat)=>(aV (x:Int),V.bl true))) from e);rw[vW (f:=fun(x:Nat)=>(aV (x:Int):iM)) YX ns x]at this;exact this
 put {H v x r ns} h e l n:=by rw[show v=V.int (x:Int) from h];have:=sL.k (k:=aV (x:Int)) (v:=.bl true) (show H r=some (.dK (ns.map fun(x:Nat)=>(aV (x:Int),V.bl true))) from e) (by rw[aA];exact l);rw[Qs (f:=fun(x:Nat)=>(aV (x:Int):iM)) YX ns n]at this;exact this
 nt ns xs z:=by cases z
theorem NT.ok:IP NT where
 keep h k:=let ⟨p,e,q⟩:=h;⟨p,e,k _ _ q⟩
 get {H v x r ns} h e:=by obtain⟨p,rfl,hp⟩:=h;have:=Fu (.inl (show H r=some (.dT (ns.map fun x=>(ky x.1 x.2,V.bl true))) from e)) hp;rw[vW (f:=fun(x:Nat×Nat)=>ky x.1 x.2) F9 ns x]at this;exact this
 put {H v x r ns} h e l n:=by obtain⟨p,rfl,hp⟩:=h;have:=sL.t (k:=ky x.1 x.2) (v:=.bl true) (show H r=some (.dT (ns.map fun x=>(ky x.1 x.2,V.bl true))) from e) hp (by rw[aA];exact l);rw[Qs (f:=fun(x:Nat×Nat)=>ky x.1 x.2) F9 ns n]at this;exact this
 nt ns xs z:=by cases z
inductive OR{α:Type}(N:se α):Sp|mk {vs H Q Z} (e:Addr) (v:V) (x:α) (E:α->List α) (U:List α):vs=[.ref e,v]->AF N H e E->N.at_ H v x->x∈U->(∀x∈U,∀y∈E x,y∈U)->U.length<=100000->(∀H' r ns,aK H H'->H r=none->H' r=some (N.ob ns)->ns.Nodup->(∀y,y∈ns↔cJ (fun a b=>b∈E a) x y)->(∀y∈ns,y∈U)->Q (.ref r) H')->OR N vs H Q Z
theorem S1:cB ["edges","first","seen","todo","node","further"] ["edges","first"] (bF (st 1)):=oP
theorem mv(F:lY K "all_reached" "all_reached" (st 1) f fd):eN P w K mg aT lM 1 f fd ["edges","first"] (OR NK):=by
 refine oB F S1 fun H Q hr h=>?_
 obtain⟨e,v,x,Ed,U,rfl,hE,hv,hx,hU,ZM,k⟩:=h
 have nd:=S1.nd
 have hu:=jV hr
 refine⟨_,aJ (sv (i:=2) nd (Bb (wC (pv 1) sP Ay) rfl rfl (by intro z;cases z) (by show 1<=15;decide)))
  (aJ (sv (i:=3) nd (fE (aB (pv 1) aP)))
  (aJ (wA bN (Ek (pv 3) (by intro _;rfl))
   (aJ (sv (i:=4) nd (Ub cF yN yM CJ (pv 3)))
    (aU (gR bN rfl (gT (kR hu (pv 0) (pv 4) (fE aP) ⟨rfl,rfl,rfl,rfl⟩)) (gv (i:=5) nd)
     (aU (gN (sG (pV hu (pv 5) (pv 2)) (by with_unfolding_all rfl)) (aJ (lV hu (pv 2) (pv 5) sP rfl) (aU (fM (uY cF eY eX oN (pv 3) (aB (pv 5) aP))))) dX))))))
  (aU (cO (pv 2))))),?_⟩
 obtain rfl:v=V.int (x:Int):=hv
 intro r Be
 refine⟨_,rfl,aC,[(aV (x:Int),.bl true)],rfl,(by show 1<=15;decide),?_⟩
 refine IL (N:=NK) NK.ok (x0:=x) (U:=U) (H0:=H) hE Be ((SX.upd (by simp)).trans (SX.upd (by simp))) ?_ rfl hx hU ZM fun H' ns s1 h1 h2 h3 h4=>k H' r ns s1 Be h1 h2 h3 h4
 exact aC
theorem mr(F:lY K "all_reached" "all_reached" (st 1) f fd):eN P w K mg aT lM 1 f fd ["edges","first"] (OR NT):=by
 refine oB F S1 fun H Q hr h=>?_
 obtain⟨e,v,x,Ed,U,rfl,hE,hv,hx,hU,ZM,k⟩:=h
 have nd:=S1.nd
 have hu:=jV hr
 refine⟨_,aJ (sv (i:=2) nd (JT hu (pv 1) sP))
  (aJ (sv (i:=3) nd (fE (aB (pv 1) aP)))
  (aJ (wA bN (Ek (pv 3) (by intro _;rfl))
   (aJ (sv (i:=4) nd (Ub cF yN yM CJ (pv 3)))
    (aU (gR bN rfl (gT (kR hu (pv 0) (pv 4) (fE aP) ⟨rfl,rfl,rfl,rfl⟩)) (gv (i:=5) nd)
     (aU (gN (sG (pV hu (pv 5) (pv 2)) (by with_unfolding_all rfl)) (aJ (lV hu (pv 2) (pv 5) sP rfl) (aU (fM (uY cF eY eX oN (pv 3) (aB (pv 5) aP))))) dX))))))
  (aU (cO (pv 2))))),?_⟩
 obtain⟨p,rfl,hp⟩:=hv
 intro r Be
 have vO:p≠r:=cK hp Be
 refine⟨_,rfl,ky x.1 x.2,p,rfl,by rw[aH vO];exact hp,aC,?_⟩
 refine IL (N:=NT) NT.ok (x0:=x) (U:=U) (H0:=H) hE Be ((SX.upd (by simp)).trans (SX.upd (by simp))) ?_ ⟨p,rfl,by rw[aH vO,aH vO];exact hp⟩ hx hU ZM fun H' ns s1 h1 h2 h3 h4=>k H' r ns s1 Be h1 h2 h3 h4
 exact aC
theorem GZ{o:Obj}{g:TG}{D:Addr}(Pv:Nat->Hp->Prop)(h0:Pv 0 (bI H1 D (.lst [])))(hl:∀i H,Pv i H->H d=some (.kN o (.dK kvs)))
  (hs:∀(i:Nat) k v H,kvs[i]? =some (k,v)->Pv i H->g (kV k) (jW σ vs) H fun σ2 H2=>jW σ2 vs=jW σ vs/\tt σ2 H2 fun b H3=>
   if b=true then te σ2 H3 fun y H4=>∃acc,H4 D=some (.lst acc)/\acc.length<sizeLine/\Pv (i+1) (bI H4 D (.lst (acc++[y])))else Pv (i+1) H3) (hd:∀H,Pv kvs.length H->Qd H):
  ∃W:Nat->Nat->Hp->Prop,(∃m,W 0 m (bI H1 D (.lst [])))/\∀i m H,W i m H->
   ((UN d o kvs).stop i H/\Qd H)∨((UN d o kvs).go i H/\∃Nx:Hp->Prop,(∀H',Nx H'->∃m',m'<m/\W (i+1) m' H')/\∀x H',(UN d o kvs).BL i H x H'->g x (jW σ vs) H' fun σ2 H2=>jW σ2 vs=jW σ vs/\tt σ2 H2 fun b H3=>
    if b=true then te σ2 H3 fun y H4=>∃acc,H4 D=some (.lst acc)/\acc.length<sizeLine/\Nx (bI H4 D (.lst (acc++[y])))else Nx H3):=by
 refine⟨fun i m H=>m=kvs.length-i/\i<=kvs.length/\Pv i H,⟨kvs.length,by simp,cI _,h0⟩,?_⟩
 rintro i m H ⟨rfl,hi,p⟩
 have q:=hl i H p
 by_cases oT:i<kvs.length
 .refine .inr ⟨⟨q,oT⟩,Pv (i+1),fun H' p'=>⟨kvs.length-(i+1),by lia,rfl,oT,p'⟩,fun x H' y=>?_⟩;obtain⟨rfl,k,v,e,rfl⟩:=y;exact hs i k v _ e p
 .have e:i=kvs.length:=by lia
  subst e;exact .inl ⟨⟨q,aY _⟩,hd H p⟩
theorem RK{o:Obj}{kvs:List (List iM×V)}{g:TG}{D:Addr}(Pv:Nat->Hp->Prop)(h0:Pv 0 (bI H1 D (.lst [])))(hl:∀i H,Pv i H->H d=some (.kN o (.dT kvs)))
  (hs:∀(i:Nat) k v q H,kvs[i]? =some (k,v)->H q=some (.tup (k.map kV))->Pv i H->g (.ref q) (jW σ vs) H fun σ2 H2=>jW σ2 vs=jW σ vs/\tt σ2 H2 fun b H3=>
   if b=true then te σ2 H3 fun y H4=>∃acc,H4 D=some (.lst acc)/\acc.length<sizeLine/\Pv (i+1) (bI H4 D (.lst (acc++[y])))else Pv (i+1) H3) (hd:∀H,Pv kvs.length H->Qd H):
  ∃W:Nat->Nat->Hp->Prop,(∃m,W 0 m (bI H1 D (.lst [])))/\∀i m H,W i m H->
   ((UM d o kvs).stop i H/\Qd H)∨((UM d o kvs).go i H/\∃Nx:Hp->Prop,(∀H',Nx H'->∃m',m'<m/\W (i+1) m' H')/\∀x H',(UM d o kvs).BL i H x H'->g x (jW σ vs) H' fun σ2 H2=>jW σ2 vs=jW σ vs/\tt σ2 H2 fun b H3=>
    if b=true then te σ2 H3 fun y H4=>∃acc,H4 D=some (.lst acc)/\acc.length<sizeLine/\Nx (bI H4 D (.lst (acc++[y])))else Nx H3):=by
 refine⟨fun i m H=>m=kvs.length-i/\i<=kvs.length/\Pv i H,⟨kvs.length,by simp,cI _,h0⟩,?_⟩
 rintro i m H ⟨rfl,hi,p⟩
 have q:=hl i H p
 by_cases oT:i<kvs.length
 .refine .inr ⟨⟨q,oT⟩,Pv (i+1),fun H' p'=>⟨kvs.length-(i+1),by lia,rfl,oT,p'⟩,fun x H' y=>?_⟩;obtain⟨rfl,k,v,qq,e,rfl,hq⟩:=y;exact hs i k v qq _ e hq p
 .have e:i=kvs.length:=by lia
  subst e;exact .inl ⟨⟨q,aY _⟩,hd H p⟩
theorem Ra{α β:Type}{G:α->β->Prop}{l l':List α}{m m':List β}(h:eZ G l m)(h':eZ G l' m'):eZ G (l++l') (m++m'):=by
 induction h with
 |nil=>exact h'
 |cons h1 _ ih=>exact .cons h1 ih
def TupAt(H:Hp)(p:Addr)(x:Nat×Nat):Prop:=H p=some (.tup [.int (x.1:Int),.int (x.2:Int)])
def Gd(H:Hp)(r:Addr)(xs:List (Nat×Nat)):Prop:=∃ps:La,H r=some (.lst (ps.map V.ref))/\eZ (TupAt H) ps xs
theorem TupAt.upd{x:Nat×Nat}(h:TupAt H p x)(ha:H a=some u)(hu:∀xs,u≠.tup xs):TupAt (bI H a o) p x:=by unfold TupAt at*;rw[aH (fun z=>by rw[z,ha]at h;cases h;exact hu _ rfl)];exact h
theorem RJ{K:aX}{r:Addr}{i0 s:Int}{wy:Nat->Cn}{v6:Option V}(hs:∃n:Nat,s=n)(hd:H d=some (.dK (sQ wy js)))(hl:js.length<=2000)
  (k:∀o D H',H D=none->SX [d] H H'->H' d=some (.kN o (.dK (sQ wy js)))->Gd H' D (js.map fun j=>(s.toNat,j))->Q (.ref D) H'):
  JH (HK (WY (fC 4))) (mF 6) Tf (WV (gS (fC 5) (gS (fC 6) oW))) [6] [some (.ref a),some (.ref q),some (.int i0),some (.ref r),some (.ref d),some (.int s),v6] H Q:=by
 obtain⟨s,rfl⟩:=hs
 refine⟨_,rfl,d,_,rfl,hd,trivial,fun o=>⟨d,o,rfl,.inl ⟨_,aC,fun D hD=>?_⟩⟩⟩
 have VO:d≠D:=fun z=>by rw[<-z,aC]at hD;cases hD
 have LG:H D=none:=by rw[aH (Ne.symm VO)]at hD;exact hD
 refine GZ (d:=d) (o:=o) (Qd:=Q (.ref D)) (fun i H'=>SX [d] H H'/\H' d=some (.kN o (.dK (sQ wy js)))/\∃ps:La,H' D=some (.lst (ps.map V.ref))/\eZ (TupAt H') ps ((js.take i).map fun j=>(s,j))) ?_ (fun i H' h=>h.2.1) ?_ ?_
 .exact⟨(SX.upd (by simp)).then LG,by rw[aH VO];exact aC,[],aC,.nil⟩
 .rintro i k v H' e ⟨sx,h1,ps,h2,h3⟩;obtain⟨j,ej,rfl,rfl⟩:=vA e;refine⟨rfl,?_⟩;refine⟨_,rfl,_,rfl,z2,fun b hb=>⟨ps.map V.ref,?_,?_,?_,?_,ps++[b],?_,?_⟩⟩
  .rw[aH (cK h2 hb)];exact h2
  .rw[aA,dC h3,aA,dB];exact bV (WK _ _) (bV hl (by decide))
  .have hbH:H b=none:=by
    cases e':H b with
    |none=>rfl
    |some u=>have:=sx _ _ e' (by simp;intro z;rw[z,h1]at hb;cases hb);rw[this]at hb;cases hb
   exact(sx.then hbH).then LG
  .have Hn:b≠d:=fun z=>by rw[z,h1]at hb;cases hb
   rw[aH VO,aH (Ne.symm Hn)];exact h1
  .rw[aQ];exact aC
  .have U7:b≠D:=fun z=>by rw[z,h2]at hb;cases hb
   rw[dM ej,aQ];refine Qp (Paired.qE h3 fun p x z=>?_) ?_
   .have z1:TupAt (bI H' b (.tup [.int (s:Int),.int (j:Int)])) p x:=(by unfold TupAt at*;rw[aH (cK z hb)];exact z);exact z1.upd (a:=D) (u:=.lst (ps.map V.ref)) (by rw[aH (Ne.symm U7)];exact h2) (by intro xs z;cases z)
   .show bI _ D _ b=_;rw[aH U7];exact aC
 .rintro H' ⟨sx,h1,ps,h2,h3⟩;rw[rT,bX]at h3;exact k o D H' LG sx h1 ⟨ps,h2,h3⟩
def fh(n:Nat)(c:Nat->Nat->Nat->Cn)(l:Ln)(i:Nat)(x:Nat×Nat):Prop:=∃j,l[j]? =some x.1/\Tw.wr n c (l.take j) i x.2≠some 0
inductive GA:Sp|mk {vs H Q Z} (n i:Nat) (c:Nat->Nat->Nat->Cn) (l:Ln) (a q:Addr):vs=[.ref a,.ref q,.int (i:Int)]->n<=1000->nS n H a c->oU H q l->l.length<=1000->i<=n->(∀H' r xs,aK H H'->H r=none->Gd H' r xs->(∀x,x∈xs↔fh n c l i x)->(∀x∈xs,x.2<=n)->xs.length<=l.length*(n+1)->Q (.ref r) H')->GA vs H Q Z
theorem yf:cB ["table","right","place","spots","ways","symbol","begin"] ["table","right","place"] (bF (st 36)):=oP
theorem ll(F:lY K "spots_of_right" "spots_of_right" (st 36) f fd)(hW:mW P w K mg aT 3 "with_symbol_behind" ["table","ways","symbol"] FZ):eN P w K mg aT lM 4 f fd ["table","right","place"] GA:=by
 refine oB F yf fun H Q hr h=>?_
 obtain⟨n,i0,c,l,a,q,rfl,hn,hT,hR,hl,hi,k⟩:=h
 have nd:=yf.nd
 refine⟨_,aJ (sv (i:=3) nd (fE aP))
  (aJ (sv (i:=4) nd (Bb (wC (pv 2) cH Ay) rfl rfl (by intro z;cases z) (by show 1<=15;decide)))
  (aJ (gR bN rfl (gT (pv 1)) (Eo (i:=5) nd rfl (yC rfl))
   (aJ (fM (uY cF lK lJ wF (pv 3) (aB (sO (own:=[("begin",6)]) rfl nd (En (Ha (pv 4))) (iR (by show vK ["table","right","place","spots","ways","symbol","begin"] (bF (st 36)) _ _=true;decide+kernel)) (fun _ _ _ _ _=>gv (i:=6) nd) (fun _ _ _ _ _=>oK) (fun _ _ _ _ _=>oX (aB (pv 5) (aB (pv 6) aP)))) aP)))
    (aU (sv (i:=4) nd (dW hW hr (aB (pv 0) (aB (pv 4) (aB (pv 5) aP))))))))
  (aU (cO (pv 3))))),?_⟩
 refine⟨z0,fun r Be=>?_⟩
 intro p hp
 refine⟨_,rfl,aC,[(aV (i0:Int),.int 1)],rfl,(by show 1<=15;decide),?_⟩
 have uo:r≠p:=fun z=>by rw[<-z,aC]at hp;cases hp
 have z7:H p=none:=by rw[aH (Ne.symm uo)]at hp;exact hp
 have s0:aK H (bI (bI (bI H r (.lst [])) p (.dK [])) p (.dK (rJ [] [((aV (i0:Int):iM),V.int 1)]))):=aK.then (aK.then (aK.upd Be) z7) z7
 refine⟨_,rfl,q,rfl,⟨_,cY (aK.le s0 _ _ iP hR)⟩,mG (K:=K) (a:=q) (xs:=kL l) (fun i σ H'=>E4 fun d v5 v6 xs=>A8 (σ=[some (.ref a),some (.ref q),some (.int i0),some (.ref r),some (.ref d),v5,v6]) (aK H H') (H d=none) (DM n H' d (Tw.wr n c (l.take i) i0)) (Gd H' r xs)
   (∀x,x∈xs↔∃j,j<i/\l[j]? =some x.1/\Tw.wr n c (l.take j) i0 x.2≠some 0) (∀x∈xs,x.2<=n) (xs.length<=i*(n+1)))
  ⟨p,none,none,[],rfl,s0,z7,Zu hi,⟨[],by rw[aH uo,aH uo];exact aC,.nil⟩,by simp,by simp,by simp⟩ (fun i σ H' _ ⟨_,_,_,_,_,s5,_,_,_,_,_,_⟩=>cY (aK.le s5 _ _ iP hR)) ?_ ?_⟩
 .rintro i x σ H' hx ⟨d,v5,v6,xs,rfl,s5,dt,⟨js,N0,hd⟩,⟨ps,uA,hpp⟩,pP,hle,hlen⟩;obtain⟨s,es,rfl⟩:=xP hx;have U0:i<l.length:=(aL.mp es).1;have jl:=N0.len;refine⟨_,rfl,.inl ⟨rfl,_,iY.of uA⟩,?_⟩;refine RJ (K:=K) (a:=a) (q:=q) (d:=d) (r:=r) (i0:=i0) (s:=s) (v6:=v6) ⟨s,rfl⟩ hd (by lia) fun o D H2 hD tF hd2 ⟨Xt,DK,K3⟩=>?_;have J3:r≠d:=fun z=>by rw[z,hd]at uA;cases uA
  have K1:=tF _ _ uA (by simp[J3]);have l1:ps.length=xs.length:=dC hpp;have l2:Xt.length=js.length:=by rw[dC K3,aA]
  have hm:i*(n+1)<=1000*1001:=vE (by lia) (by lia);refine⟨r,D,_,_,rfl,rfl,K1,DK,?_,?_⟩
  .rw[aA,aA,l1,l2];exact bK (Nat.add_le_add (bK hlen hm) (show js.length<=1001 by lia)) (by decide)
  .have tp:∀p x,TupAt H2 p x->TupAt (bI H2 r (.lst (ps.map V.ref++Xt.map V.ref))) p x:=fun p x z=>z.upd K1 (by intro xs z;cases z);have Ck:SX [d] H' (bI H2 r (.lst (ps.map V.ref++Xt.map V.ref)))->True:=fun _=>trivial;have s6:aK H (bI H2 r (.lst (ps.map V.ref++Xt.map V.ref))):=aK.then (SX.same (((SX.of s5 (F:=[d])).trans tF).drop (by simp[dt]))) Be;have hd3:bI H2 r (.lst (ps.map V.ref++Xt.map V.ref)) d=some (.kN o (.dK (sQ (Tw.wr n c (l.take i) i0) js))):=by rw[aH (Ne.symm J3)];exact hd2
   have tps:Gd (bI H2 r (.lst (ps.map V.ref++Xt.map V.ref))) r (xs++js.map fun j=>(s,j)):=by refine⟨ps++Xt,by rw[aQ];exact aC,?_⟩;refine Ra (Paired.qE hpp fun p x z=>tp p x ?_) (Paired.qE K3 fun p x z=>tp p x z);exact tF _ _ z (by simp;intro e;rw[e]at z;unfold TupAt at z;rw[hd]at z;cases z)
   generalize bI H2 r (.lst (ps.map V.ref++Xt.map V.ref))=H3 at*;refine⟨_,rfl,_,rfl,_,rfl,n,s,c,_,a,d,rfl,hn,hT.le (aK.le s6),⟨js,N0,.inr ⟨o,hd3⟩⟩,fun H4 d2 s4 f4 ai=>?_⟩;refine⟨d2,_,_,xs++js.map fun j=>(s,j),rfl,s6.trans s4,aK.free s6 f4,?_,?_,?_,?_,?_⟩
   .rw[dM es,FQ];exact ai
   .obtain⟨ps3,h1,h2⟩:=tps;exact⟨ps3,s4 _ _ h1,Paired.qE h2 fun p x z=>s4 _ _ z⟩
   .intro x;rw[aN,pP,aE];constructor
    .rintro(⟨j,h1,h2,h3⟩|⟨j,h1,rfl⟩)
     .exact⟨j,by lia,h2,h3⟩
     .exact⟨i,by lia,es,(N0.iff j).mp h1⟩
    .rintro⟨j,h1,h2,h3⟩;by_cases e:j=i
     .subst e;rw[es]at h2;refine .inr ⟨x.2,(N0.iff _).mpr h3,?_⟩;rw[bC h2]
     .exact .inl ⟨j,by lia,h2,h3⟩
   .intro x hx;rcases aN.mp hx with hx|hx
    .exact hle x hx
    .obtain⟨j,hj,rfl⟩:=aE.mp hx;exact N0.le j hj
   .rw[bA,aA,Jf];lia
 .rintro σ H' ⟨d,v5,v6,xs,rfl,s5,dt,hd,uA,pP,hle,hlen⟩;rw[fO]at pP hlen;refine⟨_,rfl,k H' r xs s5 Be uA (fun x=>?_) hle hlen⟩;rw[pP];constructor
  .rintro⟨j,_,h⟩;exact⟨j,h⟩
  .rintro⟨j,h1,h2⟩;exact⟨j,(aL.mp h1).1,h1,h2⟩
theorem HD{ls:TL}(nd:(ls.map (·.1)).Nodup)(bd:∀x∈ls,x.1.1<512/\x.1.2<=n)(hn:n<=100):(Fg ls).length<sizeLine:=by
 have:=nd.length_le_of_subset (l₂:=(bD 512).flatMap fun s=>(bD (n+1)).map fun i=>(s,i)) (fun x hx=>by
  obtain⟨y,hy,rfl⟩:=aE.mp hx
  obtain⟨b1,b2⟩:=bd y hy
  exact bG.mpr ⟨y.1.1,bS.mpr b1,aE.mpr ⟨y.1.2,bS.mpr (by lia),rfl⟩⟩)
 rw[aA,fH]at this
 have e:((bD 512).map fun s=>((bD (n+1)).map fun i=>(s,i)).length)=(bD 512).map fun _=>n+1:=by refine eJ fun s _=>?_;rw[aA,dU]
 rw[e,Tw.oJ,dU]at this
 unfold Fg
 rw[aA]
 exact bV (bK this (pM 512 (yP hn))) (by decide)
theorem Gd.same{r:Addr}{xs:List (Nat×Nat)}(h:Gd H r xs)(s:aK H H'):Gd H' r xs:=let ⟨ps,h1,h2⟩:=h;⟨ps,s _ _ h1,Paired.qE h2 fun _ _ z=>s _ _ z⟩
theorem Gd.upd{r:Addr}{xs:List (Nat×Nat)}(h:Gd H r xs)(ha:H a=some u)(hu:∀xs,u≠.tup xs)(hr:r≠a):Gd (bI H a o) r xs:=let ⟨ps,h1,h2⟩:=h;⟨ps,by rw[aH hr];exact h1,Paired.qE h2 fun _ _ z=>z.upd ha hu⟩
structure EX(n:Nat)(H:Hp)(e:Addr)(cont:Nat×Nat->List (Nat×Nat))(ls:TL):Prop where
 at_:H e=some (.dT (Fg ls))
 nd:(ls.map (·.1)).Nodup
 Jy:(ls.map (·.2)).Nodup
 bd:∀x∈ls,x.1.1<512/\x.1.2<=n
 ent:∀x∈ls,Gd H x.2 (cont x.1)
 out:∀k,k∉ls.map (·.1)->cont k=[]
theorem EX.same{ls:TL}(h:EX n H e cont ls)(s:aK H H'):EX n H' e cont ls:=⟨s _ _ h.at_,h.nd,h.Jy,h.bd,fun x hx=>(h.ent x hx).same s,h.out⟩
theorem EX.na{ls:TL}(h:EX n H e cont ls){x:(Nat×Nat)×Addr}(hx:x∈ls):x.2≠e:=fun z=>by obtain⟨ps,q,_⟩:=h.ent x hx;rw[z,h.at_]at q;cases q
theorem EX.ed{ls:TL}(h:EX n H e cont ls):AF NT H e cont:=by
 intro H' s;refine⟨sV (.inl (s _ _ h.at_)),?_⟩;rintro v x ⟨p,rfl,hp⟩;have hg:=Fu (.inl (s _ _ h.at_)) hp;rcases qM (ls:=ls) x.1 x.2 with ⟨h1,h2⟩|⟨b,h1,h2⟩
 .rw[h2]at hg;exact .inl ⟨hg,h.out _ h1⟩
 .rw[h2]at hg;obtain⟨ps,q1,q2⟩:=h.ent _ h1;refine .inr ⟨b,_,hg,.inl q1,?_⟩
  have:∀{ps:La} {xs:List (Nat×Nat)},eZ (TupAt H) ps xs->eZ (NT.at_ H) (ps.map V.ref) xs:=by
   intro ps xs z;induction z with
   |nil=>exact .nil
   |cons h1 _ ih=>exact .cons ⟨_,rfl,h1⟩ ih
  exact this q2
theorem EX.new{ls:TL}(h:EX n H e cont ls){s:Nat}(hs:s<512)(hi:i<=n)(hn:(s,i)∉ls.map (·.1))(hb:H b=some (.lst []))(M6:b∉ls.map (·.2)):EX n (bI H e (.dT (Fg (ls++[((s,i),b)])))) e cont (ls++[((s,i),b)]):=by
 have Iu:b≠e:=fun z=>by rw[z,h.at_]at hb;cases hb
 refine⟨aC,?_,?_,fun x hx=>?_,fun x hx=>?_,fun k hk=>?_⟩
 .rw[aQ];exact lW h.nd hn
 .rw[aQ];exact lW h.Jy M6
 .rcases aN.mp hx with hx|hx
  .exact h.bd x hx
  .rw[aO.mp hx];exact⟨hs,hi⟩
 .rcases aN.mp hx with hx|hx
  .exact(h.ent x hx).upd h.at_ (by intro xs z;cases z) (h.na hx)
  .rw[aO.mp hx];show Gd _ b (cont (s,i));rw[h.out _ hn];exact⟨[],by rw[aH Iu];exact hb,.nil⟩
 .rw[aQ,aN,not_or]at hk;exact h.out k hk.1
theorem EX.add{ls:TL}(h:EX n H e cont ls){k:Nat×Nat}(hm:(k,b)∈ls){ps Xt:La}{xs:List (Nat×Nat)}(h1:H b=some (.lst (ps.map V.ref)))(h2:eZ (TupAt H) Xt xs):
  EX n (bI H b (.lst (ps.map V.ref++Xt.map V.ref))) e (fun y=>if y=k then cont y++xs else cont y) ls:=by
 have hl:∀ys,HO.lst (ps.map V.ref)≠.tup ys:=by intro xs z;cases z
 refine⟨by rw[aH (Ne.symm (h.na hm))];exact h.at_,h.nd,h.Jy,h.bd,fun x hx=>?_,fun y hy=>?_⟩
 .by_cases q:x.1=k
  .have:=Mx h.nd hx hm q;subst this;show Gd _ b (if k=k then cont k++xs else cont k);rw[if_pos rfl];obtain⟨Gk,q1,q2⟩:=h.ent _ hm;rw[h1]at q1;have ep:ps=Gk:=by have:=bC q1;injection this with this;exact(Gi (fun x y h=>by cases h;rfl)).mp this
   subst ep;exact⟨ps++Xt,by rw[aQ];exact aC,Ra (Paired.qE q2 fun _ _ z=>z.upd h1 hl) (Paired.qE h2 fun _ _ z=>z.upd h1 hl)⟩
  .show Gd _ x.2 (if x.1=k then cont x.1++xs else cont x.1);rw[if_neg q];exact(h.ent x hx).upd h1 hl fun z=>q (by rw[Yy h.Jy hx hm z])
 .have:y≠k:=fun z=>hy (by rw[z];exact aE.mpr ⟨_,hm,rfl⟩);rw[if_neg this];exact h.out y hy
inductive ON:Sp|mk {vs H Q Z} (n:Nat) (c:Nat->Nat->Nat->Cn) (g:Lr) (a t:Addr):vs=[.ref a,.ref t,.int (n:Int)]->n<=64->WF g->g.length<=128->(∀r∈g,r.right.length<=16)->fZ H a g->nS n H t c->(∀H' e cont,aK H H'->AF NT H' e cont->(∀s p y,y∈cont (s,p)↔p<=n/\∃r∈g,r.left=s/\fh n c r.right p y)->(∀k,∀y∈cont k,y.1<512/\y.2<=n)->Q (.ref e) H')->ON vs H Q Z
theorem ye:cB ["rules","table","size","edges","place","left","right"] ["rules","table","size"] (bF (st 37)):=oP
theorem ml(F:lY K "edges_between_spots" "edges_between_spots" (st 37) f fd)(Tp:uO mg)(hS:mW P w K mg aT 4 "spots_of_right" ["table","right","place"] GA):eN P w K mg aT lM 5 f fd ["rules","table","size"] ON:=by
 refine oB F ye fun H Q hr h=>?_
 obtain⟨n,c,g,a,t,rfl,hn,wf,Vb,Bc,hG,hT,k⟩:=h
 have nd:=ye.nd
 have hu:=jV hr
 refine⟨_,aJ (sv (i:=3) nd Ma)
  (aJ (gR bN rfl (Ba rfl Tp.range (aB (jY nY (pv 2) cH) aP)) (gv (i:=4) nd)
   (aU (gR bN rfl (gT (pv 0)) (mP rfl (dF (gv (i:=5) nd) (dF (gv (i:=6) nd) kI)))
    (aU (fM (uY cF lK lJ wF (Ep hu (pv 3) (oX (aB (pv 5) (aB (pv 4) aP))) (fE aP) ⟨rfl,rfl,rfl,rfl⟩) (aB (dW hS hr (aB (pv 1) (aB (pv 6) (aB (pv 4) aP)))) aP)))))))
  (aU (cO (pv 3)))),?_⟩
 intro e he
 obtain⟨ps,uA,vO⟩:=hG
 have lg:ps.length=g.length:=dC vO
 refine⟨_,rfl,_,_,rfl,rfl,((n:Int)+1),rfl,by lia,by lia,?_⟩
 rw[show((n:Int)+1).toNat=n+1 by lia]
 refine Ho (lo:=0) (n:=n+1) (fun i σ H'=>E5 fun v4 v5 v6 cont ls=>A7 (σ=[some (.ref a),some (.ref t),some (.int n),some (.ref e),v4,v5,v6]) (aK H H') (EX n H' e cont ls) (∀x∈ls,H x.2=none)
   (∀s p y,y∈cont (s,p)↔p<i/\∃r∈g,r.left=s/\fh n c r.right p y) (∀k,∀y∈cont k,y.1<512/\y.2<=n) (∀k,(cont k).length<=g.length*(16*(n+1)))) ?_ ?_ ?_
 .exact⟨none,none,none,fun _=>[],[],rfl,aK.upd he,⟨aC,by simp,by simp,by simp,by simp,by simp⟩,by simp,by simp,by simp,by simp⟩
 .rintro i σ H' hi ⟨v4,v5,v6,cont,ls,rfl,s1,X,Jp,pP,Hn,hlen⟩
  have e0:∀s y,¬y∈cont (s,i):=fun s y z=>by have:=((pP s i y).mp z).1;lia
  refine⟨_,rfl,a,rfl,⟨_,cY (aK.le s1 _ _ iP uA)⟩,mG (K:=K) (a:=a) (xs:=ps.map V.ref) (fun m σ H'=>E4 fun v5 v6 cont ls=>A8 (σ=[some (.ref a),some (.ref t),some (.int n),some (.ref e),some (.int i),v5,v6]) (aK H H') (EX n H' e cont ls) (∀x∈ls,H x.2=none)
    (∀s p y,y∈cont (s,p)↔(p<i/\∃r∈g,r.left=s/\fh n c r.right p y)∨(p=i/\∃r∈g.take m,r.left=s/\fh n c r.right p y)) (∀k,∀y∈cont k,y.1<512/\y.2<=n) (∀k,(cont k).length<=g.length*(16*(n+1))) (∀s,(cont (s,i)).length<=m*(16*(n+1))))
   ⟨v5,v6,cont,ls,by simp,s1,X,Jp,fun s p y=>by rw[pP];simp,Hn,hlen,fun s=>by
    cases h:cont (s,i)with
    |nil=>simp
    |cons y _=>exact absurd (by rw[h];simp) (e0 s y)⟩ (fun m σ H' _ ⟨_,_,_,_,_,s2,_,_,_,_,_,_⟩=>cY (aK.le s2 _ _ iP uA)) ?_ ?_⟩
  .rintro m x σ H2 hx ⟨v5,v6,cont,ls,rfl,s2,X,Jp,pP,Hn,hlen,SJ⟩
   obtain⟨p0,ep,rfl⟩:=mQ hx
   obtain⟨r,er,q,Cz,yR⟩:=gI vO ep
   have AR:=aG er
   have hm:m<g.length:=(aL.mp er).1
   refine Bx (nE (aK.le s2 _ _ Ew Cz)) ?_
   refine⟨_,rfl,e,rfl,sV (.inl X.at_),_,rfl,_,rfl,z2,fun b hb=>⟨z0,fun zz hz=>?_⟩⟩
   have s3:aK H2 (bI (bI H2 b (.tup [.int r.left,.int i])) zz (.lst [])):=(aK.upd hb).trans (aK.upd hz)
   have HV:bI (bI H2 b (.tup [.int r.left,.int i])) zz (.lst []) b=some (.tup [.int r.left,.int i]):=by rw[aH (cK aC hz)];exact aC
   have hz3:bI (bI H2 b (.tup [.int r.left,.int i])) zz (.lst []) zz=some (.lst []):=aC
   have X3:=X.same s3
   have hzH:H zz=none:=by
    refine aK.free (s2.trans (aK.upd (o:=.tup [.int r.left,.int i]) hb)) hz
   have hzl:zz∉ls.map (·.2):=fun mm=>by
    obtain⟨y,hy,e'⟩:=aE.mp mm
    obtain⟨Gk,q',_⟩:=X.ent y hy
    have:=(aK.upd (o:=.tup [.int r.left,.int i]) hb) _ _ q'
    rw[e',hz]at this;cases this
   have s4:=s2.trans s3
   generalize bI (bI H2 b (.tup [.int r.left,.int i])) zz (.lst [])=H3 at*
   have body:∀(H4:Hp) (Mn:TL) (bE:Addr),aK H H4->EX n H4 e cont Mn->(∀x∈Mn,H x.2=none)->((r.left,i),bE)∈Mn->
     (fun x H1=>vo K "list" x H1/\gS (JJ GA (gS (fC 1) (gS (fC 6) (gS (fC 4) oW)))) oW [some (.ref a),some (.ref t),some (.int n),some (.ref e),some (.int i),some (.int r.left),some (.ref q)] H1 fun xs H2=>GK x xs H2 fun _ H'=>
      E4 fun v5 v6 cont ls=>A8 ([some (V.ref a),some (.ref t),some (.int n),some (.ref e),some (.int i),some (.int r.left),some (.ref q)]=[some (V.ref a),some (.ref t),some (.int n),some (.ref e),some (.int i),v5,v6]) (aK H H') (EX n H' e cont ls) (∀x∈ls,H x.2=none)
       (∀s p y,y∈cont (s,p)↔(p<i/\∃r∈g,r.left=s/\fh n c r.right p y)∨(p=i/\∃r∈g.take (m+1),r.left=s/\fh n c r.right p y)) (∀k,∀y∈cont k,y.1<512/\y.2<=n) (∀k,(cont k).length<=g.length*(16*(n+1))) (∀s,(cont (s,i)).length<=(m+1)*(16*(n+1)))) (V.ref bE) H4:=by
    intro H4 Mn bE s4 X4 SI VM
    obtain⟨psE,hE1,hE2⟩:=X4.ent _ VM
    refine⟨.inl ⟨rfl,_,iY.of hE1⟩,_,rfl,_,rfl,_,rfl,n,i,c,r.right,t,q,rfl,by lia,hT.le (aK.le s4),yR.le (aK.le s4),bK (Bc r AR) (by decide),by lia,fun H5 rr xs s5 fr ⟨ps5,h51,h52⟩ oa p7 MF=>?_⟩
    have ahN:xs.length<=16*(n+1):=bK MF (oV _ (Bc r AR))
    have hm1:(m+1)*(16*(n+1))<=g.length*(16*(n+1)):=oV _ hm
    have ZD:=SJ r.left
    have Vc:(cont (r.left,i)).length+xs.length<=(m+1)*(16*(n+1)):=by rw[Jf];lia
    have hgB:g.length*(16*(n+1))<=128*(16*65):=vE Vb (pM _ (by lia))
    refine⟨bE,rr,_,_,rfl,rfl,s5 _ _ hE1,h51,?_,_,_,_,Mn,rfl,aK.then (s4.trans s5) (SI _ VM),(X4.same s5).add VM (s5 _ _ hE1) h52,SI,?_,?_,?_,?_⟩
    .rw[aA,aA,dC hE2,dC h52]
     exact bK (bK Vc (bK hm1 hgB)) (by decide)
    .intro s p y
     by_cases qk:(s,p)=(r.left,i)
     .rw[if_pos qk,aN,pP,oa,dM er]
      obtain⟨rfl,rfl⟩:=nX qk
      constructor
      .rintro((⟨z,_⟩|⟨_,r',z1,z2,z3⟩)|z)
       .lia
       .exact .inr ⟨rfl,r',dA _ z1,z2,z3⟩
       .exact .inr ⟨rfl,r,by simp,rfl,z⟩
      .rintro(⟨z,_⟩|⟨_,r',z1,z2,z3⟩)
       .lia
       .rcases aN.mp z1 with z1|z1
        .exact .inl (.inr ⟨rfl,r',z1,z2,z3⟩)
        .rw[aO.mp z1]at z3;exact .inr z3
     .rw[if_neg qk,pP,dM er]
      constructor
      .rintro(z|⟨z0,r',z1,z2,z3⟩)
       .exact .inl z
       .exact .inr ⟨z0,r',dA _ z1,z2,z3⟩
      .rintro(z|⟨z0,r',z1,z2,z3⟩)
       .exact .inl z
       .rcases aN.mp z1 with z1|z1
        .exact .inr ⟨z0,r',z1,z2,z3⟩
        .exact absurd (by rw[<-z2,z0,aO.mp z1]) qk
    .intro kk y hy
     split at hy
     .rcases aN.mp hy with hy|hy
      .exact Hn kk y hy
      .refine⟨?_,p7 y hy⟩
       obtain⟨j,z1,_⟩:=(oa y).mp hy
       exact(wf r AR).2 _ (aG z1)
     .exact Hn kk y hy
    .intro kk
     split
     .rename_i qk
      rw[qk,bA]
      lia
     .exact hlen kk
    .intro s
     have:=SJ s
     split
     .rename_i qk
      rw[qk,bA];exact Vc
     .rw[Jf];lia
   refine .inr ⟨_,ky r.left i,b,X3.at_,rfl,HV,HD X3.nd X3.bd (by lia),fun v hv=>?_,fun hv=>?_⟩
   .rcases qM (ls:=ls) r.left i with ⟨_,z⟩|⟨bE,uy,z⟩
    .rw[z]at hv;cases hv
    .rw[z]at hv
     cases hv
     exact body H3 ls bE s4 X3 Jp uy
   .rcases qM (ls:=ls) r.left i with ⟨KY,z⟩|⟨bE,uy,z⟩
    .rw[Tv z]
     refine body _ (ls++[((r.left,i),zz)]) zz (aK.then s4 he) (X3.new (by have:=(wf r AR).1;lia) (by lia) KY hz3 hzl) (fun x hx=>?_) (by simp)
     rcases aN.mp hx with hx|hx
     .exact Jp x hx
     .rw[aO.mp hx];exact hzH
    .rw[z]at hv;cases hv
  .rintro σ H2 ⟨v5,v6,cont,ls,rfl,s2,X,Jp,pP,Hn,hlen,SJ⟩
   rw[aA,lg,bX]at pP
   refine⟨_,_,_,cont,ls,rfl,s2,X,Jp,fun s p y=>?_,Hn,hlen⟩
   rw[pP]
   constructor
   .rintro(⟨z,h⟩|⟨z,h⟩)
    .exact⟨by lia,h⟩
    .exact⟨by lia,h⟩
   .rintro⟨z,h⟩
    by_cases q:p=i
    .exact .inr ⟨q,h⟩
    .exact .inl ⟨by lia,h⟩
 .rintro σ H2 ⟨v4,v5,v6,cont,ls,rfl,s2,X,Jp,pP,Hn,hlen⟩;refine⟨_,rfl,k H2 e cont s2 X.ed (fun s p y=>?_) Hn⟩;rw[pP];constructor
  .rintro⟨z,h⟩;exact⟨by lia,h⟩
  .rintro⟨z,h⟩;exact⟨by lia,h⟩
theorem Fm{F:Nat->Option Nat}(wf:WF g)(lo:qR g F):r∈(g.filter fun x=>(jL F x.right).isSome)↔Tw.Sq g r:=by
 rw[aM];unfold Tw.Sq;constructor
 .rintro⟨h1,h2⟩;refine⟨h1,fun x hx=>?_⟩;obtain⟨n,e⟩:=fR.mp h2;obtain⟨m,em⟩:=Tw.Li e x hx;exact(lo.Hf ((wf r h1).2 x hx)).mp (by rw[em];rfl)
 .rintro⟨h1,h2⟩;refine⟨h1,?_⟩;obtain⟨n,e⟩:=Tw.Qr (F:=F) (l:=r.right) fun x hx=>fR.mp ((lo.Hf ((wf r h1).2 x hx)).mpr (h2 x hx));rw[e];rfl
theorem NO(hi:i<=t.length)(l:Ln):Tw.wr t.length (fun s i j=>iL g t [s] i j) l i=iL g t l i:=by
 have:=Tw.FR (g:=g) (t:=t) (p0:=0) (cI i) hi l;rw[<-this];have e:(fun s i j=>iL g t [s] i j)=Tw.mJ g t 0:=by funext s i j;exact(Tw.oQ (cI _)).symm
 rw[e]
theorem TU{F:Nat->Option Nat}(wf:WF g)(lo:qR g F){a b:Nat×Nat}:
  (a.2<=t.length/\∃r∈(g.filter fun x=>(jL F x.right).isSome),r.left=a.1/\fh t.length (fun s i j=>iL g t [s] i j) r.right a.2 b)↔Tw.UP g t a b:=by
 constructor
 .rintro⟨ha,r,hr,hl,j,e1,e2⟩;rw[NO ha]at e2;refine⟨r,(Fm wf lo).mp hr,hl,r.right.take j,r.right.drop (j+1),?_,Tw.Bj.mp e2⟩;obtain⟨hj,e3⟩:=aL.mp e1;rw[<-e3,<-cZ hj,jE]
 .rintro⟨r,hg,hl,l1,l2,e,c⟩;have ha:a.2<=t.length:=bK c.le.1 c.le.2;refine⟨ha,r,(Fm wf lo).mpr hg,hl,l1.length,?_,?_⟩
  .rw[e];simp
  .rw[NO ha,e,List.take_left];exact Tw.Bj.mpr c
def Er(n:Nat)(x:Nat×Nat):Bool:=decide (x.2=n)&&decide (256<=x.1)
def MT(n:Nat):List (Nat×Nat):=(bD 512).flatMap fun s=>(bD (n+1)).map fun i=>(s,i)
theorem Mi{x:Nat×Nat}:x∈MT n↔x.1<512/\x.2<=n:=by
 unfold MT;rw[bG];constructor
 .rintro⟨s,h1,h2⟩;obtain⟨i,h3,rfl⟩:=aE.mp h2;rw[bS]at h1 h3;exact⟨h1,by show i<=n;lia⟩
 .rintro⟨h1,h2⟩;exact⟨x.1,bS.mpr h1,aE.mpr ⟨x.2,bS.mpr (by lia),rfl⟩⟩
theorem Wu(hn:n<=64):(MT n).length<=100000:=by
 unfold MT;rw[fH];have e:((bD 512).map fun s=>((bD (n+1)).map fun i=>(s,i)).length)=(bD 512).map fun _=>n+1:=by refine eJ fun s _=>?_;rw[aA,dU]
 rw[e,Tw.oJ,dU];have:=pM 512 (yP hn);lia
theorem RM{t u:Addr}{st0:V}{ns:List (Nat×Nat)}(hd:H d=some (NT.ob ns))(hl:ns.length<=100000)
  (ht:∀(x:Nat×Nat) (H':Hp) (R:Bool->Hp->Prop),R (Er n x) H'->tt [some (.ref a),some (.ref t),some st0,some (.int n),some (.ref u),some (.ref d),some (.int x.1),some (.int x.2)] H' R)
  (he:∀(x:Nat×Nat) (H':Hp) (R:VK),256<=x.1->R (.int ((x.1-256:Nat):Int)) H'->te [some (.ref a),some (.ref t),some st0,some (.int n),some (.ref u),some (.ref d),some (.int x.1),some (.int x.2)] H' R)
  (k:∀D H',H D=none->SX [d] H H'->H' D=some (.lst (kL ((ns.filter (Er n)).map fun x=>x.1-256)))->Q (.ref D) H'):
  JH (HK (WY (fC 5))) (g2 K 6 7) tt te [6,7] [some (.ref a),some (.ref t),some st0,some (.int n),some (.ref u),some (.ref d),none,none] H Q:=by
 refine⟨_,rfl,d,_,rfl,hd,trivial,fun o=>⟨d,o,rfl,.inr ⟨_,aC,fun D hD=>?_⟩⟩⟩
 have VO:d≠D:=fun z=>by rw[<-z,aC]at hD;cases hD
 have LG:H D=none:=by rw[aH (Ne.symm VO)]at hD;exact hD
 refine RK (d:=d) (o:=o) (Qd:=Q (.ref D)) (fun i H'=>SX [d] H H'/\H' d=some (.kN o (NT.ob ns))/\H' D=some (.lst (kL (((ns.take i).filter (Er n)).map fun x=>x.1-256)))) ?_ (fun i H' h=>h.2.1) ?_ ?_
 .exact⟨(SX.upd (by simp)).then LG,by rw[aH VO];exact aC,aC⟩
 .rintro i k v q H' e hq ⟨sx,h1,h2⟩;rw[bT]at e;obtain⟨x,ex,P0⟩:=dY.mp e;cases P0;have U0:i<ns.length:=(aL.mp ex).1;refine Bx (x:=.int x.1) (y:=.int x.2) (nE (.inl hq)) ⟨rfl,?_⟩;refine ht x H' _ ?_;rw[Ac ex];cases hp:Er n x with
  |false=>exact qF ⟨sx,h1,by simpa[hp]using h2⟩
  |true=>
   have O2:256<=x.1:=by unfold Er at hp;rw[bJ]at hp;exact aR hp.2
   refine oZ (he x H' _ O2 ⟨_,h2,?_,sx.then LG,by rw[aH VO];exact h1,?_⟩)
   .rw[fO,aA];exact bV (eF _ _) (by rw[dB];exact bV (WK _ _) (bV hl (by decide)))
   .simp only[if_true];rw[aQ];unfold kL;rw[aQ];exact aC
 .rintro H' ⟨sx,h1,h2⟩;rw[aA,bX]at h2;exact k D H' LG sx h2
inductive jq:Sp|mk {vs H Q Z} (g:Lr) (tx:T) (start:Nat) (a t:Addr):vs=[.ref a,.ref t,.int (start:Int),.int (tx.length:Int)]->tx.length<=64->WF g->g.length<=128->(∀r∈g,r.right.length<=16)->start<256->fZ H a g->nS tx.length H t (fun s i j=>iL g tx [s] i j)->(∀H' r (ms:Ln),aK H H'->H r=none->H' r=some (.lst (kL ms))->ms.Nodup->(∀c∈ms,c<256)->(∀c:UInt8,c.toNat∈ms↔Tw.IQ g start tx c)->Q (.ref r) H')->jq vs H Q Z
theorem yd:cB ["rules","table","start","size","useful","spots","symbol","place"] ["rules","table","start","size"] (bF (st 38)):=oP
theorem C6(F:lY K "bytes_behind" "bytes_behind" (st 38) f fd)(Tp:uO mg)(N4:mW P w K mg aT 3 "shortest_lengths" ["rules"] OH)(N5:mW P w K mg aT 2 "rules_of_some_tree" ["rules","lengths"] Xh)
  (hEB:mW P w K mg aT 5 "edges_between_spots" ["rules","table","size"] ON) (O0:mW P w K mg aT 1 "all_reached" ["edges","first"] (OR NT)) (hB:mW P w K mg aT 1 "is_byte" ["symbol"] vY):eN P w K mg aT lM 6 f fd ["rules","table","start","size"] jq:=by
 refine oB F yd fun H Q hr h=>?_
 obtain⟨g,tx,start,a,t,rfl,uM,wf,Vb,Bc,Wh,hG,hT,k⟩:=h
 have nd:=yd.nd
 have yJ:=hr.mono (show 1<=5 by decide)
 have Uy:=hr.mono (show 2<=5 by decide)
 have Pk:=hr.mono (show 3<=5 by decide)
 refine⟨_,aJ (sv (i:=4) nd (dW N5 Uy (aB (pv 0) (aB (dW N4 Pk (aB (pv 0) aP)) aP))))
  (aJ (sv (i:=5) nd (dW O0 yJ (aB (dW hEB hr (aB (pv 4) (aB (pv 1) (aB (pv 3) aP)))) (aB (oX (aB (pv 2) (aB cH aP))) aP))))
  (aU (cO (sO (own:=[("symbol",6),("place",7)]) rfl nd (En (Ha (pv 5))) (iR (by show vK ["rules","table","start","size","useful","spots","symbol","place"] (bF (st 38)) _ _=true;decide+kernel)) (fun _ _ _ _ _=>S4 (a:=6) (b:=7) rfl nd rfl rfl rfl rfl rfl)
   (fun _ _ _ _ _=>Ax (CC (eM pF (pv 7) (pv 3) (fU _)) (Tu (nF (dW hB yJ (aB (pv 6) aP))))).pt) (fun _ _ _ _ _=>jY Mb (pv 6) (fB Tp.tH)))))),?_⟩
 refine⟨_,rfl,_,rfl,g,a,rfl,wf,fun r hr=>bK (Bc r hr) (by decide),hG,fun H1 dl L kvs s1 _ MM _ uz lo=>?_⟩
 refine⟨g,L,kvs,a,dl,rfl,fun r hr=>bK (Bc r hr) (by decide),by lia,hG.le (aK.le s1),.inl MM,uz,fun H2 u s2 _ hU=>?_⟩
 have ZM:(g.filter fun x=>(jL L x.right).isSome).length<=128:=bK (eF _ _) Vb
 refine⟨_,rfl,_,rfl,_,rfl,tx.length,_,_,u,t,rfl,uM,fun r hr=>wf r (aM.mp hr).1,ZM,fun r hr=>Bc r (aM.mp hr).1,hU,hT.le (aK.le (s1.trans s2)),fun H3 e cont s3 hE M3 Hn=>?_⟩
 refine⟨_,rfl,z2,fun p hp=>?_⟩
 have eR:(fun x y=>y∈cont x)=Tw.UP g tx:=by funext x y;rw[eq_iff_iff,<-TU wf lo];exact M3 x.1 x.2 y
 have s4:aK H3 (bI H3 p (.tup [.int start,.int 0])):=aK.upd hp
 refine⟨e,.ref p,(start,0),cont,MT tx.length,rfl,hE.same NT.ok s4,⟨p,rfl,aC⟩,Mi.mpr ⟨by show start<512;lia,cI _⟩,fun x _ y hy=>Mi.mpr (Hn x y hy),Wu uM,fun H5 r ns s5 fr MJ ub SD tZ=>?_⟩
 rw[eR]at SD
 have nsl:ns.length<=100000:=bK (ub.length_le_of_subset tZ) (Wu uM)
 have s05:=(s1.trans (s2.trans (s3.trans (s4.trans s5))))
 have frH:H r=none:=aK.free (s1.trans (s2.trans (s3.trans s4))) fr
 refine RM (K:=K) (n:=tx.length) (a:=a) (t:=t) (u:=u) (d:=r) (st0:=.int start) MJ nsl ?_ ?_ fun D H6 hD XB hD6=>?_
 .intro x H' R hR;refine⟨_,rfl,_,rfl,rfl,_,rfl,?_⟩;unfold Er at hR;by_cases q:x.2=tx.length
  .refine gB (bB (by rw[q])) ⟨_,rfl,x.1,rfl,_,rfl,?_⟩
   have:(decide (x.2=tx.length)&&decide (256<=x.1))=decide ((256:Int)<=x.1):=by
    rw[bB q,Wd];by_cases q2:256<=x.1
    .rw[bB q2,bB (by lia)]
    .rw[bH q2,bH (by lia)]
   rw[this]at hR;exact hR
  .refine eE (bH (fun z=>q (by injection z with z;lia))) ?_;rw[bH q,Qg]at hR;exact hR
 .intro x H' R O2 hR;refine⟨_,rfl,_,_,rfl,rfl,?_⟩;show R (.int ((x.1:Int)-256)) H';rw[show((x.1:Int)-256)=((x.1-256:Nat):Int) by lia];exact hR
 .refine k H6 D _ (SX.same (((SX.of s05 (F:=[r])).trans XB).drop (by simp[frH]))) (aK.free s05 hD) hD6 ?_ ?_ ?_
  .refine Tw.mC (Tw.jH ub) (fun x hx y hy e=>?_);obtain⟨_,h2⟩:=aM.mp hx;obtain⟨_,h4⟩:=aM.mp hy;unfold Er at h2 h4;rw[bJ]at h2 h4;have a1:=aR h2.1;have a2:=aR h2.2;have a3:=aR h4.1;have a4:=aR h4.2;exact Prod.ext (by lia) (by lia)
  .intro c hc;obtain⟨x,hx,rfl⟩:=aE.mp hc;have:=(Mi.mp (tZ x (aM.mp hx).1)).1;lia
  .intro c;rw[Tw.QP wf,<-SD];constructor
   .intro hc;obtain⟨x,hx,e'⟩:=aE.mp hc;obtain⟨h1,h2⟩:=aM.mp hx;unfold Er at h2;rw[bJ]at h2;have a1:=aR h2.1;have a2:=aR h2.2;have:x=(c.toNat+256,tx.length):=Prod.ext (by show x.1=c.toNat+256;lia) a1;rw[<-this];exact h1
   .intro h;refine aE.mpr ⟨_,aM.mpr ⟨h,?_⟩,by simp⟩;unfold Er;simp
theorem YY(ms:Ln)(k:Nat):G0 (.int (k:Int)) (kL ms)=decide (k∈ms):=by
 induction ms with
 |nil=>rfl
 |cons m ms ih=>
  show(((m:Int)==(k:Int))||G0 (.int (k:Int)) (kL ms))=_;rw[ih,nG,eI,beq_iff_eq,decide_eq_true_iff,decide_eq_true_iff,aW];constructor
  .rintro(h|h)
   .exact .inl (by lia)
   .exact .inr h
  .rintro(h|h)
   .exact .inl (by lia)
   .exact .inr h
theorem SW(ms:Ln):(kL ms).all By=true:=by
 induction ms with
 |nil=>rfl
 |cons m ms ih=>show(true&&(kL ms).all By)=true;rw[ih];rfl
def bv(ms:Ln)(row:Nat):Nat->Nat
 |0=>0
 |i+1=>2*bv ms row i+if row*8+(7-i)∈ms then 1 else 0
def sT(ms:Ln)(row:Nat):Nat:=((bD 8).map fun k=>if 8*row+k∈ms then 2^k else 0).sum
theorem Cw(c:Prop)[Decidable c](n:Nat):(if c then n else 0)=(if c then 1 else 0)*n:=by split<;>simp
theorem rg(ms:Ln)(row:Nat):bv ms row 8=sT ms row:=by unfold sT;rw[show bD 8=[0,1,2,3,4,5,6,7] from rfl];simp only[bL,lS,iC,List.sum_nil,bv];rw[Nat.mul_comm 8 row];simp only[zJ,Nat.reduceSub,Nat.reducePow];rw[Cw _ 2,Cw _ 4,Cw _ 8,Cw _ 16,Cw _ 32,Cw _ 64,Cw _ 128];lia
theorem fc(ms:Ln)(row:Nat):∀i,bv ms row i<2^i
 |0=>by show 0<1;decide
 |i+1=>by have:=fc ms row i;rw[bv,Nat.pow_succ];split<;>lia
inductive XE:Sp|mk {vs H Q Z} (ms:Ln) (row:Nat) (a:Addr):vs=[.ref a,.int (row:Int)]->Rd H a (.lst (kL ms))->row<=31->Q (.int (sT ms row:Int)) H->XE vs H Q Z
inductive OK:Sp|mk {vs H Q Z} (ms:Ln) (a:Addr):vs=[.ref a]->Rd H a (.lst (kL ms))->(∀H' r,aK H H'->H r=none->H' r=some (.lst (kL ((bD 32).map (sT ms))))->Q (.ref r) H')->OK vs H Q Z
theorem yc:cB ["numbers","row","bits","bit"] ["numbers","row"] (bF (st 39)):=oP
theorem zw(F:lY K "row_of_bits" "row_of_bits" (st 39) f fd)(Tp:uO mg):eN P w K mg aT lM 1 f fd ["numbers","row"] XE:=by
 refine oB F yc fun H Q hr h=>?_
 obtain⟨ms,row,a,rfl,ha,Mz,k⟩:=h
 have nd:=yc.nd
 refine⟨_,aJ (sv (i:=2) nd cH)
  (aJ (gR bN rfl (Qx rfl Tp.range (aB (jY Mb (fB Tp.bits) cH) (aB (Ly Cj cH) (aB (Ly Cj cH) aP)))) (gv (i:=3) nd)
   (aU (sv (i:=2) nd (jY nY (jY QD cH (pv 2)) (Lz (eM JX (jY nY (jY QD (pv 1) (fB Tp.bits)) (pv 3)) (pv 0) (by with_unfolding_all rfl)) cH cH)))))
  (aU (cO (pv 2)))),?_⟩
 refine⟨_,_,rfl,rfl,_,rfl,_,rfl,7,-1,-1,8,rfl,?_,?_⟩
 .exact Q5.neg (i:=7) (j:= -1) (by lia) (by lia) (by decide) (by decide)
 .refine Nd (fun i σ H'=>H'=H/\∃v3,σ=[some (.ref a),some (.int row),some (.int (bv ms row i:Int)),v3]) ⟨rfl,none,rfl⟩ ?_ ?_
  .rintro i σ H' hi ⟨rfl,v3,rfl⟩;have hb:=fc ms row i;have h8:2^i<=2^8:=Nat.pow_le_pow_right (by decide) (by lia);refine⟨_,rfl,_,_,rfl,rfl,.inl (by decide),?_⟩;refine⟨_,rfl,_,_,rfl,rfl,.inr (by decide),_,rfl,_,_,rfl,rfl,?_⟩;refine⟨_,rfl,a,_,rfl,.inl (cY ha),rfl,SW ms,_,rfl,?_⟩;have e1:((row:Int)*8+(7+(i:Nat)* -1))=((row*8+(7-i):Nat):Int):=by lia
   show if (G0 (.int ((row:Int)*8+(7+(i:Nat)* -1))) (kL ms))=true then _ else _
   rw[e1,YY];by_cases q:row*8+(7-i)∈ms
   .refine gB (bB q) ⟨_,_,rfl,rfl,rfl,some (.int (7+(i:Nat)* -1)),?_⟩;show[_,_,some (V.int (2*(bv ms row i:Int)+1)),_]=_;rw[bv,if_pos q];push_cast;rfl
   .refine eE (bH q) ⟨_,_,rfl,rfl,rfl,some (.int (7+(i:Nat)* -1)),?_⟩;show[_,_,some (V.int (2*(bv ms row i:Int)+0)),_]=_;rw[bv,if_neg q];push_cast;rfl
  .rintro σ H' ⟨rfl,v3,rfl⟩;refine⟨_,rfl,?_⟩;rw[rg];exact k
theorem yb:cB ["numbers","row"] ["numbers"] (bF (st 40)):=oP
theorem ma(F:lY K "rows_of_bits" "rows_of_bits" (st 40) f fd)(Tp:uO mg)(hR:mW P w K mg aT 1 "row_of_bits" ["numbers","row"] XE):eN P w K mg aT lM 2 f fd ["numbers"] OK:=by
 refine oB F yb fun H Q hr h=>?_;obtain⟨ms,a,rfl,ha,k⟩:=h;have nd:=yb.nd;refine⟨_,aU (cO (sO (own:=[("row",1)]) rfl nd (Ba rfl Tp.range (aB (fB Tp.rows) aP)) (iR (by show vK ["numbers","row"] (bF (st 40)) _ _=true;decide+kernel)) (fun _ _ _ _ _=>gv (i:=1) nd) (fun _ _ _ _ _=>oK) (fun _ _ _ _ _=>dW hR hr (aB (pv 0) (aB (pv 1) aP))))),?_⟩;refine⟨32,rfl,by decide,by decide,fun D hD=>?_⟩;refine Ms (lo:=0) (n:=32) (σ:=[some (.ref a),none]) (vs:=[1]) (g:=mF 1) (tt:=Tf) (te:=JJ XE (gS (fC 0) (gS (fC 1) oW))) (Qd:=Q (.ref D)) (fun i H'=>aK H H'/\H' D=some (.lst (kL ((bD i).map (sT ms))))) ⟨aK.upd hD,aC⟩ ?_ fun H' h=>k H' D h.1 hD h.2;rintro i H' hi ⟨s1,h1⟩;refine⟨rfl,?_⟩;refine⟨_,rfl,_,rfl,ms,i,a,by simp,aK.le s1 _ _ iP ha,by lia,_,h1,?_,aK.then s1 hD,?_⟩
 .rw[fO,aA,dU];exact cA hi (by decide)
 .rw[Oe,aQ];unfold kL;rw[aQ];exact aC
abbrev Sj:=Nat×Nat×Ln
def Oa(H:Hp)(p:Addr)(x:Sj):Prop:=∃q,Rd H p (.tup [.int (x.1:Int),.int (x.2.1:Int),.ref q])/\oU H q x.2.2
def sX(H:Hp)(r:Addr)(pT:List Sj):Prop:=∃ps:La,Rd H r (.lst (ps.map V.ref))/\eZ (Oa H) ps pT
theorem Oa.le{x:Sj}(h:Oa H p x)(e:Le H H'):Oa H' p x:=let ⟨q,h1,h2⟩:=h;⟨q,e _ _ Ew h1,h2.le e⟩
theorem sX.le{r:Addr}{pT:List Sj}(h:sX H r pT)(e:Le H H'):sX H' r pT:=let ⟨ps,h1,h2⟩:=h;⟨ps,e _ _ iP h1,Paired.qE h2 fun _ _ z=>z.le e⟩
def Xd(r:Rule)(j:Nat):Sj:=(r.left,r.right.getD j 0,r.right.take j++r.right.drop (j+1))
def nI(g:Lr):List Sj:=g.flatMap fun r=>(bD r.right.length).map (Xd r)
theorem Yn{x:Sj}:x∈nI g↔∃r∈g,r.left=x.1/\∃l1 l2,r.right=l1++x.2.1::l2/\x.2.2=l1++l2:=by
 unfold nI;rw[bG];constructor
 .rintro⟨r,hr,hx⟩;obtain⟨j,hj,rfl⟩:=aE.mp hx;rw[bS]at hj;refine⟨r,hr,rfl,r.right.take j,r.right.drop (j+1),?_,rfl⟩;show r.right=_++(r.right.getD j 0)::_;rw[uQ,bM hj,Option.getD_some,<-cZ hj,jE]
 .rintro⟨r,hr,e1,l1,l2,e2,e3⟩;refine⟨r,hr,aE.mpr ⟨l1.length,bS.mpr (by rw[e2];simp),?_⟩⟩;obtain⟨x1,x2,x3⟩:=x;simp only at e1 e2 e3;unfold Xd;rw[e1,e2,e3];simp
theorem Ic(h:∀r∈g,r.right.length<=16):(nI g).length<=g.length*16:=by
 unfold nI;induction g with
 |nil=>simp
 |cons r g ih=>rw[NJ,bA,aA,dU,cV,Jf];have:=h r aF;have:=ih fun r hr=>h r (aD _ hr);lia
theorem ak(l:Ln)(j:Nat)(hj:j<=l.length):Ad (kL l) none (some (j:Int))=kL (l.take j):=by unfold Ad;rw[HT.Ef,HT.Aw,fO];unfold kL;rw[qZ,List.map_take,lR hj,BE]
theorem Rz(l:Ln)(j:Nat):Ad (kL l) (some (j:Int)) none=kL (l.drop j):=by
 unfold Ad;rw[HT.Ef,HT.Aw,fO];unfold kL;rw[Vz];by_cases h:j<=l.length
 .rw[lR h,eU (by rw[jK,aA];lia)]
 .rw[Kn (by lia),gP (as:=List.map _ l) (i:=l.length) (by simp),gP (as:=List.map _ l) (i:=j) (by rw[aA];lia)];simp
inductive ja:Sp|mk {vs H Q Z} (g:Lr) (a:Addr):vs=[.ref a]->fZ H a g->g.length<=128->(∀r∈g,r.right.length<=16)->(∀H' r,aK H H'->H r=none->sX H' r (nI g)->Q (.ref r) H')->ja vs H Q Z
theorem ya:cB ["rules","steps","left","right","at","symbol"] ["rules"] (bF (st 46)):=oP
theorem zt(F:lY K "steps_down" "steps_down" (st 46) f fd)(Tp:uO mg):eN P w K mg aT lM 1 f fd ["rules"] ja:=by
 refine oB F ya fun H Q hr h=>?_
 obtain⟨g,a,rfl,⟨ps,uA,vO⟩,Vb,Bc,k⟩:=h
 have nd:=ya.nd
 refine⟨_,aJ (sv (i:=1) nd (fE aP))
  (aJ (gR bN rfl (gT (pv 0)) (mP rfl (dF (gv (i:=2) nd) (dF (gv (i:=3) nd) kI)))
   (aU (gR bN rfl (Jx rfl Tp.enum (aB (pv 3) aP)) (mP rfl (dF (gv (i:=4) nd) (dF (gv (i:=5) nd) kI)))
    (aU (fM (uY cF eY eX oN (pv 1) (aB (oX (aB (pv 2) (aB (pv 5) (aB (jY Hc (tT xI (pv 3) Az (uX (pv 4))) (tT xI (pv 3) (uX (jY nY (pv 4) cH)) Az)) aP)))) aP)))))))
  (aU (cO (pv 1)))),?_⟩
 have lg:ps.length=g.length:=dC vO
 refine⟨z0,fun r Be=>?_⟩
 refine⟨_,rfl,a,rfl,⟨_,cY (aK.le (aK.upd Be) _ _ iP uA)⟩,mG (K:=K) (a:=a) (xs:=ps.map V.ref) (fun i σ H'=>E4 fun v2 v3 v4 v5=>A3 (σ=[some (.ref a),some (.ref r),v2,v3,v4,v5]) (aK H H') (∃Gk:La,H' r=some (.lst (Gk.map V.ref))/\eZ (fun p (x:Sj)=>∃q,H' p=some (.tup [.int (x.1:Int),.int (x.2.1:Int),.ref q])/\H' q=some (.lst (kL x.2.2))/\q≠r) Gk (nI (g.take i))))
  ⟨none,none,none,none,rfl,aK.upd Be,[],aC,.nil⟩ (fun i σ H' _ ⟨_,_,_,_,_,s1,_⟩=>cY (aK.le s1 _ _ iP uA)) ?_ ?_⟩
 .rintro i x σ H1 hx ⟨v2,v3,v4,v5,rfl,s1,Gk,h1,h2⟩
  obtain⟨p0,ep,rfl⟩:=mQ hx
  obtain⟨ru,er,q,Cz,yR⟩:=gI vO ep
  have AR:=aG er
  have hi:i<g.length:=(aL.mp er).1
  have uk:(nI (g.take i)).length<=128*16:=bK (Ic fun r hr=>Bc r (sN hr)) (oV _ (by rw[dB];lia))
  refine Bx (nE (aK.le s1 _ _ Ew Cz)) ?_
  refine⟨_,rfl,q,_,rfl,cY (aK.le s1 _ _ iP yR),Fn (K:=K) (a:=q) (xs:=kL ru.right) (i1:=4) (i2:=5) (fun m σ H'=>E2 fun v4 v5=>A3 (σ=[some (.ref a),some (.ref r),some (.int ru.left),some (.ref q),v4,v5]) (aK H H') (∃Gk:La,H' r=some (.lst (Gk.map V.ref))/\eZ (fun p (x:Sj)=>∃q,H' p=some (.tup [.int (x.1:Int),.int (x.2.1:Int),.ref q])/\H' q=some (.lst (kL x.2.2))/\q≠r) Gk (nI (g.take i)++(bD m).map (Xd ru))))
   ⟨v4,v5,rfl,s1,Gk,h1,by simpa using h2⟩ (fun m σ H' _ ⟨_,_,_,s2,_⟩=>cY (aK.le s2 _ _ iP yR)) ?_ ?_⟩
  .rintro m x σ H2 hx ⟨v4,v5,rfl,s2,Gk,h1,h2⟩ H3 s3
   obtain⟨s,es,rfl⟩:=xP hx
   have hm:m<ru.right.length:=(aL.mp es).1
   have hrr:=Bc ru AR
   have s4:=s2.trans s3
   have h3:=s3 _ _ h1
   have h4:eZ (fun p (x:Sj)=>∃q,H3 p=some (.tup [.int (x.1:Int),.int (x.2.1:Int),.ref q])/\H3 q=some (.lst (kL x.2.2))/\q≠r) Gk (nI (g.take i)++(bD m).map (Xd ru)):=Paired.qE h2 fun _ _ ⟨q,z1,z2,z3⟩=>⟨q,s3 _ _ z1,s3 _ _ z2,z3⟩
   have T7:Rd H3 q (.lst (kL ru.right)):=aK.le s4 _ _ iP yR
   refine⟨_,rfl,.inl ⟨rfl,_,iY.of h3⟩,_,rfl,_,rfl,?_⟩
   refine⟨_,rfl,_,rfl,m,rfl,q,_,rfl,cY T7,fun b1 LC=>?_⟩
   have s5:aK H3 (bI H3 b1 (.lst (Ad (kL ru.right) none (some (m:Int))))):=aK.upd LC
   refine⟨_,rfl,_,rfl,_,_,rfl,rfl,_,rfl,q,_,rfl,cY (aK.le s5 _ _ iP T7),fun b2 Rt=>?_⟩
   rw[ak _ _ (by lia)]at*
   rw[show((m:Int)+1)=((m+1:Nat):Int) by lia,Rz]
   have qg:b1≠b2:=fun z=>by rw[<-z,aC]at Rt;cases Rt
   have s6:aK H3 (bI (bI H3 b1 (.lst (kL (ru.right.take m)))) b2 (.lst (kL (ru.right.drop (m+1))))):=s5.trans (aK.upd Rt)
   have e1:bI (bI H3 b1 (.lst (kL (ru.right.take m)))) b2 (.lst (kL (ru.right.drop (m+1)))) b1=some (.lst (kL (ru.right.take m))):=by rw[aH qg];exact aC
   have e2:bI (bI H3 b1 (.lst (kL (ru.right.take m)))) b2 (.lst (kL (ru.right.drop (m+1)))) b2=some (.lst (kL (ru.right.drop (m+1)))):=aC
   generalize bI (bI H3 b1 (.lst (kL (ru.right.take m)))) b2 (.lst (kL (ru.right.drop (m+1))))=H6 at*
   refine⟨b1,b2,_,_,rfl,rfl,e1,e2,?_,fun b3 HV=>⟨(by show 3<=sizeLine;decide),fun b4 pz=>?_⟩⟩
   .rw[fO,fO,dB,jK]
    exact bK (show _<=100 by lia) (by decide)
   .have ab4:kL (ru.right.take m)++kL (ru.right.drop (m+1))=kL (ru.right.take m++ru.right.drop (m+1)):=by unfold kL;rw[aQ]
    rw[ab4]at pz ⊢
    have s7:aK H6 (bI H6 b3 (.lst (kL (ru.right.take m++ru.right.drop (m+1))))):=aK.upd HV
    have s8:=s7.trans (aK.upd (o:=.tup [.int ru.left,.int s,.ref b3]) pz)
    have s9:=s6.trans s8
    have h9:=s9 _ _ h3
    have aaW:b3≠b4:=fun z=>by rw[<-z,aC]at pz;cases pz
    have M4:b3≠r:=fun z=>by rw[z,s6 _ _ h3]at HV;cases HV
    have hp9:eZ (fun p (x:Sj)=>∃q,bI (bI H6 b3 (.lst (kL (ru.right.take m++ru.right.drop (m+1))))) b4 (.tup [.int ru.left,.int s,.ref b3]) p=some (.tup [.int (x.1:Int),.int (x.2.1:Int),.ref q])/\bI (bI H6 b3 (.lst (kL (ru.right.take m++ru.right.drop (m+1))))) b4 (.tup [.int ru.left,.int s,.ref b3]) q=some (.lst (kL x.2.2))/\q≠r) (Gk++[b4]) (nI (g.take i)++(bD (m+1)).map (Xd ru)):=by
     rw[Oe,aQ,<-eV]
     refine Qp (Paired.qE h4 fun _ _ ⟨q,z1,z2,z3⟩=>⟨q,s9 _ _ z1,s9 _ _ z2,z3⟩) ⟨b3,?_,?_,M4⟩
     .rw[aC]
      show _=some (HO.tup [.int ru.left,.int ((ru.right.getD m 0:Nat):Int),.ref b3])
      rw[uQ,es]
      rfl
     .rw[aH aaW];exact aC
    generalize bI (bI H6 b3 (.lst (kL (ru.right.take m++ru.right.drop (m+1))))) b4 (.tup [.int ru.left,.int s,.ref b3])=H9 at*
    refine⟨r,_,_,rfl,rfl,h9,?_,_,_,rfl,aK.then (s4.trans s9) Be,Gk++[b4],?_,?_⟩
    .rw[aA,dC h4,bA,aA,dU]
     exact bV (show _<=128*16+16 by lia) (by decide)
    .rw[aQ];exact aC
    .refine Paired.qE hp9 fun p x ⟨q,z1,z2,z3⟩=>⟨q,?_,by rw[aH z3];exact z2,z3⟩
     rw[aH (fun z=>by rw[z,h9]at z1;cases z1)];exact z1
  .rintro σ H2 ⟨v4,v5,rfl,s2,Gk,h1,h2⟩
   refine⟨_,_,_,_,rfl,s2,Gk,h1,?_⟩
   rw[fO]at h2
   unfold nI at*
   rw[dM er,tN]
   simpa using h2
 .rintro σ H1 ⟨v2,v3,v4,v5,rfl,s1,Gk,h1,h2⟩;rw[aA,lg,bX]at h2;exact⟨_,rfl,k H1 r s1 Be ⟨Gk,.inl h1,Paired.qE h2 fun _ _ ⟨q,z1,z2,_⟩=>⟨q,.inl z1,.inl z2⟩⟩⟩
abbrev g3(K:aX)(a b c:Nat):TG:=qh K 3 (Rv (mF a) (Rv (mF b) (Rv (mF c) qi)))
theorem O4{a b c:Nat}{x y z:V}{Q:L2.St->Hp->Prop}(h:Wj K H p [x,y,z])(q:Q (((σ.set a (some x)).set b (some y)).set c (some z)) H):g3 K a b c (.ref p) σ H Q:=
 ⟨p,_,rfl,h,rfl,x,_,rfl,y,_,rfl,z,_,rfl,rfl,q⟩
structure EL(H:Hp)(e:Addr)(cont:Nat->Ln)(ls:List (Nat×Addr)):Prop where
 at_:H e=some (.dK (tW ls))
 nd:(ls.map (·.1)).Nodup
 Jy:(ls.map (·.2)).Nodup
 bd:∀x∈ls,x.1<512
 ent:∀x∈ls,H x.2=some (.lst (kL (cont x.1)))
 out:∀k,k∉ls.map (·.1)->cont k=[]
theorem EL.same{cont:Nat->Ln}(h:EL H e cont ls)(s:aK H H'):EL H' e cont ls:=⟨s _ _ h.at_,h.nd,h.Jy,h.bd,fun x hx=>s _ _ (h.ent x hx),h.out⟩
theorem EL.na{cont:Nat->Ln}(h:EL H e cont ls){x:Nat×Addr}(hx:x∈ls):x.2≠e:=fun z=>by have:=h.ent x hx;rw[z,h.at_]at this;cases this
theorem Ut(nd:(ls.map (·.1)).Nodup)(bd:∀x∈ls,x.1<512):(tW ls).length<=512:=by
 have:=nd.length_le_of_subset (l₂:=bD 512) (fun x hx=>by
  obtain⟨y,hy,rfl⟩:=aE.mp hx
  exact bS.mpr (bd y hy))
 unfold tW
 rw[aA,dU]at this
 rw[aA];exact this
theorem YD(H:Hp)(l:Ln):eZ (NK.at_ H) (kL l) l:=by
 induction l with
 |nil=>exact .nil
 |cons x l ih=>exact .cons rfl ih
theorem P4{cont:Nat->Ln}(h1:Rd H e (.dK (tW ls)))(h2:∀x∈ls,H x.2=some (.lst (kL (cont x.1))))(h3:∀k,k∉ls.map (·.1)->cont k=[]):AF NK H e cont:=by
 intro H' s;have hd:=aK.le s _ _ qV h1;refine⟨tY hd,?_⟩;rintro v x hv;obtain rfl:v=V.int (x:Int):=hv;have hg:=kS hd (aV (x:Int));rcases uT (ls:=ls) x with ⟨q1,q2⟩|⟨b,q1,q2⟩
 .rw[q2]at hg;exact .inl ⟨hg,h3 _ q1⟩
 .rw[q2]at hg;exact .inr ⟨b,_,hg,.inl (h2 _ q1),YD _ _⟩
theorem EL.new{cont:Nat->Ln}(h:EL H e cont ls){s:Nat}(hs:s<512)(hn:s∉ls.map (·.1))(hb:H b=some (.lst []))(M6:b∉ls.map (·.2)):EL (bI H e (.dK (tW (ls++[(s,b)])))) e cont (ls++[(s,b)]):=by
 have Iu:b≠e:=fun z=>by rw[z,h.at_]at hb;cases hb
 refine⟨aC,?_,?_,fun x hx=>?_,fun x hx=>?_,fun k hk=>?_⟩
 .rw[aQ];exact lW h.nd hn
 .rw[aQ];exact lW h.Jy M6
 .rcases aN.mp hx with hx|hx
  .exact h.bd x hx
  .rw[aO.mp hx];exact hs
 .rcases aN.mp hx with hx|hx
  .rw[aH (h.na hx)];exact h.ent x hx
  .rw[aO.mp hx];show bI _ _ _ b=some (.lst (kL (cont s)));rw[h.out _ hn,aH Iu];exact hb
 .rw[aQ,aN,not_or]at hk;exact h.out k hk.1
theorem EL.add{cont:Nat->Ln}(h:EL H e cont ls){y:Nat}(hm:(k,b)∈ls):
  EL (bI H b (.lst (kL (cont k)++[.int (y:Int)]))) e (fun x=>if x=k then cont x++[y]else cont x) ls:=by
 refine⟨by rw[aH (Ne.symm (h.na hm))];exact h.at_,h.nd,h.Jy,h.bd,fun x hx=>?_,fun x hx=>?_⟩
 .by_cases q:x.1=k
  .have:=HJ h.nd hx hm q;subst this;show bI _ b _ b=some (.lst (kL (if k=k then cont k++[y]else cont k)));rw[if_pos rfl,aC];unfold kL;rw[aQ];rfl
  .show bI _ b _ x.2=some (.lst (kL (if x.1=k then cont x.1++[y]else cont x.1)));rw[if_neg q,aH fun z=>q (by rw[HI h.Jy hx hm z])];exact h.ent x hx
 .have:x≠k:=fun z=>hx (by rw[z];exact aE.mpr ⟨_,hm,rfl⟩);rw[if_neg this];exact h.out x hx
def So(H:Hp)(rc:Addr)(R:Nat->Nat->Prop):Prop:=∃kvs,Rd H rc (.dK kvs)/\∀s:Nat,(eO kvs (aV (s:Int))=none/\∀b,¬R s b)∨∃d o ns,eO kvs (aV (s:Int))=some (.ref d)/\(∃b,R s b)/\H d=some (.kN o (NK.ob ns))/\ns.length<=1000/\∀x,x∈ns↔cJ R s x
theorem So.same{rc:Addr}(h:So H rc R)(s:aK H H'):So H' rc R:=by
 obtain⟨kvs,h1,h2⟩:=h;refine⟨kvs,aK.le s _ _ qV h1,fun x=>?_⟩;rcases h2 x with z|⟨d,o,ns,z1,z2,z3,z4⟩
 .exact .inl z
 .exact .inr ⟨d,o,ns,z1,z2,s _ _ z3,z4⟩
def vL(pT:List Sj)(a b:Nat):Prop:=∃l,(a,b,l)∈pT
inductive GB:Sp|mk {vs H Q Z} (pT:List Sj) (a:Addr):vs=[.ref a]->sX H a pT->pT.length<=5000->(∀x∈pT,x.1<512/\x.2.1<512)->(∀H' r,aK H H'->H r=none->So H' r (vL pT)->Q (.ref r) H')->GB vs H Q Z
theorem xy:cB ["steps","edges","left","symbol","neighbours","reach"] ["steps"] (bF (st 47)):=oP
theorem lu(F:lY K "reach_of_steps" "reach_of_steps" (st 47) f fd)(O0:mW P w K mg aT 1 "all_reached" ["edges","first"] (OR NK)):eN P w K mg aT lM 2 f fd ["steps"] GB:=by
 refine oB F xy fun H Q hr h=>?_
 obtain⟨pT,a,rfl,⟨ps,uA,vO⟩,uk,Hn,k⟩:=h
 have nd:=xy.nd
 have hu:=jV hr
 have lg:ps.length=pT.length:=dC vO
 refine⟨_,aJ (sv (i:=1) nd mB)
  (aJ (gR bN rfl (gT (pv 0)) (mP rfl (dF (gv (i:=2) nd) (dF (gv (i:=3) nd) (dF (gv (i:=4) nd) kI))))
   (aU (fM (uY cF eY eX oN (Ep hu (pv 1) (pv 2) (fE aP) ⟨rfl,rfl,rfl,rfl⟩) (aB (pv 3) aP)))))
  (aJ (sv (i:=5) nd mB)
  (aJ (gR bN rfl (En (Ha (pv 1))) (gv (i:=2) nd) (aU (lV hu (pv 5) (pv 2) (Ha (dW O0 hr (aB (pv 1) (aB (pv 2) aP)))) rfl)))
  (aU (cO (pv 5)))))),?_⟩
 intro e he
 refine⟨_,rfl,a,rfl,⟨_,cY (aK.le (aK.upd he) _ _ iP uA)⟩,mG (K:=K) (a:=a) (xs:=ps.map V.ref) (fun i σ H'=>E5 fun v2 v3 v4 cont ls=>A7 (σ=[some (.ref a),some (.ref e),v2,v3,v4,none]) (aK H H') (EL H' e cont ls) (∀x∈ls,H x.2=none)
   (∀x y,y∈cont x↔vL (pT.take i) x y) (∀x,(cont x).length<=i) (∀x,x∈ls.map (·.1)↔∃y,vL (pT.take i) x y))
  ⟨none,none,none,fun _=>[],[],rfl,aK.upd he,⟨aC,by simp,by simp,by simp,by simp,by simp⟩,by simp,by simp[vL],by simp,by simp[vL]⟩ (fun i σ H' _ ⟨_,_,_,_,_,_,s1,_,_,_,_,_⟩=>cY (aK.le s1 _ _ iP uA)) ?_ ?_⟩
 .rintro i x σ H1 hx ⟨v2,v3,v4,cont,ls,rfl,s1,X,Jp,pP,hlen,wI⟩
  obtain⟨p0,ep,rfl⟩:=mQ hx
  obtain⟨Pa,er,q,Cz,yR⟩:=gI vO ep
  have hsm:=aG er
  have hi:i<pT.length:=(aL.mp er).1
  have XD:∀x y,vL (pT.take (i+1)) x y↔vL (pT.take i) x y∨(x=Pa.1/\y=Pa.2.1):=by
   intro x y
   unfold vL
   rw[dM er]
   constructor
   .rintro⟨l,h⟩
    rcases aN.mp h with h|h
    .exact .inl ⟨l,h⟩
    .have:=aO.mp h
     rw[<-this];exact .inr ⟨rfl,rfl⟩
   .rintro(⟨l,h⟩|⟨rfl,rfl⟩)
    .exact⟨l,dA _ h⟩
    .exact⟨Pa.2.2,by simp⟩
  refine O4 (nE (aK.le s1 _ _ Ew Cz)) ?_
  refine⟨_,rfl,e,rfl,tY (.inl X.at_),_,rfl,z0,fun b hb=>?_⟩
  have s2:aK H1 (bI H1 b (.lst [])):=aK.upd hb
  have X2:=X.same s2
  have hbH:H b=none:=aK.free s1 hb
  have M6:b∉ls.map (·.2):=fun mm=>by
   obtain⟨y,hy,e'⟩:=aE.mp mm
   have:=X.ent y hy
   rw[e',hb]at this;cases this
  have Rt:bI H1 b (.lst []) b=some (.lst []):=aC
  have s3:=s1.trans s2
  generalize bI H1 b (.lst [])=H2 at*
  have body:∀(H4:Hp) (Mn:List (Nat×Addr)) (bE:Addr),aK H H4->EL H4 e cont Mn->(∀x∈Mn,H x.2=none)->(Pa.1,bE)∈Mn->(∀x,x∈Mn.map (·.1)↔x∈ls.map (·.1)∨x=Pa.1)->
    (fun x H1=>vo K "list" x H1/\gS (fC 3) oW [some (.ref a),some (.ref e),some (.int Pa.1),some (.int Pa.2.1),some (.ref q),none] H1 fun xs H2=>Tt x xs H2 fun _ H'=>
     E5 fun v2 v3 v4 cont ls=>A7 ([some (V.ref a),some (.ref e),some (.int Pa.1),some (.int Pa.2.1),some (.ref q),none]=[some (V.ref a),some (.ref e),v2,v3,v4,none]) (aK H H') (EL H' e cont ls) (∀x∈ls,H x.2=none)
      (∀x y,y∈cont x↔vL (pT.take (i+1)) x y) (∀x,(cont x).length<=i+1) (∀x,x∈ls.map (·.1)↔∃y,vL (pT.take (i+1)) x y)) (V.ref bE) H4:=by
   intro H4 Mn bE s4 X4 SI VM MK
   have hE:=X4.ent _ VM
   refine⟨.inl ⟨rfl,_,iY.of hE⟩,_,rfl,bE,_,_,rfl,rfl,hE,?_,_,_,_,_,Mn,rfl,aK.then s4 (SI _ VM),X4.add (y:=Pa.2.1) VM,SI,?_,?_,?_⟩
   .rw[fO]
    have:=hlen Pa.1
    exact bV (show(cont Pa.1).length<=5000 by lia) (by decide)
   .intro x y
    rw[XD]
    by_cases qk:x=Pa.1
    .rw[if_pos qk,aN,aO,pP]
     constructor
     .rintro(z|z)
      .exact .inl z
      .exact .inr ⟨qk,z⟩
     .rintro(z|z)
      .exact .inl z
      .exact .inr z.2
    .rw[if_neg qk,pP]
     constructor
     .exact .inl
     .rintro(z|z)
      .exact z
      .exact absurd z.1 qk
   .intro x
    have:=hlen x
    split
    .rw[bA];simp;lia
    .lia
   .intro x
    rw[MK,wI]
    constructor
    .rintro(⟨y,z⟩|z)
     .exact⟨y,(XD _ _).mpr (.inl z)⟩
     .exact⟨Pa.2.1,(XD _ _).mpr (.inr ⟨z,rfl⟩)⟩
    .rintro⟨y,z⟩
     rcases(XD _ _).mp z with z|z
     .exact .inl ⟨y,z⟩
     .exact .inr z.1
  refine .inl ⟨_,aV (Pa.1:Int),X2.at_,rfl,bV (Ut X2.nd X2.bd) (by decide),fun v hv=>?_,fun hv=>?_⟩
  .rcases uT (ls:=ls) Pa.1 with ⟨_,z⟩|⟨bE,uy,z⟩
   .rw[z]at hv;cases hv
   .rw[z]at hv
    cases hv
    exact body H2 ls bE s3 X2 Jp uy fun x=>⟨.inl,fun h=>h.elim id fun h=>by rw[h];exact Ka uy⟩
  .rcases uT (ls:=ls) Pa.1 with ⟨KY,z⟩|⟨bE,uy,z⟩
   .rw[Lm KY z]
    refine body _ (ls++[(Pa.1,b)]) b (aK.then s3 he) (X2.new (Hn _ hsm).1 KY Rt M6) (fun x hx=>?_) (by simp) fun x=>by simp
    rcases aN.mp hx with hx|hx
    .exact Jp x hx
    .rw[aO.mp hx];exact hbH
   .rw[z]at hv;cases hv
 .rintro σ H1 ⟨v2,v3,v4,cont,ls,rfl,s1,X,Jp,pP,hlen,wI⟩;rw[aA,lg]at hlen wI pP;rw[bX]at wI pP;have eR:(fun x y=>y∈cont x)=vL pT:=by funext x y;exact propext (pP x y)
  intro rc KS;have om:rc≠e:=fun z=>by rw[z,X.at_]at KS;cases KS
  have oo:H rc=none:=aK.free s1 KS;have X2:=X.same (aK.upd (o:=.dK []) KS);refine⟨_,rfl,e,_,rfl,X2.at_,trivial,fun o=>⟨e,o,rfl,.inl ⟨_,aC,?_⟩⟩⟩;have s2:SX [e] H1 (bI (bI H1 rc (.dK [])) e (.kN o (.dK (tW ls)))):=(SX.of (aK.upd KS)).trans (SX.upd (by simp));have e2:bI (bI H1 rc (.dK [])) e (.kN o (.dK (tW ls))) e=some (.kN o (.dK (tW ls))):=aC;have r2:bI (bI H1 rc (.dK [])) e (.kN o (.dK (tW ls))) rc=some (.dK []):=by rw[aH om];exact aC
  have l2:∀x∈ls,bI (bI H1 rc (.dK [])) e (.kN o (.dK (tW ls))) x.2=some (.lst (kL (cont x.1))):=fun x hx=>by rw[aH (X2.na hx)];exact X2.ent x hx
  have VG:aK H (bI (bI H1 rc (.dK [])) e (.kN o (.dK (tW ls)))):=SX.same (((SX.of s1 (F:=[e])).trans s2).drop (by simp[he]));generalize bI (bI H1 rc (.dK [])) e (.kN o (.dK (tW ls)))=H2 at*;have l5:∀x∈ls,x.2≠rc:=fun x hx z=>by have:=l2 x hx;rw[z,r2]at this;cases this
  refine Zg (kvs:=tW ls) (d:=e) (o:=o) (fun i σ H'=>E2 fun v2 pX=>A5 (σ=[some (.ref a),some (.ref e),v2,v3,v4,some (.ref rc)]) (SX [rc] H2 H') (H' rc=some (.dK (tW pX))) (pX.map (·.1)=(ls.map (·.1)).take i) (∀x∈pX,∃o ns,H' x.2=some (.kN o (NK.ob ns))/\ns.length<=1000/\∀y,y∈ns↔cJ (vL pT) x.1 y))
   ⟨v2,[],rfl,SX.refl,r2,by simp,by simp⟩ (fun i σ H' _ ⟨_,_,_,sx,_,_,_⟩=>sx _ _ e2 (by simp[Ne.symm om])) ?_ ?_
  .rintro i kk v σ H3 ekk ⟨v2,pX,rfl,sx,SE,DO,Fl⟩ rt bk;obtain⟨x,ex,P0⟩:=dY.mp (by unfold tW at ekk;rw[bT]at ekk;exact ekk);cases P0;have MF:=aG ex;have e3:H3 e=some (.kN o (.dK (tW ls))):=sx _ _ e2 (by simp[Ne.symm om]);have l3:∀x∈ls,H3 x.2=some (.lst (kL (cont x.1))):=fun x hx=>sx _ _ (l2 x hx) (by simp[l5 x hx])
   have hxf:x.1∉pX.map (·.1):=by
    rw[DO];intro m;obtain⟨j,hj⟩:=fD.mp m;rw[List.getElem?_take]at hj;split at hj;case isFalse=>cases hj
    rename_i hj1;have hj2:=hj;have:=Rf X.nd (x:=x.1) (i:=i) (j:=j) (by rw[bT,ex];rfl) hj2;lia
   refine⟨_,rfl,_,rfl,e,.int (x.1:Int),x.1,cont,bD 512,rfl,P4 (.inr ⟨o,e3⟩) l3 X.out,rfl,bS.mpr (X.bd x MF),?_,by rw[dU];decide,fun H4 d ns s4 O9 hd4 ME hre tZ=>?_⟩
   .intro y _ z hz;obtain⟨l,hl⟩:=(pP y z).mp hz;exact bS.mpr (Hn _ hl).2
   .rw[eR]at hre;refine⟨d,_,rfl,hd4,trivial,fun o2=>?_⟩;have pj:d≠rc:=fun z=>by rw[z,SE]at O9;cases O9
    have x6:bI H4 d (.kN o2 (NK.ob ns)) rc=some (.dK (tW pX)):=by rw[aH (Ne.symm pj)];exact s4 _ _ SE
    have hfd:H2 d=none:=by
     cases z:H2 d with
     |none=>rfl
     |some u=>have:=sx _ _ z (by simp[pj]);rw[this]at O9;cases O9
    have hv:eO (tW pX) (aV (x.1:Int))=none:=by
     rcases uT (ls:=pX) x.1 with ⟨_,z⟩|⟨b,hb,_⟩
     .exact z
     .exact absurd (Ka hb) hxf
    have ZD:(tW pX).length<sizeLine:=(by unfold tW;rw[aA,<-aA (f:=(·.1)),DO,dB];have:=Ut X.nd X.bd;unfold tW at this;rw[aA]at this;rw[aA];exact bV (show min i ls.length<=512 by lia) (by decide));refine⟨_,rfl,_,rfl,rc,_,rfl,sL.k (k:=aV (x.1:Int)) x6 ZD,?_⟩;rw[Lm hxf hv];refine⟨_,pX++[(x.1,d)],rfl,(((sx.trans (SX.of s4)).then hfd).trans (SX.upd (by simp))),aC,?_,?_⟩
    .rw[aQ,DO,dM (l:=ls.map (·.1)) (by rw[bT,ex];rfl)];rfl
    .intro y hy;rcases aN.mp hy with hy|hy
     .obtain⟨o3,j8,z1,z2⟩:=Fl y hy;refine⟨o3,j8,?_,z2⟩;have n1:y.2≠rc:=fun z=>by rw[z,SE]at z1;cases z1
      have n2:y.2≠d:=fun z=>by rw[z,O9]at z1;cases z1
      rw[aH n1,aH n2];exact s4 _ _ z1
     .rw[aO.mp hy];refine⟨o2,ns,by show bI _ rc _ d=_;rw[aH pj];exact aC,?_,hre⟩;have:=ME.length_le_of_subset tZ;rw[dU]at this;lia
  .rintro σ H3 ⟨v2,pX,rfl,sx,SE,DO,Fl⟩;rw[show(tW ls).length=(ls.map (·.1)).length by unfold tW;rw[aA,aA],bX]at DO;have ad3:∀x∈[rc],H x=none:=by simp[oo]
   refine⟨_,rfl,k H3 rc (SX.same (((SX.of VG (F:=[rc])).trans sx).drop (by simp[oo]))) oo ⟨_,.inl SE,fun s=>?_⟩⟩;rcases uT (ls:=pX) s with ⟨h1,z⟩|⟨b,hb,z⟩
   .refine .inl ⟨z,fun y hy=>h1 ?_⟩;rw[DO];exact(wI s).mpr ⟨y,hy⟩
   .obtain⟨o3,j8,z1,z2,z3⟩:=Fl _ hb;refine .inr ⟨b,o3,j8,z,(wI s).mp ?_,z1,z2,z3⟩;rw[<-DO];exact Ka hb
noncomputable def mT(p:Prop):Bool:= @decide p (jQ p)
theorem gX{p:Prop}:mT p=true↔p:= @decide_eq_true_iff p (jQ p)
theorem qQ{p:Prop}{b:Bool}(h:b=true↔p):mT p=b:=by rw[nG,gX,h]
theorem Nq{p q:Prop}(h:p↔q):mT p=mT q:=by rw[nG,gX,gX,h]
theorem Kb{β:Type}{ys:List β}{G:V->β->Prop}{v:Nat}(hp:eZ G xs ys)(f:β->V)(hv:vs=[v])(uM:∀R:VK,R (.ref a) H->tl σ H R)(hx:iY K H a xs)(hl:xs.length<=70000)
  (he:∀x y H',G x y->y∈ys->aK H H'->∀R:VK,(∀H4,aK H' H4->R (f y) H4)->te ((jW σ [v]).set v (some x)) H' R)
  (k:∀D H',H D=none->aK H H'->H' D=some (.lst (ys.map f))->Q (.ref D) H'):JH (My K tl) (mF v) Tf te vs σ H Q:=by
 subst hv
 have lg:=dC hp
 refine uM _ ⟨a,rfl,⟨xs,hx⟩,fun D hD=>?_⟩
 refine Ff (K:=K) (a:=a) (xs:=xs) (Qd:=Q (.ref D)) (fun i H'=>aK H H'/\H' D=some (.lst ((ys.take i).map f))) ⟨aK.upd hD,aC⟩ (fun i H' _ h=>h.1.seq hx) ?_ fun H' h=>?_
 .rintro i x H' HL ⟨s1,h1⟩;obtain⟨y,ey,hg⟩:=gI hp HL;refine⟨NP _ _ _,he x y H' hg (aG ey) s1 _ fun H4 s4=>⟨_,s4 _ _ h1,?_,aK.then (s1.trans s4) hD,?_⟩⟩
  .rw[aA,dB];have:i<xs.length:=(aL.mp HL).1;exact cA (show min i ys.length<70001 by lia) (by decide)
  .rw[dM ey,aQ];exact aC
 .rw[lg,bX]at h;exact k D H' hD h.1 h.2
theorem DF{β:Type}{ys:List β}{G:V->β->Prop}{v:Nat}(hp:eZ G xs ys)(pass:β->Bool)(hv:vs=[v])(hvl:v<σ.length)(uM:∀R:VK,R (.ref a) H->tl σ H R)(hx:iY K H a xs)(hl:xs.length<=70000)
  (ht:∀x y H',G x y->y∈ys->aK H H'->∀R:Bool->Hp->Prop,(∀H4,aK H' H4->R (pass y) H4)->tt ((jW σ [v]).set v (some x)) H' R)
  (k:∀D H' Ks,H D=none->aK H H'->H' D=some (.lst Ks)->(∀x∈Ks,x∈xs)->eZ G Ks (ys.filter pass)->Q (.ref D) H'):JH (My K tl) (mF v) tt (fC v) vs σ H Q:=by
 subst hv
 have lg:=dC hp
 refine uM _ ⟨a,rfl,⟨xs,hx⟩,fun D hD=>?_⟩
 refine Ff (K:=K) (a:=a) (xs:=xs) (Qd:=Q (.ref D)) (fun i H'=>aK H H'/\∃Ks,H' D=some (.lst Ks)/\(∀x∈Ks,x∈xs)/\eZ G Ks ((ys.take i).filter pass)) ⟨aK.upd hD,[],aC,by simp,.nil⟩ (fun i H' _ h=>h.1.seq hx) ?_ fun H' h=>?_
 .rintro i x H' HL ⟨s1,Ks,h1,h2,h3⟩;obtain⟨y,ey,hg⟩:=gI hp HL;refine⟨NP _ _ _,ht x y H' hg (aG ey) s1 _ fun H4 s4=>?_⟩;rw[Ac ey];cases SG:pass y with
  |false=>exact qF ⟨s1.trans s4,Ks,s4 _ _ h1,h2,by simpa[SG]using h3⟩
  |true=>
   refine oZ ⟨x,?_,Ks,s4 _ _ h1,?_,aK.then (s1.trans s4) hD,Ks++[x],aC,?_,?_⟩
   .show((σ.set v none).set v (some x))[v]? =some (some x);simp[hvl]
   .rw[dC h3];have:i<xs.length:=(aL.mp HL).1;exact bV (eF _ _) (by rw[dB];exact cA (show min i ys.length<70001 by lia) (by decide))
   .intro z hz;rcases aN.mp hz with hz|hz
    .exact h2 z hz
    .rw[aO.mp hz];exact aG HL
   .simp only[if_true];exact Qp h3 hg
 .obtain⟨s1,Ks,h1,h2,h3⟩:=h;rw[lg,bX]at h3;exact k D H' Ks hD s1 h1 h2 h3
theorem Et{β:Type}{G:Addr->β->Prop}{ps:La}{ys:List β}(h:eZ G ps ys):eZ (fun v y=>∃p,v=V.ref p/\G p y) (ps.map V.ref) ys:=by
 induction h with
 |nil=>exact .nil
 |cons h1 _ ih=>exact .cons ⟨_,rfl,h1⟩ ih
theorem Uc{β:Type}{G:Addr->β->Prop}{ys:List β}(h:eZ (fun v y=>∃p,v=V.ref p/\G p y) xs ys):∃ps:La,xs=ps.map V.ref/\eZ G ps ys:=by
 induction h with
 |nil=>exact⟨[],rfl,.nil⟩
 |cons h1 _ ih=>obtain⟨p,rfl,h1⟩:=h1;obtain⟨ps,rfl,h2⟩:=ih;exact⟨p::ps,rfl,.cons h1 h2⟩
theorem Xy(l:Ln):eZ (fun v (s:Nat)=>v=V.int (s:Int)) (kL l) l:=by
 induction l with
 |nil=>exact .nil
 |cons x l ih=>exact .cons rfl ih
inductive JO:Sp|mk {vs H Q Z} (x:Sj) (R:Nat->Nat->Prop) (p rc:Addr):vs=[.ref p,.ref rc]->Oa H p x->So H rc R->(∃b,R x.1 b)->(∀H',aK H H'->Q (.bl (mT (cJ R x.2.1 x.1))) H')->JO vs H Q Z
inductive OS:Sp|mk {vs H Q Z} (l:Ln) (F:Nat->Option Nat) (kvs:List (iM×V)) (q d:Addr):vs=[.ref q,.ref d]->oU H q l->l.length<=1000->Rd H d (.dK kvs)->yT F kvs->(∀s∈l,∃n,F s=some n)->(∀H',aK H H'->Q (.bl (l.all fun s=>F s==some 0)) H')->OS vs H Q Z
def wV(R:Nat->Nat->Prop)(s:Nat):Prop:=∃b,256<=b/\cJ R s b
inductive XG:Sp|mk {vs H Q Z} (s:Nat) (R:Nat->Nat->Prop) (rc:Addr):vs=[.int (s:Int),.ref rc]->So H rc R->(∀H',aK H H'->Q (.bl (mT (wV R s))) H')->XG vs H Q Z
inductive iz:Sp|mk {vs H Q Z} (l:Ln) (R:Nat->Nat->Prop) (q rc:Addr):vs=[.ref q,.ref rc]->oU H q l->l.length<=1000->So H rc R->(∀H',aK H H'->Q (.bl (mT (∃s∈l,wV R s))) H')->iz vs H Q Z
theorem He{s x:Nat}(h:∀b,¬R s b)(r:cJ R s x):x=s:=by
 induction r with
 |refl=>rfl
 |tail r1 r2 ih=>rw[ih]at r2;exact absurd r2 (h _)
theorem xx:cB ["step","reach"] ["step","reach"] (bF (st 48)):=oP
theorem B2(F:lY K "is_in_circle" "is_in_circle" (st 48) f fd):eN P w K mg aT lM 1 f fd ["step","reach"] JO:=by
 refine oB F xx fun H Q hr h=>?_;obtain⟨x,R,p,rc,rfl,⟨q,hp,_⟩,⟨kvs,KS,Fl⟩,hb,k⟩:=h;have nd:=xx.nd;have hu:=jV hr;refine⟨_,aU (cO (QB (Hb hu (jM Cv (pv 0) cH (fun _ _=>rfl)) (kR hu (pv 1) (jM Cv (pv 0) cH (fun _ _=>rfl)) zX ⟨rfl,rfl,rfl,rfl⟩)) (by with_unfolding_all rfl))),?_⟩;refine⟨_,rfl,p,_,0,_,rfl,rfl,nE hp,rfl,_,rfl,rc,rfl,tY KS,_,rfl,p,_,1,_,rfl,rfl,nE hp,rfl,fun b o du=>?_⟩;have s1:aK H (bI H b (.kN o (.dK []))):=aK.upd du;refine⟨_,kS (aK.le s1 _ _ qV KS) (aV (x.2.1:Int)),?_⟩;rcases Fl x.2.1 with ⟨z1,z2⟩|⟨d,o2,ns,z1,z2,z3,z4,z5⟩
 .rw[z1];refine⟨b,_,rfl,kS (.inr ⟨o,aC⟩) (aV (x.1:Int)),?_⟩;have:=k _ s1;have nr:¬cJ R x.2.1 x.1:=fun z=>by have:=He z2 z;obtain⟨b,hb⟩:=hb;rw[this]at hb;exact absurd hb (z2 b)
  rw[qQ (b:=false) ⟨fun z=>(by cases z),fun z=>absurd z nr⟩]at this;exact this
 .rw[z1];refine⟨d,_,rfl,kS (.inr ⟨o2,s1 _ _ z3⟩) (aV (x.1:Int)),?_⟩;rw[vW (f:=fun(x:Nat)=>(aV (x:Int):iM)) YX ns x.1];have:=k _ s1;by_cases hm:x.1∈ns
  .rw[qQ (b:=true) ⟨fun _=>(z5 _).mp hm,fun _=>rfl⟩]at this;rw[if_pos hm];exact this
  .rw[qQ (b:=false) ⟨fun z=>(by cases z),fun z=>absurd ((z5 _).mpr z) hm⟩]at this;rw[if_neg hm];exact this
theorem xw:cB ["neighbours","lengths","symbol"] ["neighbours","lengths"] (bF (st 49)):=oP
theorem mw(F:lY K "all_make_nothing" "all_make_nothing" (st 49) f fd)(Tp:uO mg):eN P w K mg aT lM 1 f fd ["neighbours","lengths"] OS:=by
 refine oB F xw fun H Q hr h=>?_;obtain⟨l,F',kvs,q,d,rfl,hq,hl,hd,ld,hF,k⟩:=h;have nd:=xw.nd;have hu:=jV hr;refine⟨_,aU (cO (eT (EO rfl) (by rfl) Tp.all Kj (aB (sO (own:=[("symbol",2)]) rfl nd (gT (pv 0)) (iR (by show vK ["neighbours","lengths","symbol"] (bF (st 49)) _ _=true;decide+kernel)) (fun _ _ _ _ _=>gv (i:=2) nd) (fun _ _ _ _ _=>oK) (fun _ _ _ _ _=>GQ pF (nM hu (pv 1) (pv 2) (fun _ _=>rfl)) cH (fU _))) aP))),?_⟩;refine Kb (K:=K) (tl:=fC 0) (te:=NX rEq (Xa (fC 1) (fC 2)) (tC (.int 0))) (vs:=[2]) (σ:=[some (.ref q),some (.ref d),none]) (Q:=fun x H1=>XU K [x] H1 Q) (v:=2) (Xy l) (fun s=>.bl (F' s==some 0)) rfl (fun R h=>⟨_,rfl,h⟩) (cY hq) (by rw[fO];lia) ?_ ?_
 .rintro x s H' rfl hs s1 R hR;obtain⟨n,en⟩:=hF s hs;have hg:=kS (aK.le s1 _ _ qV hd) (aV (s:Int));rw[ld s,en]at hg;refine⟨_,rfl,_,rfl,d,_,rfl,hg,rfl,?_⟩;have:=hR H' (aK.refl _)
  have e:decide (V.int (n:Int)=V.int 0)=(F' s==some 0):=by
   rw[en];by_cases h:n=0
   .subst h;rfl
   .rw[bH (fun z=>h (by injection z with z;lia))];symm;simpa using h
  show R (.bl (decide (V.int (n:Int)=V.int 0))) H';rw[e];exact this
 .intro D H' hD s1 h1;refine⟨D,l.map fun s=>F' s==some 0,rfl,iY.of (by rw[dG];exact h1),?_⟩;have:=k H' s1;rw[show(l.map fun s=>F' s==some 0).all id=l.all fun s=>F' s==some 0 by rw[Hz];rfl];exact this
theorem xu:cB ["symbol","reach","other"] ["symbol","reach"] (bF (st 50)):=oP
theorem A9(F:lY K "makes_more_than_nothing" "makes_more_than_nothing" (st 50) f fd)(Tp:uO mg)(hB:mW P w K mg aT 1 "is_byte" ["symbol"] vY):eN P w K mg aT lM 2 f fd ["symbol","reach"] XG:=by
 refine oB F xu fun H Q hr h=>?_
 obtain⟨s,R,rc,rfl,⟨kvs,KS,Fl⟩,k⟩:=h
 have nd:=xu.nd
 have hu:=jV hr
 refine⟨_,aU (cO (zb (dW hB hr (aB (pv 0) aP)) (kg (eT (Vl rfl) (by rfl) Tp.any Dr (aB (sO (own:=[("other",2)]) rfl nd (En (kR hu (pv 1) (pv 0) zX ⟨rfl,rfl,rfl,rfl⟩)) (iR (by show vK ["symbol","reach","other"] (bF (st 50)) _ _=true;decide+kernel)) (fun _ _ _ _ _=>gv (i:=2) nd) (fun _ _ _ _ _=>oK) (fun _ _ _ _ _=>dW hB hr (aB (pv 2) aP))) aP))))),?_⟩
 refine⟨_,rfl,s,rfl,_,rfl,?_⟩
 by_cases q:256<=s
 .refine gB (bB (by lia)) ?_;have:=k H (aK.refl _);rw[qQ (b:=true) ⟨fun _=>⟨s,q,.refl⟩,fun _=>rfl⟩]at this;exact this
 .refine eE (bH (by lia)) ?_
  refine⟨_,rfl,rc,rfl,tY KS,_,rfl,fun b o du=>?_⟩
  have s1:aK H (bI H b (.kN o (.dK []))):=aK.upd du
  refine⟨_,kS (aK.le s1 _ _ qV KS) (aV (s:Int)),?_⟩
  have lp:∀(H1:Hp) (d:Addr) (o:Obj) (ns:Ln),aK H H1->H1 d=some (.kN o (NK.ob ns))->ns.length<=1000->(wV R s↔∃x∈ns,256<=x)->∀D,H1 D=none->
    ∃W:Nat->Nat->Hp->Prop,(∃m,W 0 m (bI H1 D (.lst [])))/\∀i m H,W i m H->((UN d o (ns.map fun(x:Nat)=>(aV (x:Int),V.bl true))).stop i H/\PR K [V.ref D] H Q)∨((UN d o (ns.map fun(x:Nat)=>(aV (x:Int),V.bl true))).go i H/\∃Nx:Hp->Prop,(∀H',Nx H'->∃m',m'<m/\W (i+1) m' H')/\∀x H',(UN d o (ns.map fun(x:Nat)=>(aV (x:Int),V.bl true))).BL i H x H'->mF 2 x (jW [some (.int s),some (.ref rc),none] [2]) H' fun σ2 H2=>jW σ2 [2]=jW [some (.int s),some (.ref rc),none] [2]/\Tf σ2 H2 fun b H3=>
     if b=true then JJ vY (gS (fC 2) oW) σ2 H3 fun y H4=>∃acc,H4 D=some (.lst acc)/\acc.length<sizeLine/\Nx (bI H4 D (.lst (acc++[y])))else Nx H3):=by
   intro H1 d o ns s1 hd hl hm D hD
   have VO:d≠D:=cK hd hD
   refine GZ (d:=d) (o:=o) (fun i H'=>aK H1 H'/\H' D=some (.lst (((ns.take i).map fun(x:Nat)=>decide (256<=x)).map V.bl))) ⟨aK.upd hD,aC⟩ (fun i H' h=>h.1 _ _ hd) ?_ ?_
   .rintro i kk v H' e ⟨s2,h2⟩
    rw[bT]at e
    obtain⟨x,ex,P0⟩:=dY.mp e
    cases P0
    have U0:i<ns.length:=(aL.mp ex).1
    refine⟨rfl,_,rfl,x,rfl,_,h2,?_,aK.then s2 hD,?_⟩
    .rw[aA,aA,dB]
     exact bV (show min i ns.length<=1000 by lia) (by decide)
    .rw[dM ex,aQ,aQ,aC]
     show some (HO.lst (_++[V.bl (decide ((256:Int)<=x))]))=some (HO.lst (_++[V.bl (decide (256<=x))]))
     have:decide ((256:Int)<=x)=decide (256<=x):=by
      by_cases q2:256<=x
      .rw[bB q2,bB (by lia)]
      .rw[bH q2,bH (by lia)]
     rw[this]
   .rintro H' ⟨s2,h2⟩
    rw[aA,bX]at h2
    refine⟨D,_,rfl,iY.of h2,?_⟩
    have:=k H' (s1.trans s2)
    rw[qQ (b:=(ns.map fun(x:Nat)=>decide (256<=x)).any id)]at this
    .exact this
    .rw[hm,zE,dI]
     constructor
     .rintro⟨x,h1,h3⟩;exact⟨x,h1,aR h3⟩
     .rintro⟨x,h1,h3⟩;exact⟨x,h1,bB h3⟩
  rcases Fl s with ⟨z1,z2⟩|⟨d,o2,ns,z1,z2,z3,z4,z5⟩
  .rw[z1]
   refine⟨b,o,rfl,.inl ⟨[],aC,fun D hD=>?_⟩⟩
   refine lp _ b o [] s1 aC (by simp) ⟨fun⟨y,hy,hr⟩=>?_,by simp⟩ D hD
   rw[He z2 hr]at hy
   exact absurd hy q
  .rw[z1]
   refine⟨d,o2,rfl,.inl ⟨_,s1 _ _ z3,fun D hD=>?_⟩⟩
   refine lp _ d o2 ns s1 (s1 _ _ z3) z4 ?_ D hD
   unfold wV
   constructor
   .rintro⟨y,h1,h2⟩;exact⟨y,(z5 y).mpr h2,h1⟩
   .rintro⟨y,h1,h2⟩;exact⟨y,h2,(z5 y).mp h1⟩
theorem xt:cB ["neighbours","reach","symbol"] ["neighbours","reach"] (bF (st 51)):=oP
theorem zp(F:lY K "some_make_more" "some_make_more" (st 51) f fd)(Tp:uO mg)(hM:mW P w K mg aT 2 "makes_more_than_nothing" ["symbol","reach"] XG):eN P w K mg aT lM 3 f fd ["neighbours","reach"] iz:=by
 refine oB F xt fun H Q hr h=>?_;obtain⟨l,R,q,rc,rfl,hq,hl,KS,k⟩:=h;have nd:=xt.nd;refine⟨_,aU (cO (eT (Vl rfl) (by rfl) Tp.any Dr (aB (sO (own:=[("symbol",2)]) rfl nd (gT (pv 0)) (iR (by show vK ["neighbours","reach","symbol"] (bF (st 51)) _ _=true;decide+kernel)) (fun _ _ _ _ _=>gv (i:=2) nd) (fun _ _ _ _ _=>oK) (fun _ _ _ _ _=>dW hM hr (aB (pv 2) (aB (pv 1) aP)))) aP))),?_⟩;refine Kb (K:=K) (tl:=fC 0) (te:=JJ XG (gS (fC 2) (gS (fC 1) oW))) (vs:=[2]) (σ:=[some (.ref q),some (.ref rc),none]) (Q:=fun x H1=>PR K [x] H1 Q) (v:=2) (Xy l) (fun s=>.bl (mT (wV R s))) rfl (fun R h=>⟨_,rfl,h⟩) (cY hq) (by rw[fO];lia) ?_ ?_
 .rintro x s H' rfl hs s1 R' hR;exact⟨_,rfl,_,rfl,s,R,rc,rfl,KS.same s1,hR⟩
 .intro D H' hD s1 h1;refine⟨D,l.map fun s=>mT (wV R s),rfl,iY.of (by rw[dG];exact h1),?_⟩;have:=k H' s1;rw[qQ (b:=(l.map fun s=>mT (wV R s)).any id)]at this
  .exact this
  .rw[zE,dI];constructor
   .rintro⟨x,h1,h3⟩;exact⟨x,h1,gX.mp h3⟩
   .rintro⟨x,h1,h3⟩;exact⟨x,h1,gX.mpr h3⟩
theorem rj{t:TE}{rest:TS}(h:t σ H fun x H1=>rest D (σ.set i (some x)) H1):Kx (Xb t (mF i)) rest D σ H:=h
theorem o7{X:Cx}(hK:X.K=K):Q8 X (yy K):=by subst hK;exact Cv
def uV(F:Nat->Option Nat)(pT:List Sj):List Sj:=pT.filter fun x=>x.2.2.all fun s=>F s==some 0
inductive GG:Sp|mk {vs H Q Z} (pT:List Sj) (F:Nat->Option Nat) (kvs:List (iM×V)) (a d:Addr):vs=[.ref a,.ref d]->sX H a pT->pT.length<=5000->(∀x∈pT,x.1<512/\x.2.1<512)->(∀x∈pT,x.2.2.length<=1000/\∀s∈x.2.2,∃n,F s=some n)->Rd H d (.dK kvs)->yT F kvs->(∀H',aK H H'->Q (.bl (mT (∃x∈uV F pT,cJ (vL (uV F pT)) x.2.1 x.1))) H')->GG vs H Q Z
inductive Xi:Sp|mk {vs H Q Z} (pT:List Sj) (R:Nat->Nat->Prop) (a rc:Addr):vs=[.ref a,.ref rc]->sX H a pT->pT.length<=5000->(∀x∈pT,x.2.2.length<=1000)->(∀x∈pT,∃b,R x.1 b)->So H rc R->(∀H',aK H H'->Q (.bl (mT (∃x∈pT,(∃s∈x.2.2,wV R s)/\cJ R x.2.1 x.1))) H')->Xi vs H Q Z
theorem xr:cB ["steps","lengths","still","reach","step"] ["steps","lengths"] (bF (st 52)):=oP
theorem mj(F:lY K "has_endless_trees" "has_endless_trees" (st 52) f fd)(Tp:uO mg)(hA:mW P w K mg aT 1 "all_make_nothing" ["neighbours","lengths"] OS)(hR:mW P w K mg aT 2 "reach_of_steps" ["steps"] GB)(hI:mW P w K mg aT 1 "is_in_circle" ["step","reach"] JO):eN P w K mg aT lM 3 f fd ["steps","lengths"] GG:=by
 refine oB F xr fun H Q hr h=>?_
 obtain⟨pT,F',kvs,a,d,rfl,⟨ps,uA,vO⟩,uk,Hn,ur,hd,ld,k⟩:=h
 have nd:=xr.nd
 have yJ:=hr.mono (show 1<=2 by decide)
 have lg:ps.length=pT.length:=dC vO
 refine⟨_,aJ (Lp (i:=2) (own:=[("step",4)]) rfl nd rfl rfl (Th rfl rfl rfl (by decide+kernel)) (gT (pv 0)) (iR (by show vK ["steps","lengths","still","reach","step"] (bF (st 52)) _ _=true;decide+kernel)) (fun _ _ _ _ _=>gv (i:=4) nd) (fun _ _ _ _ _=>Ax (nF (dW hA yJ (aB (jM (o7 (K:=K) rfl) (pv 4) cH (fun _ _=>rfl)) (aB (pv 1) aP))))) (fun _ _ _ _ _=>pv 4))
  (aJ (Tx (i:=3) nd rfl (yC rfl) (dW hR hr (aB (pv 2) aP)))
  (aU (cO (eT (Vl rfl) (by rfl) Tp.any Dr (aB (sO (own:=[("step",4)]) rfl nd (gT (pv 2)) (iR (by show vK ["steps","lengths","still","reach","step"] (bF (st 52)) _ _=true;decide+kernel)) (fun _ _ _ _ _=>gv (i:=4) nd) (fun _ _ _ _ _=>oK) (fun _ _ _ _ _=>dW hI yJ (aB (pv 4) (aB (pv 3) aP)))) aP))))),?_⟩
 refine rj ?_
 refine DF (K:=K) (v:=4) (σ:=[some (.ref a),some (.ref d),none,none,none]) (Et vO) (fun x=>x.2.2.all fun s=>F' s==some 0) rfl (by simp) (fun R h=>⟨_,rfl,h⟩) (cY uA) (by rw[aA];lia) ?_ ?_
 .rintro v x H' ⟨p,rfl,q,Cz,yR⟩ hx s1 R hR;obtain⟨n1,n2⟩:=ur x hx;exact⟨_,rfl,p,_,2,_,rfl,rfl,nE (aK.le s1 _ _ Ew Cz),rfl,_,rfl,x.2.2,F',kvs,q,d,rfl,yR.le (aK.le s1),n1,aK.le s1 _ _ qV hd,ld,n2,fun H4 s4=>⟨_,rfl,hR H4 s4⟩⟩
 .intro D H1 Ks hD s1 N8 _ MI;obtain⟨ps1,rfl,SF⟩:=Uc MI;have lg1:=dC SF;have sl1:(uV F' pT).length<=5000:=bK (eF _ _) uk;have hS1:sX H1 D (uV F' pT):=⟨ps1,.inl N8,Paired.qE SF fun _ _ z=>z.le (aK.le s1)⟩;refine⟨_,rfl,uV F' pT,D,rfl,hS1,sl1,fun x hx=>Hn x (aM.mp hx).1,fun H2 rc s2 _ ZN=>?_⟩;obtain⟨Xt,DK,KU⟩:=hS1.le (aK.le s2);have lg2:=dC KU;refine Kb (K:=K) (tl:=fC 2) (te:=JJ JO (gS (fC 4) (gS (fC 3) oW))) (vs:=[4]) (σ:=[some (.ref a),some (.ref d),some (.ref D),some (.ref rc),none]) (Q:=fun x H1=>PR K [x] H1 Q) (v:=4) (Et KU) (fun x=>.bl (mT (cJ (vL (uV F' pT)) x.2.1 x.1))) rfl (fun R h=>⟨_,rfl,h⟩) (cY DK) (by rw[aA];lia) ?_ ?_
  .rintro v x H' ⟨p,rfl,Wh⟩ hx s3 R' hR;exact⟨_,rfl,_,rfl,x,_,p,rc,rfl,Wh.le (aK.le s3),ZN.same s3,⟨x.2.1,x.2.2,hx⟩,hR⟩
  .intro D2 H' hD2 s3 h1;refine⟨D2,(uV F' pT).map fun x=>mT (cJ (vL (uV F' pT)) x.2.1 x.1),rfl,iY.of (by rw[dG];exact h1),?_⟩;have:=k H' (s1.trans (s2.trans s3));rw[qQ (b:=((uV F' pT).map fun x=>mT (cJ (vL (uV F' pT)) x.2.1 x.1)).any id)]at this
   .exact this
   .rw[zE,dI];constructor
    .rintro⟨x,h1,h3⟩;exact⟨x,h1,gX.mp h3⟩
    .rintro⟨x,h1,h3⟩;exact⟨x,h1,gX.mpr h3⟩
theorem xq:cB ["steps","reach","growing","step"] ["steps","reach"] (bF (st 53)):=oP
theorem mh(F:lY K "has_endless_texts" "has_endless_texts" (st 53) f fd)(Tp:uO mg)(hS:mW P w K mg aT 3 "some_make_more" ["neighbours","reach"] iz)(hI:mW P w K mg aT 1 "is_in_circle" ["step","reach"] JO):eN P w K mg aT lM 4 f fd ["steps","reach"] Xi:=by
 refine oB F xq fun H Q hr h=>?_
 obtain⟨pT,R,a,rc,rfl,⟨ps,uA,vO⟩,uk,ur,hex,ZN,k⟩:=h
 have nd:=xq.nd
 have yJ:=hr.mono (show 1<=3 by decide)
 have lg:ps.length=pT.length:=dC vO
 refine⟨_,aJ (Lp (i:=2) (own:=[("step",3)]) rfl nd rfl rfl (Th rfl rfl rfl (by decide+kernel)) (gT (pv 0)) (iR (by show vK ["steps","reach","growing","step"] (bF (st 53)) _ _=true;decide+kernel)) (fun _ _ _ _ _=>gv (i:=3) nd) (fun _ _ _ _ _=>Ax (nF (dW hS hr (aB (jM (o7 (K:=K) rfl) (pv 3) cH (fun _ _=>rfl)) (aB (pv 1) aP))))) (fun _ _ _ _ _=>pv 3))
  (aU (cO (eT (Vl rfl) (by rfl) Tp.any Dr (aB (sO (own:=[("step",3)]) rfl nd (gT (pv 2)) (iR (by show vK ["steps","reach","growing","step"] (bF (st 53)) _ _=true;decide+kernel)) (fun _ _ _ _ _=>gv (i:=3) nd) (fun _ _ _ _ _=>oK) (fun _ _ _ _ _=>dW hI yJ (aB (pv 3) (aB (pv 1) aP)))) aP)))),?_⟩
 refine rj ?_
 refine DF (K:=K) (v:=3) (σ:=[some (.ref a),some (.ref rc),none,none]) (Et vO) (fun x=>mT (∃s∈x.2.2,wV R s)) rfl (by simp) (fun R h=>⟨_,rfl,h⟩) (cY uA) (by rw[aA];lia) ?_ ?_
 .rintro v x H' ⟨p,rfl,q,Cz,yR⟩ hx s1 R' hR;exact⟨_,rfl,p,_,2,_,rfl,rfl,nE (aK.le s1 _ _ Ew Cz),rfl,_,rfl,x.2.2,R,q,rc,rfl,yR.le (aK.le s1),ur x hx,ZN.same s1,fun H4 s4=>⟨_,rfl,hR H4 s4⟩⟩
 .intro D H1 Ks hD s1 N8 _ MI;obtain⟨ps1,rfl,SF⟩:=Uc MI;have lg1:=dC SF;have sl1:=eF (fun x:Sj=>mT (∃s∈x.2.2,wV R s)) pT;refine Kb (K:=K) (tl:=fC 2) (te:=JJ JO (gS (fC 3) (gS (fC 1) oW))) (vs:=[3]) (σ:=[some (.ref a),some (.ref rc),some (.ref D),none]) (Q:=fun x H1=>PR K [x] H1 Q) (v:=3) (Et SF) (fun x=>.bl (mT (cJ R x.2.1 x.1))) rfl (fun R h=>⟨_,rfl,h⟩) (iY.of N8) (by rw[aA];lia) ?_ ?_
  .rintro v x H' ⟨p,rfl,Wh⟩ hx s3 R' hR;exact⟨_,rfl,_,rfl,x,R,p,rc,rfl,Wh.le (aK.le (s1.trans s3)),ZN.same (s1.trans s3),hex x (aM.mp hx).1,hR⟩
  .intro D2 H' hD2 s3 h1;refine⟨D2,(pT.filter fun x=>mT (∃s∈x.2.2,wV R s)).map fun x=>mT (cJ R x.2.1 x.1),rfl,iY.of (by rw[dG];exact h1),?_⟩;have:=k H' (s1.trans s3);rw[qQ (b:=((pT.filter fun x=>mT (∃s∈x.2.2,wV R s)).map fun x=>mT (cJ R x.2.1 x.1)).any id)]at this
   .exact this
   .rw[zE,dI];constructor
    .rintro⟨x,h1,h3⟩;obtain⟨h1,h2⟩:=aM.mp h1;exact⟨x,h1,gX.mp h2,gX.mp h3⟩
    .rintro⟨x,h1,h2,h3⟩;exact⟨x,aM.mpr ⟨h1,gX.mpr h2⟩,gX.mpr h3⟩
noncomputable def Mv(g:Lr)(s:Nat):Nat:=if mT (Tw.Mk g s)=true then 1+(if mT (Tw.Em g s)=true then 2 else 0)+(if mT (∃a,cJ (Tw.kW g) s a/\∃b,Tw.sZ g a b/\cJ (Tw.sZ g) b a)=true then 4 else 0)+(if mT (∃a,cJ (Tw.kW g) s a/\∃b,Tw.AY g a b/\cJ (Tw.kW g) b a)=true then 8 else 0)else 0
inductive jf:Sp|mk {vs H Q Z} (g:Lr) (s:Nat) (a:Addr):vs=[.ref a,.int (s:Int)]->WF g->g.length<=128->(∀r∈g,r.right.length<=16)->s<512->fZ H a g->(∀H',aK H H'->Q (.int (Mv g s:Int)) H')->jf vs H Q Z
theorem xp:cB ["rules","symbol","lengths","steps","reach","within","steps_within","kind","step"] ["rules","symbol"] (bF (st 54)):=oP
theorem B1(F:lY K "kind_of_symbol" "kind_of_symbol" (st 54) f fd)(Tp:uO mg)(N4:mW P w K mg aT 3 "shortest_lengths" ["rules"] OH)(N5:mW P w K mg aT 2 "rules_of_some_tree" ["rules","lengths"] Xh)(hSD:mW P w K mg aT 1 "steps_down" ["rules"] ja)
  (hR:mW P w K mg aT 2 "reach_of_steps" ["steps"] GB) (hTr:mW P w K mg aT 3 "has_endless_trees" ["steps","lengths"] GG) (hTx:mW P w K mg aT 4 "has_endless_texts" ["steps","reach"] Xi):eN P w K mg aT lM 5 f fd ["rules","symbol"] jf:=by
 refine oB F xp fun H Q hr h=>?_
 obtain⟨g,s,a,rfl,wf,Vb,Bc,hs,hG,k⟩:=h
 have nd:=xp.nd
 have hu:=jV hr
 have yJ:=hr.mono (show 1<=4 by decide)
 have Uy:=hr.mono (show 2<=4 by decide)
 have Pk:=hr.mono (show 3<=4 by decide)
 refine⟨_,aJ (sv (i:=2) nd (dW N4 Pk (aB (pv 0) aP)))
  (aJ (gN (sG (pV hu (pv 1) (pv 2)) (by with_unfolding_all rfl)) (aU (cO cH)) dX)
  (aJ (sv (i:=3) nd (dW hSD yJ (aB (dW N5 Uy (aB (pv 0) (aB (pv 2) aP))) aP)))
  (aJ (sv (i:=4) nd (dW hR Uy (aB (pv 3) aP)))
  (aJ (Tx (i:=5) nd rfl (yC rfl) (kR hu (pv 4) (pv 1) zX ⟨rfl,rfl,rfl,rfl⟩))
  (aJ (Lp (i:=6) (own:=[("step",8)]) rfl nd rfl rfl (Th rfl rfl rfl (by decide+kernel)) (gT (pv 3)) (iR (by show vK ["rules","symbol","lengths","steps","reach","within","steps_within","kind","step"] (bF (st 54)) _ _=true;decide+kernel)) (fun _ _ _ _ _=>gv (i:=8) nd) (fun _ _ _ _ _=>Ax (sG (Hb hu (jM (o7 (K:=K) rfl) (pv 8) cH (fun _ _=>rfl)) (pv 5)) (by with_unfolding_all rfl))) (fun _ _ _ _ _=>pv 8))
  (aJ (sv (i:=7) nd (fB Tp.OU))
  (aJ (gN (eM pF (nM hu (pv 2) (pv 1) (fun _ _=>rfl)) cH (fU _)) (aU (av (i:=7) nd (fB Tp.LI) Cy)) dX)
  (aJ (gN (nF (dW hTr Pk (aB (pv 6) (aB (pv 2) aP)))) (aU (av (i:=7) nd (fB Tp.Vg) Cy)) dX)
  (aJ (gN (nF (dW hTx hr (aB (pv 6) (aB (pv 4) aP)))) (aU (av (i:=7) nd (fB Tp.Vh) Cy)) dX)
  (aU (cO (pv 7)))))))))))),?_⟩
 refine⟨_,rfl,g,a,rfl,wf,fun r hr=>bK (Bc r hr) (by decide),hG,fun H1 dl L kvs s1 _ MM _ uz lo=>?_⟩
 have hg1:=kS (.inl MM) (aV (s:Int))
 rw[uz s]at hg1
 refine⟨_,rfl,_,rfl,dl,_,rfl,hg1,_,rfl,?_⟩
 cases Jp:L s with
 |none=>refine oZ ?_;have:=k H1 s1;unfold Mv at this;rw[qQ (p:=Tw.Mk g s) (b:=false) ⟨fun z=>(by cases z),fun z=>by rw[<-lo.Hf hs,Jp]at z;cases z⟩,if_neg (by decide)]at this;exact this
 |some n0=>
 refine qF ?_
 refine⟨_,rfl,_,rfl,g,L,kvs,a,dl,rfl,fun r hr=>bK (Bc r hr) (by decide),by lia,hG.le (aK.le s1),.inl MM,uz,fun H2 u s2 _ hU=>?_⟩
 have ZM:(g.filter fun x=>(jL L x.right).isSome).length<=128:=bK (eF _ _) Vb
 have hUr:∀r∈(g.filter fun x=>(jL L x.right).isSome),r.right.length<=16:=fun r hr=>Bc r (aM.mp hr).1
 refine⟨_,u,rfl,hU,ZM,hUr,fun H3 sd s3 _ hSt=>?_⟩
 have Wh:∀x:Sj,x∈nI (g.filter fun x=>(jL L x.right).isSome)↔Tw.yA g x.1 x.2.1 x.2.2:=by
  intro x;rw[Yn];unfold Tw.yA;constructor
  .rintro⟨r,h1,h2,h3⟩;exact⟨r,(Fm wf lo).mp h1,h2,h3⟩
  .rintro⟨r,h1,h2,h3⟩;exact⟨r,(Fm wf lo).mpr h1,h2,h3⟩
 have stl:(nI (g.filter fun x=>(jL L x.right).isSome)).length<=5000:=bK (Ic hUr) (by lia)
 generalize nI (g.filter fun x=>(jL L x.right).isSome)=pT at*
 have eR:vL pT=Tw.sR g:=by
  funext x y;rw[eq_iff_iff,Tw.tQ];unfold vL;constructor
  .rintro⟨l,h⟩;exact⟨l,(Wh _).mp h⟩
  .rintro⟨l,h⟩;exact⟨l,(Wh (x,y,l)).mpr h⟩
 have uB:∀x∈pT,x.1<512/\x.2.1<512/\x.2.2.length<=16/\(∀y∈x.2.2,y<512/\∃n,L y=some n):=by
  intro x hx;obtain⟨r,h1,h2,l1,l2,h3,h4⟩:=(Wh x).mp hx;have w1:=wf r h1.1;refine⟨by rw[<-h2];have:=w1.1;lia,w1.2 _ (by rw[h3];simp),?_,fun y hy=>?_⟩
  .have:=Bc r h1.1;rw[h3]at this;rw[h4];simp at this ⊢;lia
  .have p4:y∈r.right:=by rw[h3];rw[h4]at hy;rcases aN.mp hy with hy|hy<;>simp[hy]
   exact⟨w1.2 y p4,fR.mp ((lo.Hf (w1.2 y p4)).mpr (h1.2 y p4))⟩
 refine⟨_,rfl,pT,sd,rfl,hSt,stl,fun x hx=>⟨(uB x hx).1,(uB x hx).2.1⟩,fun H4 rc s4 _ ZN=>?_⟩
 rw[eR]at ZN
 obtain⟨kr,x5,Fl⟩:=ZN
 have ZN:So H4 rc (Tw.sR g):=⟨kr,x5,Fl⟩
 refine⟨_,rfl,rc,rfl,tY x5,_,rfl,fun b o du=>?_⟩
 have s5:aK H4 (bI H4 b (.kN o (.dK []))):=aK.upd du
 have M8:bI H4 b (.kN o (.dK [])) b=some (.kN o (.dK [])):=aC
 generalize bI H4 b (.kN o (.dK []))=H5 at*
 refine⟨_,kS (aK.le s5 _ _ qV x5) (aV (s:Int)),?_⟩
 have wi:∃d o ns,(eO kr (aV (s:Int))).getD (.ref b)=V.ref d/\H5 d=some (.kN o (NK.ob ns))/\∀x,(∃y,Tw.sR g x y)->(x∈ns↔cJ (Tw.sR g) s x):=by
  rcases Fl s with ⟨z1,z2⟩|⟨d,o2,ns,z1,z2,z3,z4,z5⟩
  .refine⟨b,o,[],by rw[z1];rfl,M8,fun x ⟨y,hy⟩=>⟨fun h=>by simp at h,fun h=>?_⟩⟩;rw[He z2 h]at hy;exact absurd hy (z2 y)
  .exact⟨d,o2,ns,by rw[z1];rfl,s5 _ _ z3,fun x _=>z5 x⟩
 obtain⟨wd,ow,ns,ew,uh,L3⟩:=wi
 rw[ew]
 obtain⟨ps5,y6,K2⟩:=hSt.le (aK.le (s4.trans s5))
 have lg5:=dC K2
 dsimp only[mF]
 refine rj ?_
 refine DF (K:=K) (v:=8) (σ:=[some (.ref a),some (.int s),some (.ref dl),some (.ref sd),some (.ref rc),some (.ref wd),none,none,none]) (Et K2) (fun x=>decide (x.1∈ns)) rfl (by simp) (fun R h=>⟨_,rfl,h⟩) (cY y6) (by rw[aA];lia) ?_ ?_
 .rintro v x H' ⟨p,rfl,q,Cz,yR⟩ hx s6 R hR;refine⟨_,rfl,p,_,0,_,rfl,rfl,nE (aK.le s6 _ _ Ew Cz),rfl,_,rfl,wd,_,rfl,kS (.inr ⟨ow,s6 _ _ uh⟩) (aV (x.1:Int)),_,rfl,?_⟩;rw[vW (f:=fun(x:Nat)=>(aV (x:Int):iM)) YX ns x.1];have:=hR H' (aK.refl _);by_cases hm:x.1∈ns
  .rw[bB hm]at this;rw[if_pos hm];exact this
  .rw[bH hm]at this;rw[if_neg hm];exact this
 .intro D H6 Ks hD s6 hD6 _ hp6;obtain⟨ps6,rfl,y9⟩:=Uc hp6
  have hwi:∀x,x∈pT.filter (fun x=>decide (x.1∈ns))↔Tw.yA g x.1 x.2.1 x.2.2/\cJ (Tw.sR g) s x.1:=by
   intro x;rw[aM,Wh,decide_eq_true_iff];constructor
   .rintro⟨h1,h2⟩;exact⟨h1,(L3 _ ⟨_,Tw.tQ.mpr ⟨_,h1⟩⟩).mp h2⟩
   .rintro⟨h1,h2⟩;exact⟨h1,(L3 _ ⟨_,Tw.tQ.mpr ⟨_,h1⟩⟩).mpr h2⟩
  have tZ:∀x∈pT.filter (fun x=>decide (x.1∈ns)),x∈pT:=fun x hx=>(aM.mp hx).1;have wl:(pT.filter (fun x=>decide (x.1∈ns))).length<=5000:=bK (eF _ _) stl;have hS6:sX H6 D (pT.filter (fun x=>decide (x.1∈ns))):=⟨ps6,.inl hD6,Paired.qE y9 fun _ _ z=>z.le (aK.le s6)⟩;generalize pT.filter (fun x=>decide (x.1∈ns))=tf at*;have s16:=s2.trans (s3.trans (s4.trans (s5.trans s6)));have L9:=s16 _ _ MM;have hg6:=kS (.inl L9) (aV (s:Int));rw[uz s,Jp]at hg6;have aa2:=ZN.same (s5.trans s6)
  have fin:∀k1:Int,k1=1+(if mT (Tw.Em g s)=true then 2 else 0)->
    Kx (JI (tB (JJ GG (gS (fC 6) (gS (fC 2) oW)))) (JK 7 (tC (.int 4)) (ue fun i j=>i+j)) Qm) (Kx (JI (tB (JJ Xi (gS (fC 6) (gS (fC 4) oW)))) (JK 7 (tC (.int 8)) (ue fun i j=>i+j)) Qm) (Jm (fC 7))) ⟨fun x H'=>Q V.iU H',Q,fun _ _=>False,fun _ _=>False⟩ [some (.ref a),some (.int s),some (.ref dl),some (.ref sd),some (.ref rc),some (.ref wd),some (.ref D),some (.int k1),none] H6:=by
   intro k1 dr
   refine⟨_,rfl,_,rfl,tf,L,kvs,D,dl,rfl,hS6,wl,fun x hx=>⟨(uB x (tZ x hx)).1,(uB x (tZ x hx)).2.1⟩,fun x hx=>⟨by have:=(uB x (tZ x hx)).2.2.1;lia,fun y hy=>((uB x (tZ x hx)).2.2.2 y hy).2⟩,.inl L9,uz,fun H7 s7=>⟨_,rfl,?_⟩⟩
   have tr:mT (∃x∈uV L tf,cJ (vL (uV L tf)) x.2.1 x.1)=mT (∃a,cJ (Tw.kW g) s a/\∃b,Tw.sZ g a b/\cJ (Tw.sZ g) b a):=by
    refine Nq ?_;rw[<-Tw.KN wf (vL (uV L tf))]
    .constructor
     .rintro⟨x,h1,h2⟩;exact⟨x.1,x.2.1,⟨x.2.2,h1⟩,h2⟩
     .rintro⟨x,y,⟨l,h1⟩,h2⟩;exact⟨(x,y,l),h1,h2⟩
    .intro x y;unfold vL uV;constructor
     .rintro⟨l,h⟩;obtain⟨h1,h2⟩:=aM.mp h;obtain⟨h3,h4⟩:=(hwi _).mp h1;refine⟨l,h3,h4,fun z hz=>?_⟩;have:=cX.mp h2 z hz;rw[beq_iff_eq]at this;exact(lo.Vi ((uB _ (tZ _ h1)).2.2.2 z hz).1).mp this
     .rintro⟨l,h3,h4,h5⟩;have h1:=(hwi (x,y,l)).mpr ⟨h3,h4⟩;refine⟨l,aM.mpr ⟨h1,cX.mpr fun z hz=>?_⟩⟩;rw[beq_iff_eq];exact(lo.Vi ((uB _ (tZ _ h1)).2.2.2 z hz).1).mpr (h5 z hz)
   rw[tr]
   have tx:mT (∃x∈tf,(∃s∈x.2.2,wV (Tw.sR g) s)/\cJ (Tw.sR g) x.2.1 x.1)=mT (∃a,cJ (Tw.kW g) s a/\∃b,Tw.AY g a b/\cJ (Tw.kW g) b a):=by
    refine Nq ?_;rw[<-Tw.KL wf];constructor
    .rintro⟨x,h1,⟨y,hy1,hy2⟩,h2⟩;obtain⟨h3,h4⟩:=(hwi _).mp h1;exact⟨x.1,x.2.1,x.2.2,h3,h4,⟨y,hy1,(Tw.TC wf ((uB _ (tZ _ h1)).2.2.2 y hy1).1).mpr hy2⟩,h2⟩
    .rintro⟨x,y,l,h3,h4,⟨z,hz1,T3⟩,h2⟩;have h1:=(hwi (x,y,l)).mpr ⟨h3,h4⟩;exact⟨(x,y,l),h1,⟨z,hz1,(Tw.TC wf ((uB _ (tZ _ h1)).2.2.2 z hz1).1).mp T3⟩,h2⟩
   have O8:∀k2:Int,k2=k1+(if mT (∃a,cJ (Tw.kW g) s a/\∃b,Tw.sZ g a b/\cJ (Tw.sZ g) b a)=true then 4 else 0)->
     Kx (JI (tB (JJ Xi (gS (fC 6) (gS (fC 4) oW)))) (JK 7 (tC (.int 8)) (ue fun i j=>i+j)) Qm) (Jm (fC 7)) ⟨fun x H'=>Q V.iU H',Q,fun _ _=>False,fun _ _=>False⟩ [some (.ref a),some (.int s),some (.ref dl),some (.ref sd),some (.ref rc),some (.ref wd),some (.ref D),some (.int k2),none] H7:=by
    intro k2 Ir
    refine⟨_,rfl,_,rfl,tf,Tw.sR g,D,rc,rfl,hS6.le (aK.le s7),wl,fun x hx=>by have:=(uB x (tZ x hx)).2.2.1;lia,fun x hx=>⟨_,Tw.tQ.mpr ⟨_,((hwi x).mp hx).1⟩⟩,aa2.same s7,fun H8 s8=>⟨_,rfl,?_⟩⟩
    rw[tx]
    have:=k H8 (s1.trans (s16.trans (s7.trans s8)))
    unfold Mv at this
    rw[qQ (p:=Tw.Mk g s) (b:=true) ⟨fun _=>(lo.Hf hs).mp (by rw[Jp];rfl),fun _=>rfl⟩,if_pos rfl]at this
    cases hc:mT (∃a,cJ (Tw.kW g) s a/\∃b,Tw.AY g a b/\cJ (Tw.kW g) b a)with
    |true=>
     refine oZ ⟨_,rfl,_,_,rfl,rfl,_,rfl,?_⟩;rw[hc]at this
     have e:(k2+8:Int)=((1+(if mT (Tw.Em g s)=true then 2 else 0)+(if mT (∃a,cJ (Tw.kW g) s a/\∃b,Tw.sZ g a b/\cJ (Tw.sZ g) b a)=true then 4 else 0)+(if true=true then 8 else 0):Nat):Int):=by
      rw[Ir,dr];repeat' split
      all_goals first|rfl|contradiction
     show Q (.int (k2+8)) H8;rw[e];exact this
    |false=>
     refine qF ⟨_,rfl,?_⟩;rw[hc]at this
     have e:k2=((1+(if mT (Tw.Em g s)=true then 2 else 0)+(if mT (∃a,cJ (Tw.kW g) s a/\∃b,Tw.sZ g a b/\cJ (Tw.sZ g) b a)=true then 4 else 0)+(if false=true then 8 else 0):Nat):Int):=by
      rw[Ir,dr];repeat' split
      all_goals first|rfl|contradiction
     rw[e];exact this
   cases hc:mT (∃a,cJ (Tw.kW g) s a/\∃b,Tw.sZ g a b/\cJ (Tw.sZ g) b a)with
   |true=>exact oZ ⟨_,rfl,_,_,rfl,rfl,O8 (k1+4) (by rw[hc];rfl)⟩
   |false=>exact qF (O8 k1 (by rw[hc];simp))
  refine⟨_,rfl,_,rfl,dl,_,rfl,hg6,rfl,_,rfl,?_⟩;by_cases q:n0=0
  .refine gB (bB (by rw[q];rfl)) ⟨_,rfl,_,_,rfl,rfl,fin (1+2) ?_⟩;rw[gX.mpr ((lo.Vi hs).mp (by rw[Jp,q])),if_pos rfl]
  .refine eE (bH (fun z=>q (by injection z with z;lia))) (fin 1 ?_);rw[qQ (p:=Tw.Em g s) (b:=false) ⟨fun z=>(by cases z),fun z=>by rw[<-lo.Vi hs,Jp]at z;exact absurd (bC z) q⟩];rfl
theorem ZP{g:TG}{tb:TS}(Pv:Nat->L2.St->Hp->Prop)(h0:Pv 0 σ H)(hl:∀i σ H,i<=xs.length->Pv i σ H->iY K H a xs)
  (hs:∀i x σ H,i<xs.length->xs[xs.length-1-i]? =some x->Pv i σ H->g x σ H fun σ2 H2=>tb {D with nx:=Pv (i+1),ct:=Pv (i+1),bk:=D.nx} σ2 H2) (hd:∀σ H,Pv xs.length σ H->D.nx σ H):
  ∃W:Nat->Nat->L2.St->Hp->Prop,(∃m,W 0 m σ H)/\∀i m σ H,W i m σ H->
   ((Q9 K a xs.length).stop i H/\D.nx σ H)∨((Q9 K a xs.length).go i H/\∃N:L2.St->Hp->Prop,(∀σ' H',N σ' H'->∃m',m'<m/\W (i+1) m' σ' H')/\∀x H',(Q9 K a xs.length).BL i H x H'->g x σ H' fun σ2 H2=>tb {D with nx:=N,ct:=N,bk:=D.nx} σ2 H2):=by
 refine⟨fun i m σ H=>m=xs.length-i/\i<=xs.length/\Pv i σ H,⟨xs.length,by simp,cI _,h0⟩,?_⟩
 rintro i m σ H ⟨rfl,hi,p⟩
 have q:=hl i σ H hi p
 by_cases oT:i<xs.length
 .refine .inr ⟨⟨oT,xs,xs[xs.length-1-i],q,by simp[show xs.length-1-i<xs.length by lia]⟩,Pv (i+1),fun σ' H' p'=>⟨xs.length-(i+1),by lia,rfl,oT,p'⟩,fun x H' y=>?_⟩;obtain⟨e,y⟩:=y;subst e;exact hs i x σ _ oT (y xs q) p
 .have e:i=xs.length:=by lia
  subst e;exact .inl ⟨aY _,hd σ H p⟩
theorem DW.bI{w:Nat->Cn}(h:DW n H d w)(ha:H a=some (.lst xs)):DW n (bI H a o) d w:=by
 obtain⟨js,h1,h2⟩:=h;refine⟨js,h1,?_⟩;have:d≠a:=fun z=>by rw[z]at h2;rcases h2 with h2|⟨o,h2⟩<;>rw[ha]at h2<;>cases h2
 unfold Rd;rw[aH this];exact h2
theorem Ao.bI{f:Nat->Nat->Cn}(h:Ao n H b f)(ha:H a=some (.lst xs))(hb:b≠a):Ao n (bI H a o) b f:=by obtain⟨ds,h1,h2,h3⟩:=h;refine⟨ds,?_,h2,fun i d e=>(h3 i d e).bI ha⟩;unfold Rd;rw[aH hb];exact h1
def vC(n:Nat)(H:Hp)(b:Addr)(c:Ln->Nat->Nat->Cn)(l:Ln):Prop:=∃fs:La,Rd H b (.lst (fs.map V.ref))/\fs.length=l.length+1/\∀(d:Nat) f,fs[d]? =some f->Ao n H f (c (l.drop d))
theorem vC.le{c:Ln->Nat->Nat->Cn}(h:vC n H b c l)(e:Le H H'):vC n H' b c l:=let ⟨fs,h1,h2,h3⟩:=h;⟨fs,e _ _ iP h1,h2,fun d f q=>(h3 d f q).le e⟩
def mK(H H':Hp):Hp:=fun a=>match H a with|none=>H' a|some _=>none
theorem mD(h:H a=none):mK H H' a=H' a:=by unfold mK;rw[h]
theorem Rc:aK (mK H H') H':=fun a o h=>by
 unfold mK at h;split at h
 .exact h
 .cases h
theorem Cs{rW:Hp}(s:aK H' rW):aK (mK H H') (mK H rW):=fun a o h=>by
 unfold mK at*;split at h
 .exact s _ _ h
 .cases h
theorem oM(h:H a=none):mK H (bI H' a o)=bI (mK H H') a o:=by
 funext b;by_cases e:b=a
 .subst e;rw[mD h,aC,aC]
 .rw[aH e];unfold mK;rw[aH e]
inductive ij:Sp|mk {vs H Q Z} (g:Lr) (tx:T) (l:Ln) (a q:Addr):vs=[.ref a,.ref q,.int (tx.length:Int)]->tx.length<=64->nS tx.length H a (fun s i j=>iL g tx [s] i j)->oU H q l->l.length<=1000->(∀H' r,aK H H'->H r=none->vC tx.length (mK H H') r (iL g tx) l->Q (.ref r) H')->ij vs H Q Z
theorem RI{v3 v4:Option V}(hn:tx.length<=64)(k:∀D H',H D=none->aK H H'->Ao tx.length (mK H H') D (iL g tx [])->H' D≠none->Q (.ref D) H'):
  JH (RW (gS (NX (GJ fun i j=>.int (i+j)) (fC 2) (tC (.int 1))) oW)) (mF 5) Tf (bx [(fC 5,tC (.int 1))]) [5] [some (.ref a),some (.ref q),some (.int (tx.length:Int)),v3,v4,none] H Q:=by
 refine⟨_,rfl,_,_,rfl,rfl,_,rfl,by lia,by lia,fun D hD=>?_⟩
 rw[show((tx.length:Int)+1).toNat=tx.length+1 by lia]
 refine Ms (lo:=0) (n:=tx.length+1) (Qd:=Q (.ref D)) (fun i H'=>aK H H'/\∃ds:La,H' D=some (.lst (ds.map V.ref))/\ds.length=i/\∀(j:Nat) d,ds[j]? =some d->DW tx.length (mK H H') d (Tw.oR j)) ⟨aK.upd hD,[],aC,rfl,by simp⟩ ?_ ?_
 .rintro i H' hi ⟨s1,ds,h1,h2,h3⟩;refine⟨rfl,fun p hp=>?_⟩;have hpD:p≠D:=fun z=>by rw[z,h1]at hp;cases hp
  have s2:aK H' (bI (bI H' p (.dK [])) p (.dK (rJ [] [((aV (i:Int):iM),V.int 1)]))):=aK.then (aK.upd hp) hp;refine⟨_,rfl,aC,[(aV (i:Int),.int 1)],by simp[kV],(by show 1<=15;decide),_,s2 _ _ h1,?_,aK.then (s1.trans s2) hD,ds++[p],by rw[aQ];exact aC,by simp[h2],?_⟩
  .rw[aA,h2];exact bV (show i<=65 by lia) (by decide)
  .intro j d e;by_cases q:j<ds.length
   .rw[jB q]at e;rw[oM hD];exact((h3 j d e).le (aK.le (Cs s2))).bI (by rw[mD hD];exact s2 _ _ h1)
   .rw[fJ (by lia)]at e;have:j=i:=(by have:=(aL.mp e).1;simp at this;lia);subst this;rw[h2,zJ]at e;cases e;rw[oM hD];have dm:=Zu (H:=H') (p:=p) (n:=tx.length) (i:=j) (by lia);exact(dm.at (H':=mK H (bI (bI H' p (.dK [])) p (.dK (rJ [] [((aV (j:Int):iM),V.int 1)])))) (mD (aK.free s1 hp))).dw.bI (by rw[mD hD];exact s2 _ _ h1)
 .rintro H' ⟨s1,ds,h1,h2,h3⟩;refine k D H' hD s1 ⟨ds,.inl (by rw[mD hD];exact h1),h2,fun i d e=>?_⟩ (by rw[h1];intro z;cases z);have hi:i<tx.length+1:=by have:=(aL.mp e).1;lia
  have:=h3 i d e
  have e2:iL g tx [] i=Tw.oR i:=by
   funext j;rw[Tw.Sm];unfold Tw.oR;by_cases q:i=j
   .rw[if_pos ⟨q,by lia⟩,if_pos q.symm]
   .rw[if_neg fun z=>q z.1,if_neg fun z=>q z.symm]
  rw[e2];exact this
theorem xm:cB ["table","right","size","rests","symbol","place"] ["table","right","size"] (bF (st 59)):=oP
theorem ixL{X:Cx}(hK:X.K=K):Q8 X (PQ K):=by subst hK;exact gU
theorem zg(F:lY K "ways_of_rests" "ways_of_rests" (st 59) f fd)(Tp:uO mg)(hT:mW P w K mg aT 4 "ways_through" ["first","further"] OC):eN P w K mg aT lM 5 f fd ["table","right","size"] ij:=by
 refine oB F xm fun H Q hr h=>?_
 obtain⟨g,tx,l,a,q,rfl,hn,aa0,hq,hl,k⟩:=h
 have nd:=xm.nd
 have hu:=jV hr
 refine⟨_,aJ (Tx (i:=3) nd rfl (yC rfl) (fE (aB (sO (own:=[("place",5)]) rfl nd (Ba rfl Tp.range (aB (jY nY (pv 2) cH) aP)) (iR (by show vK ["table","right","size","rests","symbol","place"] (bF (st 59)) _ _=true;decide+kernel)) (fun _ _ _ _ _=>gv (i:=5) nd) (fun _ _ _ _ _=>oK) (fun _ _ _ _ _=>Bb (wC (pv 5) cH Ay) rfl rfl (by intro z;cases z) (by show 1<=15;decide))) aP)))
  (aJ (gR bN rfl (Xv rfl Tp.rev (aB (pv 1) aP)) (Eo (i:=4) nd rfl (yC rfl))
   (aU (fM (uY cF eY eX oN (pv 3) (aB (sO (own:=[("place",5)]) rfl nd (Ba rfl Tp.range (aB (jY nY (pv 2) cH) aP)) (iR (by show vK ["table","right","size","rests","symbol","place"] (bF (st 59)) _ _=true;decide+kernel)) (fun _ _ _ _ _=>gv (i:=5) nd) (fun _ _ _ _ _=>oK)
    (fun _ _ _ _ _=>dW hT hr (aB (kR hu (pv 0) (oX (aB (pv 4) (aB (pv 5) aP))) zX ⟨rfl,rfl,rfl,rfl⟩) (aB (jM (ixL (K:=K) rfl) (pv 3) (Ly Cj cH) (fun _ _=>rfl)) aP)))) aP)))))
  (aJ (fM (Ub cF PySem.F.slot_list_reverse PySem.F.type_list_reverse CH (pv 3)))
  (aU (cO (pv 3))))),?_⟩
 unfold Kx Xb Ky gS
 refine RI (a:=a) (q:=q) (g:=g) (tx:=tx) (v3:=none) (v4:=none) hn fun f0 H1 hf0 s1 hF Iq=>?_
 refine⟨z1,fun r Be=>?_⟩
 have DJ:H r=none:=aK.free s1 Be
 have DQ:f0≠r:=fun z=>Iq (by rw[z];exact Be)
 have mE:∀{H':Hp},SX [r] H H'->Le H H':=fun sx=>SX.mE sx .refl (by simp[DJ])
 have wa:SX [r] H (bI H1 r (.lst [.ref f0])):=(SX.of s1).trans (SX.upd (by simp))
 refine⟨_,rfl,q,_,rfl,cY (mE wa _ _ iP hq),ZP (K:=K) (a:=q) (xs:=kL l) (fun i σ H'=>∃v4,A3 (σ=[some (.ref a),some (.ref q),some (.int (tx.length:Int)),some (.ref r),v4,none]) (SX [r] H H') (∃fs:La,H' r=some (.lst (fs.map V.ref))/\fs.length=i+1/\∀(j:Nat) f,fs[j]? =some f->f≠r/\Ao tx.length (mK H H') f (iL g tx (l.drop (l.length-j)))))
  ⟨none,rfl,wa,[f0],aC,rfl,?_⟩ (fun i σ H' _ ⟨_,_,sx,_⟩=>cY (mE sx _ _ iP hq)) ?_ ?_⟩
 .intro j f e;cases j with
  |succ j=>simp at e
  |zero=>cases e;refine⟨DQ,?_⟩;rw[BE,sC];rw[oM DJ];exact hF.le (aK.le (aK.upd (by rw[mD DJ];exact Be)))
 .rintro i x σ H2 hi hx ⟨v4,rfl,sx,fs,h1,h2,h3⟩;rw[fO]at hi hx;obtain⟨s,es,rfl⟩:=xP hx;obtain⟨fl,V8⟩:∃fl,fs[i]? =some fl:=⟨_,bM (by lia)⟩;obtain⟨nfl,U4⟩:=h3 i fl V8
  have efs:∃MO,fs=MO++[fl]:=by
   rcases BH fs with z|⟨MO,y,z⟩
   .rw[z]at h2;simp at h2
   .rw[BI]at z;refine⟨MO,?_⟩;rw[z]at h2 V8 ⊢;rw[bA]at h2;simp only[Au]at h2;rw[fJ (by lia),show i-MO.length=0 by lia]at V8;rw[bC V8]
  obtain⟨MO,efs⟩:=efs
  have row:∀(Q:VK),(∀D H3,H2 D=none->aK H2 H3->Ao tx.length (mK H H3) D (iL g tx (l.drop (l.length-(i+1))))->H3 D≠none->Q (.ref D) H3)->
    JH (RW (gS (NX (GJ fun i j=>.int (i+j)) (fC 2) (tC (.int 1))) oW)) (mF 5) Tf (JJ OC (gS (BU (fC 0) (WV (gS (fC 4) (gS (fC 5) oW))) NZ) (gS (NX (PQ K) (fC 3) (tUn (rU fun i=>.int (-i)) (tC (.int 1)))) oW))) [5] [some (.ref a),some (.ref q),some (.int (tx.length:Int)),some (.ref r),some (.int s),none] H2 Q:=by
   intro Q kQ
   refine⟨_,rfl,_,_,rfl,rfl,_,rfl,by lia,by lia,fun D hD=>?_⟩
   rw[show((tx.length:Int)+1).toNat=tx.length+1 by lia]
   have hDr:D≠r:=fun z=>by rw[z,h1]at hD;cases hD
   have LG:H D=none:=sx.free hD (by simp[DJ])
   refine Ms (lo:=0) (n:=tx.length+1) (Qd:=Q (.ref D)) (fun m H'=>aK H2 H'/\∃ds:La,H' D=some (.lst (ds.map V.ref))/\ds.length=m/\∀(j:Nat) d,ds[j]? =some d->DW tx.length (mK H H') d (iL g tx (l.drop (l.length-(i+1))) j)) ⟨aK.upd hD,[],aC,rfl,by simp⟩ ?_ ?_
   .rintro m H' hm ⟨s2,ds,d1,d2,d3⟩;have N3:nS tx.length H' a (fun s i j=>iL g tx [s] i j):=(aa0.le (mE sx)).le (aK.le s2);obtain⟨kvs,hk,Fl⟩:=N3;refine⟨rfl,_,rfl,a,rfl,sV hk,_,rfl,_,rfl,z2,fun b hb p2 o2 Kc=>?_⟩;have s3:aK H' (bI (bI H' b (.tup [.int s,.int ((0:Int)+m)])) p2 (.kN o2 (.dK []))):=(aK.upd hb).trans (aK.upd Kc);have HV:bI (bI H' b (.tup [.int s,.int ((0:Int)+m)])) p2 (.kN o2 (.dK [])) b=some (.tup [.int (s:Int),.int (m:Int)]):=(by rw[aH (cK aC Kc),aC];simp);have T8:bI (bI H' b (.tup [.int s,.int ((0:Int)+m)])) p2 (.kN o2 (.dK [])) p2=some (.kN o2 (.dK [])):=aC;generalize bI (bI H' b (.tup [.int s,.int ((0:Int)+m)])) p2 (.kN o2 (.dK []))=H3 at*;have S3:=s2.trans s3;refine⟨_,Fu (aK.le s3 _ _ Ex hk) HV,?_⟩
    have hw:∃d,(eO kvs (ky s m)).getD (.ref p2)=V.ref d/\DW tx.length H3 d (iL g tx [s] m):=by
     rcases Fl s m with ⟨z1,z2⟩|⟨d,z1,z2⟩
     .refine⟨p2,by rw[z1];rfl,[],?_,.inr ⟨o2,T8⟩⟩;rw[show iL g tx [s] m=fun _=>some 0 from funext z2];exact .nil
     .exact⟨d,by rw[z1];rfl,z2.le (aK.le s3)⟩
    obtain⟨d,ed,hd⟩:=hw;rw[ed];refine⟨_,rfl,_,rfl,r,_,-1,_,rfl,rfl,iY.of (S3 _ _ h1),?_,tx.length,_,_,d,fl,rfl,by lia,hd,(U4.le (aK.le Rc)).le (aK.le S3),fun H4 r2 s4 O6 ai=>?_⟩
    .rw[efs,aQ];exact Ny _ _
    .have d4:=s4 _ _ (s3 _ _ d1);refine⟨_,d4,?_,aK.then (S3.trans s4) hD,ds++[r2],by rw[aQ];exact aC,by simp[d2],?_⟩
     .rw[aA,d2];exact bV (show m<=65 by lia) (by decide)
     .intro j d e;by_cases qj:j<ds.length
      .rw[jB qj]at e;rw[oM LG];exact((d3 j d e).le (aK.le (Cs (s3.trans s4)))).bI (by rw[mD LG];exact d4)
      .rw[fJ (by lia)]at e;have:j=m:=(by have:=(aL.mp e).1;simp at this;lia);subst this;rw[d2,zJ]at e;cases e;have ec:iL g tx (l.drop (l.length-(i+1))) j=fun e=>jZ ((bD (tx.length+1)).map fun k=>iB (iL g tx [s] j k) (iL g tx (l.drop (l.length-i)) k e)):=(by funext e;have oT:l.length-(i+1)<l.length:=(by lia);have:l.drop (l.length-(i+1))=s::l.drop (l.length-i):=(by rw[cZ oT,show l.length-(i+1)+1=l.length-i by lia];congr 1;rw[show l.length-1-i=l.length-(i+1) by lia,bM oT]at es;exact bC es);rw[this,Tw.MW]);rw[ec,oM LG];have abO:H r2=none:=(sx.trans (SX.of S3)).free O6 (by simp[DJ]);exact(ai.at (H':=mK H H4) (mD abO)).dw.bI (by rw[mD LG];exact d4)
   .rintro H' ⟨s2,ds,d1,d2,d3⟩;exact kQ D H' hD s2 ⟨ds,.inl (by rw[mD LG];exact d1),d2,d3⟩ (by rw[d1];intro z;cases z)
  refine⟨_,rfl,.inl ⟨rfl,_,iY.of h1⟩,row _ fun D H3 hD s3 hFD hDn=>?_⟩;have h13:=s3 _ _ h1;have hDr:D≠r:=fun z=>by rw[z,h1]at hD;cases hD
  refine⟨r,_,_,rfl,rfl,h13,?_,_,rfl,(sx.trans (SX.of s3)).trans (SX.upd (by simp)),fs++[D],by rw[aQ];exact aC,by simp[h2],?_⟩
  .rw[aA,h2];exact bV (show i+1<=1000 by lia) (by decide)
  .intro j f e;by_cases qj:j<fs.length
   .rw[jB qj]at e;obtain⟨z1,z2⟩:=h3 j f e;rw[oM DJ];exact⟨z1,(z2.le (aK.le (Cs s3))).bI (by rw[mD DJ];exact h13) z1⟩
   .rw[fJ (by lia)]at e;have:j=i+1:=(by have:=(aL.mp e).1;simp at this;lia);subst this;rw[h2,zJ]at e;cases e;rw[oM DJ];exact⟨hDr,hFD.bI (by rw[mD DJ];exact h13) hDr⟩
 .rintro σ H2 ⟨v4,rfl,sx,fs,h1,h2,h3⟩;rw[fO]at h2;refine⟨_,rfl,.inl ⟨rfl,_,iY.of h1⟩,r,_,rfl,rfl,h1,_,rfl,k _ r ?_ DJ ⟨fs.reverse,?_,by simp[h2],fun d f e=>?_⟩⟩
  .exact aK.then (SX.same (sx.drop (by simp[DJ]))) DJ
  .rw[List.map_reverse,oM DJ];exact .inl aC
  .have hd:d<fs.length:=by have:=(aL.mp e).1;simpa using this
   rw[List.getElem?_reverse hd]at e;obtain⟨z1,z2⟩:=h3 _ f e;have:=z2.bI (by rw[mD DJ];exact h1) (o:=.lst (fs.map V.ref).reverse) z1;rw[<-oM DJ]at this;rw[show l.length-(fs.length-1-d)=d by lia]at this;exact this
structure WA where
 w:Addr
 dx:Addr
 ru:Addr
 ta:Addr
 tl:Addr
 pa:Addr
 rs:Addr
 kp:Addr
structure PA where
 a:Addr
 dx:Addr
 aa:Addr
 be:Addr
 nm:Addr
 en:Nat
 l:PL
variable {S:List PA}
def Oi(A:WA)(n x p:Nat):List (Str×V):=[("rules",.ref A.ru),("table",.ref A.ta),("size",.int n),("skipped",.int x),("place",.int p),("told",.ref A.tl),("parts",.ref A.pa),("rests",.ref A.rs),("kept",.ref A.kp)]
def AO(k pl tb:Nat)(aa be:Addr)(d:Nat)(nm:Addr)(en:Nat):List (Str×V):=[("number",.int k),("place",.int pl),("told_before",.int tb),("ahead",.ref aa),("behind",.ref be),("done",.int d),("numbers",.ref nm),("end",.int en)]
def Lw(P:PA):List (Str×V):=AO P.l.k P.l.pl P.l.tb P.aa P.be P.l.d P.nm P.en
theorem Qt(A:WA)(n x p x':Nat):iG "skipped" (.int x') (Oi A n x p)=Oi A n x' p:=by rfl
theorem Lo(A:WA)(n x p p':Nat):iG "place" (.int p') (Oi A n x p)=Oi A n x p':=by rfl
theorem Qu(k pl tb:Nat)(aa be:Addr)(d:Nat)(nm:Addr)(en d':Nat):iG "done" (.int d') (AO k pl tb aa be d nm en)=AO k pl tb aa be d' nm en:=by rfl
structure WC(K:aX)(CW CP:Addr):Prop where
 cw:AX K CW
 cp:AX K CP
 rules:iK K CW "rules"
 table:iK K CW "table"
 size:iK K CW "size"
 skipped:iK K CW "skipped"
 place:iK K CW "place"
 bW:iK K CW "told"
 parts:iK K CW "parts"
 rests:iK K CW "rests"
 kept:iK K CW "kept"
 number:iK K CP "number"
 PV:iK K CP "place"
 before:iK K CP "told_before"
 ahead:iK K CP "ahead"
 behind:iK K CP "behind"
 done:iK K CP "done"
 numbers:iK K CP "numbers"
 end_:iK K CP "end"
def oY(A:WA)(lU:List PA):La:=A.w::A.tl::A.pa::A.rs::A.kp::lU.flatMap fun P=>[P.a,P.aa]
inductive Gf(g:Lr)(tx:T)(CP:Addr)(F:Hp)(q:Addr)(c pl:Nat):Prop|mk dx k tb aa be d nm e lA ah:F q=some (.ins CP dx (AO k pl tb aa be d nm e))->F nm=some (.lst (kL lA))->DW tx.length F aa ah->DP g tx [c] pl e lA->yB g tx c pl lA ah->lA.length<=65536->Gf g tx CP F q c pl
theorem Gf.same{F F':Hp}{c pl:Nat}(h:Gf g tx CP F q c pl)(s:aK F F'):Gf g tx CP F' q c pl:=by obtain⟨dx,k,tb,aa,be,d,nm,e,lA,ah,h1,h2,h3,h4,h5,h6⟩:=h;exact⟨dx,k,tb,aa,be,d,nm,e,lA,ah,s _ _ h1,s _ _ h2,h3.le (aK.le s),h4,h5,h6⟩
structure WH(g:Lr)(tx:T)(CW CP:Addr)(F H:Hp)(A:WA)(x p:Nat)(bW:Ln)(lU:List PA):Prop where
 sub:aK F H
 ru:fZ F A.ru g
 ta:nS tx.length F A.ta (fun s i j=>iL g tx [s] i j)
 wo:H A.w=some (.ins CW A.dx (Oi A tx.length x p))
 tl:H A.tl=some (.lst (kL bW))
 pa:H A.pa=some (.lst (lU.reverse.map fun P=>V.ref P.a))
 rs:∃ls:List (Nat×Addr),H A.rs=some (.dK (tW ls))/\(ls.map (·.1)).Nodup/\∀y∈ls,∃r,g[y.1]? =some r/\vC tx.length F y.2 (iL g tx) r.right
 kp:∃ls:TL,H A.kp=some (.dT (Fg ls))/\(ls.map (·.1)).Nodup/\(∀y∈ls,y.1.1<512/\y.1.2<=tx.length)/\∀y∈ls,∃qs:La,F y.2=some (.lst (qs.map V.ref))/\qs.length<=8/\∀q∈qs,Gf g tx CP F q y.1.1 y.1.2
 pt:∀P∈lU,H P.a=some (.ins CP P.dx (Lw P))/\DM tx.length H P.aa P.l.ah/\DW tx.length F P.be P.l.bf
 d1:A.tl≠A.pa
 d2:∀P∈lU,P.a≠A.w
 d3:∀P∈lU,P.aa≠A.rs
 d4:(lU.map (·.a)).Nodup
 d5:(lU.map (·.aa)).Nodup
 fr:∀m∈oY A lU,F m=none
section
variable {g:Lr} {tx:T} {CW CP:Addr} {F F' H H':Hp} {A:WA} {x p:Nat} {bW:Ln} {lU:List PA}
theorem WH.used(h:WH g tx CW CP F H A x p bW lU):∀m∈oY A lU,∃o,H m=some o:=by
 intro m hm;unfold oY at hm;simp only[aW,bG,pB,or_false]at hm;rcases hm with rfl|rfl|rfl|rfl|rfl|⟨P,hP,rfl|rfl⟩
 .exact⟨_,h.wo⟩
 .exact⟨_,h.tl⟩
 .exact⟨_,h.pa⟩
 .obtain⟨ls,z,_⟩:=h.rs;exact⟨_,z⟩
 .obtain⟨ls,z,_⟩:=h.kp;exact⟨_,z⟩
 .exact⟨_,(h.pt P hP).1⟩
 .obtain⟨kv,z⟩:=(h.pt P hP).2.1.ex;exact⟨_,z⟩
theorem Ym:A.w∈oY A lU:=by simp[oY]
theorem CL:A.tl∈oY A lU:=by simp[oY]
theorem Um:A.pa∈oY A lU:=by simp[oY]
theorem Hg:A.rs∈oY A lU:=by simp[oY]
theorem CM:A.kp∈oY A lU:=by simp[oY]
theorem Yo{P:PA}(h:P∈lU):P.a∈oY A lU:=by unfold oY;simp only[aW,bG];exact .inr (.inr (.inr (.inr (.inr ⟨P,h,.inl rfl⟩))))
theorem Mm{P:PA}(h:P∈lU):P.aa∈oY A lU:=by unfold oY;simp only[aW,bG];exact .inr (.inr (.inr (.inr (.inr ⟨P,h,.inr (.inl rfl)⟩))))
theorem WH.frame(h:WH g tx CW CP F H A x p bW lU)(e:∀m∈oY A lU,H' m=H m)(f1:aK F F')(f2:aK F' H')(f3:∀m∈oY A lU,F' m=none):WH g tx CW CP F' H' A x p bW lU:=by
 obtain⟨ls,r1,r2,r3⟩:=h.rs;obtain⟨lk,k1,k2,k3,k4⟩:=h.kp;refine⟨f2,h.ru.le (aK.le f1),h.ta.le (aK.le f1),by rw[e _ Ym];exact h.wo,by rw[e _ CL];exact h.tl,by rw[e _ Um];exact h.pa,⟨ls,by rw[e _ Hg];exact r1,r2,fun y hy=>?_⟩,⟨lk,by rw[e _ CM];exact k1,k2,k3,fun y hy=>?_⟩,fun P hP=>?_,h.d1,h.d2,h.d3,h.d4,h.d5,f3⟩
 .obtain⟨r,z1,z2⟩:=r3 y hy;exact⟨r,z1,z2.le (aK.le f1)⟩
 .obtain⟨qs,z1,z2,z3⟩:=k4 y hy;exact⟨qs,f1 _ _ z1,z2,fun q hq=>(z3 q hq).same f1⟩
 .obtain⟨z1,z2,z3⟩:=h.pt P hP;exact⟨by rw[e _ (Yo hP)];exact z1,z2.at (e _ (Mm hP)),z3.le (aK.le f1)⟩
theorem WH.same(h:WH g tx CW CP F H A x p bW lU)(s:aK H H'):WH g tx CW CP F H' A x p bW lU:=by refine h.frame (fun m hm=>?_) (fun _ _ z=>z) (fun a o z=>s _ _ (h.sub _ _ z)) h.fr;obtain⟨o,e⟩:=h.used m hm;rw[e];exact s _ _ e
theorem WH.grow(h:WH g tx CW CP F H A x p bW lU)(f1:aK F F')(f2:aK F' H)(f3:∀m∈oY A lU,F' m=none):WH g tx CW CP F' H A x p bW lU:=h.frame (fun _ _=>rfl) f1 f2 f3
theorem WH.sx(h:WH g tx CW CP F H A x p bW lU)(s:SX [d] H H')(hd:d∉oY A lU)(hF:F d=none):WH g tx CW CP F H' A x p bW lU:=by
 refine h.frame (fun m hm=>?_) (fun _ _ z=>z) (fun a o z=>s _ _ (h.sub _ _ z) ?_) h.fr
 .obtain⟨o,e⟩:=h.used m hm;rw[e];exact s _ _ e (by simp;intro z;rw[z]at hm;exact hd hm)
 .simp;intro q;rw[q,hF]at z;cases z
theorem WH.new(h:WH g tx CW CP F H A x p bW lU)(hd:H d=none):d∉oY A lU/\F d=none:=by
 constructor
 .intro m;obtain⟨o,e⟩:=h.used d m;rw[hd]at e;cases e
 .exact aK.free h.sub hd
theorem zH{o':HO}(h1:H a=some o)(h2:H b=some o')(n:o≠o'):a≠b:=fun z=>by rw[z,h2]at h1;exact n (bC h1).symm
theorem DM.ne{w:Nat->Cn}(h:DM n H d w)(ha:H a=some o)(no:∀kvs,o≠.dK kvs):d≠a:=fun z=>by obtain⟨kv,e⟩:=h.ex;rw[z,ha]at e;exact no _ (bC e)
theorem WH.xJ(h:WH g tx CW CP F H A x p bW lU)(x' p':Nat):WH g tx CW CP F (bI H A.w (.ins CW A.dx (Oi A tx.length x' p'))) A x' p' bW lU:=by
 obtain⟨ls,r1,r2,r3⟩:=h.rs;obtain⟨lk,k1,k2,k3,k4⟩:=h.kp;refine⟨aK.then h.sub (h.fr _ Ym),h.ru,h.ta,aC,?_,?_,⟨ls,?_,r2,r3⟩,⟨lk,?_,k2,k3,k4⟩,fun P hP=>?_,h.d1,h.d2,h.d3,h.d4,h.d5,h.fr⟩
 .rw[aH (zH h.tl h.wo (by intro z;cases z))];exact h.tl
 .rw[aH (zH h.pa h.wo (by intro z;cases z))];exact h.pa
 .rw[aH (zH r1 h.wo (by intro z;cases z))];exact r1
 .rw[aH (zH k1 h.wo (by intro z;cases z))];exact k1
 .obtain⟨z1,z2,z3⟩:=h.pt P hP;exact⟨by rw[aH (h.d2 P hP)];exact z1,z2.at (aH (z2.ne h.wo (by intro _ z;cases z))),z3⟩
theorem WH.Ee(h:WH g tx CW CP F H A x p bW lU)(Kw:Ln):WH g tx CW CP F (bI H A.tl (.lst (kL Kw))) A x p Kw lU:=by
 obtain⟨ls,r1,r2,r3⟩:=h.rs;obtain⟨lk,k1,k2,k3,k4⟩:=h.kp;refine⟨aK.then h.sub (h.fr _ CL),h.ru,h.ta,?_,aC,?_,⟨ls,?_,r2,r3⟩,⟨lk,?_,k2,k3,k4⟩,fun P hP=>?_,h.d1,h.d2,h.d3,h.d4,h.d5,h.fr⟩
 .rw[aH (zH h.wo h.tl (by intro z;cases z))];exact h.wo
 .rw[aH (Ne.symm h.d1)];exact h.pa
 .rw[aH (zH r1 h.tl (by intro z;cases z))];exact r1
 .rw[aH (zH k1 h.tl (by intro z;cases z))];exact k1
 .obtain⟨z1,z2,z3⟩:=h.pt P hP;exact⟨by rw[aH (zH z1 h.tl (by intro z;cases z))];exact z1,z2.at (aH (z2.ne h.tl (by intro _ z;cases z))),z3⟩
theorem WH.Y6(h:WH g tx CW CP F H A x p bW lU)(ls:List (Nat×Addr))(nd:(ls.map (·.1)).Nodup)(hl:∀y∈ls,∃r,g[y.1]? =some r/\vC tx.length F y.2 (iL g tx) r.right):WH g tx CW CP F (bI H A.rs (.dK (tW ls))) A x p bW lU:=by
 obtain⟨Dp,r1,r2,r3⟩:=h.rs;obtain⟨lk,k1,k2,k3,k4⟩:=h.kp;refine⟨aK.then h.sub (h.fr _ Hg),h.ru,h.ta,?_,?_,?_,⟨ls,aC,nd,hl⟩,⟨lk,?_,k2,k3,k4⟩,fun P hP=>?_,h.d1,h.d2,h.d3,h.d4,h.d5,h.fr⟩
 .rw[aH (zH h.wo r1 (by intro z;cases z))];exact h.wo
 .rw[aH (zH h.tl r1 (by intro z;cases z))];exact h.tl
 .rw[aH (zH h.pa r1 (by intro z;cases z))];exact h.pa
 .rw[aH (zH k1 r1 (by intro z;cases z))];exact k1
 .obtain⟨z1,z2,z3⟩:=h.pt P hP;exact⟨by rw[aH (zH z1 r1 (by intro z;cases z))];exact z1,z2.at (aH (h.d3 P hP)),z3⟩
theorem WH.Y7(h:WH g tx CW CP F H A x p bW lU)(ls:TL)(nd:(ls.map (·.1)).Nodup)(bd:∀y∈ls,y.1.1<512/\y.1.2<=tx.length)(hl:∀y∈ls,∃qs:La,F y.2=some (.lst (qs.map V.ref))/\qs.length<=8/\∀q∈qs,Gf g tx CP F q y.1.1 y.1.2):WH g tx CW CP F (bI H A.kp (.dT (Fg ls))) A x p bW lU:=by
 obtain⟨Dp,r1,r2,r3⟩:=h.rs;obtain⟨lk,k1,k2,k3,k4⟩:=h.kp;refine⟨aK.then h.sub (h.fr _ CM),h.ru,h.ta,?_,?_,?_,⟨Dp,?_,r2,r3⟩,⟨ls,aC,nd,bd,hl⟩,fun P hP=>?_,h.d1,h.d2,h.d3,h.d4,h.d5,h.fr⟩
 .rw[aH (zH h.wo k1 (by intro z;cases z))];exact h.wo
 .rw[aH (zH h.tl k1 (by intro z;cases z))];exact h.tl
 .rw[aH (zH h.pa k1 (by intro z;cases z))];exact h.pa
 .rw[aH (zH r1 k1 (by intro z;cases z))];exact r1
 .obtain⟨z1,z2,z3⟩:=h.pt P hP;exact⟨by rw[aH (zH z1 k1 (by intro z;cases z))];exact z1,z2.at (aH (z2.ne k1 (by intro _ z;cases z))),z3⟩
theorem WH.we{P:PA}(h:WH g tx CW CP F H A x p bW (P::S))(d':Nat)(l':PL)(ZE:l'={P.l with d:=d'}):WH g tx CW CP F (bI H P.a (.ins CP P.dx (Lw {P with l:=l'}))) A x p bW ({P with l:=l'}::S):=by
 subst ZE;obtain⟨Dp,r1,r2,r3⟩:=h.rs;obtain⟨lk,k1,k2,k3,k4⟩:=h.kp;obtain⟨a1,a2,a3⟩:=h.pt P aF;have ME:=cQ.mp (show(P.a::S.map (·.a)).Nodup from h.d4);refine⟨aK.then h.sub (h.fr _ (Yo aF)),h.ru,h.ta,?_,?_,?_,⟨Dp,?_,r2,r3⟩,⟨lk,?_,k2,k3,k4⟩,fun Q hQ=>?_,h.d1,?_,?_,h.d4,h.d5,h.fr⟩
 .rw[aH (Ne.symm (h.d2 P aF))];exact h.wo
 .rw[aH (zH h.tl a1 (by intro z;cases z))];exact h.tl
 .rw[aH (zH h.pa a1 (by intro z;cases z))];have:=h.pa;rw[jX,aQ]at this ⊢;exact this
 .rw[aH (zH r1 a1 (by intro z;cases z))];exact r1
 .rw[aH (zH k1 a1 (by intro z;cases z))];exact k1
 .rcases aW.mp hQ with rfl|hQ
  .exact⟨aC,a2.at (aH (a2.ne a1 (by intro _ z;cases z))),a3⟩
  .obtain⟨z1,z2,z3⟩:=h.pt Q (aD _ hQ);refine⟨?_,z2.at (aH (z2.ne a1 (by intro _ z;cases z))),z3⟩;rw[aH (fun z=>ME.1 (by rw[<-z];exact aE.mpr ⟨Q,hQ,rfl⟩))];exact z1
 .intro Q hQ;rcases aW.mp hQ with rfl|hQ
  .exact h.d2 P aF
  .exact h.d2 Q (aD _ hQ)
 .intro Q hQ;rcases aW.mp hQ with rfl|hQ
  .exact h.d3 P aF
  .exact h.d3 Q (aD _ hQ)
theorem WH.Y8{P:PA}(h:WH g tx CW CP F H A x p bW (P::S))(ah':Nat->Cn)(s:SX [P.aa] H H')(dm:DM tx.length H' P.aa ah'):WH g tx CW CP F H' A x p bW ({P with l:={P.l with ah:=ah'}}::S):=by
 obtain⟨Dp,r1,r2,r3⟩:=h.rs;obtain⟨lk,k1,k2,k3,k4⟩:=h.kp;obtain⟨a1,a2,a3⟩:=h.pt P aF;have ub:=cQ.mp (show(P.aa::S.map (·.aa)).Nodup from h.d5);have go:∀{b:Addr} {o:HO},H b=some o->(∀kvs,o≠.dK kvs)->H' b=some o:=fun{b o} e n=>s _ _ e (by simp;exact Ne.symm (a2.ne e n));refine⟨fun a o e=>s _ _ (h.sub _ _ e) ?_,h.ru,h.ta,go h.wo (by intro _ z;cases z),go h.tl (by intro _ z;cases z),?_,⟨Dp,s _ _ r1 ?_,r2,r3⟩,⟨lk,go k1 (by intro _ z;cases z),k2,k3,k4⟩,fun Q hQ=>?_,h.d1,?_,?_,h.d4,h.d5,h.fr⟩
 .simp;intro z;rw[z,h.fr _ (Mm aF)]at e;cases e
 .have:=go h.pa (by intro _ z;cases z);rw[jX,aQ]at this ⊢;exact this
 .simp;exact Ne.symm (h.d3 P aF)
 .rcases aW.mp hQ with rfl|hQ
  .exact⟨go a1 (by intro _ z;cases z),dm,a3⟩
  .obtain⟨z1,z2,z3⟩:=h.pt Q (aD _ hQ);refine⟨go z1 (by intro _ z;cases z),?_,z3⟩;obtain⟨js,q1,q2⟩:=z2;exact⟨js,q1,s _ _ q2 (by simp;intro z;exact ub.1 (by rw[<-z];exact aE.mpr ⟨Q,hQ,rfl⟩))⟩
 .intro Q hQ;rcases aW.mp hQ with rfl|hQ
  .exact h.d2 P aF
  .exact h.d2 Q (aD _ hQ)
 .intro Q hQ;rcases aW.mp hQ with rfl|hQ
  .exact h.d3 P aF
  .exact h.d3 Q (aD _ hQ)
theorem WH.push(h:WH g tx CW CP F H A x p bW lU)(P:PA)(h1:H P.a=some (.ins CP P.dx (Lw P)))(h2:DM tx.length H P.aa P.l.ah)(h3:DW tx.length F P.be P.l.bf)(n1:P.a∉oY A lU)(n2:P.aa∉oY A lU)(f1:F P.a=none)(f2:F P.aa=none):
  WH g tx CW CP F (bI H A.pa (.lst ((lU.reverse.map fun P=>V.ref P.a)++[.ref P.a]))) A x p bW (P::lU):=by
 obtain⟨Dp,r1,r2,r3⟩:=h.rs
 obtain⟨lk,k1,k2,k3,k4⟩:=h.kp
 refine⟨aK.then h.sub (h.fr _ Um),h.ru,h.ta,?_,?_,?_,⟨Dp,?_,r2,r3⟩,⟨lk,?_,k2,k3,k4⟩,fun Q hQ=>?_,h.d1,?_,?_,?_,?_,?_⟩
 .rw[aH (zH h.wo h.pa (by intro z;cases z))];exact h.wo
 .rw[aH h.d1];exact h.tl
 .rw[aC,jX,aQ];rfl
 .rw[aH (zH r1 h.pa (by intro z;cases z))];exact r1
 .rw[aH (zH k1 h.pa (by intro z;cases z))];exact k1
 .rcases aW.mp hQ with rfl|hQ
  .exact⟨by rw[aH (zH h1 h.pa (by intro z;cases z))];exact h1,h2.at (aH (h2.ne h.pa (by intro _ z;cases z))),h3⟩
  .obtain⟨z1,z2,z3⟩:=h.pt Q hQ;exact⟨by rw[aH (zH z1 h.pa (by intro z;cases z))];exact z1,z2.at (aH (z2.ne h.pa (by intro _ z;cases z))),z3⟩
 .intro Q hQ;rcases aW.mp hQ with rfl|hQ
  .exact fun z=>n1 (by rw[z];exact Ym)
  .exact h.d2 Q hQ
 .intro Q hQ;rcases aW.mp hQ with rfl|hQ
  .exact fun z=>n2 (by rw[z];exact Hg)
  .exact h.d3 Q hQ
 .refine cQ.mpr ⟨fun m=>?_,h.d4⟩;obtain⟨Q,hQ,e⟩:=aE.mp m;have e:Q.a=P.a:=e;exact n1 (by rw[<-e];exact Yo hQ)
 .refine cQ.mpr ⟨fun m=>?_,h.d5⟩;obtain⟨Q,hQ,e⟩:=aE.mp m;have e:Q.aa=P.aa:=e;exact n2 (by rw[<-e];exact Mm hQ)
 .intro m hm;unfold oY at hm;simp only[aW,bG,pB,or_false]at hm;rcases hm with rfl|rfl|rfl|rfl|rfl|⟨Q,rfl|hQ,rfl|rfl⟩
  .exact h.fr _ Ym
  .exact h.fr _ CL
  .exact h.fr _ Um
  .exact h.fr _ Hg
  .exact h.fr _ CM
  .exact f1
  .exact f2
  .exact h.fr _ (Yo hQ)
  .exact h.fr _ (Mm hQ)
theorem WH.pop{P:PA}(h:WH g tx CW CP F H A x p bW (P::S)):WH g tx CW CP F (bI H A.pa (.lst (S.reverse.map fun P=>V.ref P.a))) A x p bW S:=by
 obtain⟨Dp,r1,r2,r3⟩:=h.rs;obtain⟨lk,k1,k2,k3,k4⟩:=h.kp;refine⟨aK.then h.sub (h.fr _ Um),h.ru,h.ta,?_,?_,aC,⟨Dp,?_,r2,r3⟩,⟨lk,?_,k2,k3,k4⟩,fun Q hQ=>?_,h.d1,fun Q hQ=>h.d2 Q (aD _ hQ),fun Q hQ=>h.d3 Q (aD _ hQ),(cQ.mp h.d4).2,(cQ.mp h.d5).2,fun m hm=>h.fr m ?_⟩
 .rw[aH (zH h.wo h.pa (by intro z;cases z))];exact h.wo
 .rw[aH h.d1];exact h.tl
 .rw[aH (zH r1 h.pa (by intro z;cases z))];exact r1
 .rw[aH (zH k1 h.pa (by intro z;cases z))];exact k1
 .obtain⟨z1,z2,z3⟩:=h.pt Q (aD _ hQ);exact⟨by rw[aH (zH z1 h.pa (by intro z;cases z))];exact z1,z2.at (aH (z2.ne h.pa (by intro _ z;cases z))),z3⟩
 .unfold oY at hm ⊢;simp only[aW,bG,pB,or_false]at hm ⊢;rcases hm with rfl|rfl|rfl|rfl|rfl|⟨Q,hQ,hm⟩
  .exact .inl rfl
  .exact .inr (.inl rfl)
  .exact .inr (.inr (.inl rfl))
  .exact .inr (.inr (.inr (.inl rfl)))
  .exact .inr (.inr (.inr (.inr (.inl rfl))))
  .exact .inr (.inr (.inr (.inr (.inr ⟨Q,.inr hQ,hm⟩))))
end
inductive jd(CP:Addr):Sp|mk {vs H Q Z} (k pl tb:Nat) (o dx aa be:Addr):vs=[.ref o,.int (k:Int),.int (pl:Int),.int (tb:Int),.ref aa,.ref be]->H o=some (.ins CP dx [])->(∀H' nm,SX [o] H H'->H nm=none->H' o=some (.ins CP dx (AO k pl tb aa be 0 nm pl))->Q .iU H')->jd CP vs H Q Z
abbrev d8:Stmt:=iH (st 61) 0
theorem Z1:cB ["self","number","place","told_before","ahead","behind"] ["self","number","place","told_before","ahead","behind"] (bF d8):=oP
theorem A0(F:lY K "__init__" "Part.__init__" d8 f fd)(C:WC K CW CP):eN P w K mg aT lM 1 f fd ["self","number","place","told_before","ahead","behind"] (jd CP):=by
 refine oB F Z1 fun H Q hr h=>?_;obtain⟨k,pl,tb,o,dx,aa,be,rfl,ho,kk⟩:=h;refine⟨_,aJ (iV (pv 0) (pv 1) rfl) (aJ (iV (pv 0) (pv 2) rfl) (aJ (iV (pv 0) (pv 3) rfl) (aJ (iV (pv 0) (pv 4) rfl) (aJ (iV (pv 0) (pv 5) rfl) (aJ (iV (pv 0) cH rfl) (aJ (iV (pv 0) (fE aP) rfl) (aU (iV (pv 0) (pv 2) rfl)))))))),?_⟩;refine⟨_,rfl,_,rfl,o,CP,dx,_,rfl,ho,C.cp,C.number,(by show 0<1000;decide),?_⟩;refine⟨_,rfl,_,rfl,o,CP,dx,_,rfl,aC,C.cp,C.PV,(by show 1<1000;decide),?_⟩;refine⟨_,rfl,_,rfl,o,CP,dx,_,rfl,aC,C.cp,C.before,(by show 2<1000;decide),?_⟩;refine⟨_,rfl,_,rfl,o,CP,dx,_,rfl,aC,C.cp,C.ahead,(by show 3<1000;decide),?_⟩;refine⟨_,rfl,_,rfl,o,CP,dx,_,rfl,aC,C.cp,C.behind,(by show 4<1000;decide),?_⟩;refine⟨_,rfl,o,CP,dx,_,rfl,aC,C.cp,C.done,(by show 5<1000;decide),?_⟩;rw[nH,nH,nH,nH,nH];refine⟨z0,fun nm VL=>?_⟩;have VJ:nm≠o:=fun z=>by rw[z,aC]at VL;cases VL
 have hnH:H nm=none:=by rw[aH VJ]at VL;exact VL
 refine⟨_,rfl,o,CP,dx,_,rfl,by rw[aH (Ne.symm VJ)];exact aC,C.cp,C.numbers,(by show 6<1000;decide),?_⟩;refine⟨_,rfl,_,rfl,o,CP,dx,_,rfl,aC,C.cp,C.end_,(by show 7<1000;decide),?_⟩;refine kk _ nm ?_ hnH ?_
 .exact((((SX.upd (by simp)).then hnH).trans (SX.upd (by simp))).trans (SX.upd (by simp)))
 .rw[aC];rfl
def Wk(g:Lr)(tx:T):Prop:=WF g/\g.length<=128/\(∀r∈g,r.right.length<=16)/\tx.length<=64
inductive OI(CW CP:Addr):Sp|mk {vs H Q Z} (g:Lr) (tx:T) (F:Hp) (A:WA) (x p:Nat) (bW:Ln) (lU:List PA) (k:Nat) (r:Rule):vs=[.ref A.w,.int (k:Int)]->Wk g tx->WH g tx CW CP F H A x p bW lU->g[k]? =some r->(∀F' H' b,aK F F'->(∀a,F' a≠none->F a≠none∨H a=none)->WH g tx CW CP F' H' A x p bW lU->SX [A.rs] H H'->vC tx.length F' b (iL g tx) r.right->Q (.ref b) H')->OI CW CP vs H Q Z
abbrev c9:Stmt:=iH (st 62) 4
theorem wz:cB ["self","number"] ["self","number"] (bF c9):=oP
theorem Lg{F:Hp}(s:aK F H)(h:fZ F a g)(e:g[k]? =some r):∃(ps:La) (p q:Addr),Rd H a (.lst (ps.map V.ref))/\ps[k]? =some p/\Rd H p (.tup [.int (r.left:Int),.ref q])/\oU H q r.right:=by obtain⟨ps,h1,h2⟩:=h.le (aK.le s);have hk:=(aL.mp e).1;have lg:=dC h2;obtain⟨r',er,q,z1,z2⟩:=gI h2 (bM (l:=ps) (i:=k) (by lia));rw[e]at er;cases er;exact⟨ps,_,q,h1,bM (by lia),z1,z2⟩
theorem zu(F:lY K "rests_of_rule" "Walk.rests_of_rule" c9 f fd)(C:WC K CW CP)(hW:mW P w K mg aT 5 "ways_of_rests" ["table","right","size"] ij):eN P w K mg aT lM 6 f fd ["self","number"] (OI CW CP):=by
 refine oB F wz fun H Q hr h=>?_
 obtain⟨g,tx,F0,W,x,p,bW,lU,k,r,rfl,⟨wf,Vb,Bc,uM⟩,h,er,kk⟩:=h
 have nd:=wz.nd
 have hu:=jV hr
 refine⟨_,aJ (gN (sG (pV hu (pv 1) (cT (pv 0) rfl)) (by with_unfolding_all rfl))
   (aU (lV hu (cT (pv 0) rfl) (pv 1) (dW hW hr (aB (cT (pv 0) rfl) (aB (jM Cv (jM gU (cT (pv 0) rfl) (pv 1) (fun _ _=>rfl)) cH (fun _ _=>rfl)) (aB (cT (pv 0) rfl) aP)))) rfl)) dX)
  (aU (cO (nM hu (cT (pv 0) rfl) (pv 1) (fun _ _=>rfl)))),?_⟩
 obtain⟨ls,r1,r2,r3⟩:=h.rs
 have hg:=kS (.inl r1) (aV (k:Int))
 refine⟨_,rfl,_,rfl,W.w,CW,W.dx,_,_,rfl,h.wo,C.cw,C.rests,rfl,W.rs,_,rfl,hg,_,rfl,?_⟩
 rcases uT (ls:=ls) k with ⟨hn,hv⟩|⟨b,hb,hv⟩
 .rw[hv]
  refine oZ ?_
  obtain⟨ps,p0,q,uA,ep,Cz,yR⟩:=Lg h.sub h.ru er
  refine⟨_,rfl,W.w,CW,W.dx,_,_,rfl,h.wo,C.cw,C.table,rfl,?_⟩
  refine⟨_,rfl,W.w,CW,W.dx,_,_,rfl,h.wo,C.cw,C.rules,rfl,_,rfl,W.ru,_,_,_,rfl,rfl,cY uA,fY (v:=V.ref p0) (by rw[bT,ep];rfl),p0,_,1,_,rfl,rfl,nE Cz,rfl,?_⟩
  refine⟨_,rfl,W.w,CW,W.dx,_,_,rfl,h.wo,C.cw,C.size,rfl,g,tx,r.right,W.ta,q,rfl,uM,h.ta.le (aK.le h.sub),yR,bK (Bc r (aG er)) (by decide),fun H1 b s1 hb hR=>?_⟩
  have h1:=h.same s1
  have hbW:=h.new hb
  have fF:∀a,(mK H H1 a≠none->H a=none):=fun a z=>by
   unfold mK at z
   split at z
   .assumption
   .exact absurd rfl z
  let F1:Hp:=fun a=>match F0 a with|some o=>some o|none=>mK H H1 a
  have f1:aK F0 F1:=fun a o e=>by show(match F0 a with|some o=>some o|none=>mK H H1 a)=some o;rw[e]
  have fn:aK (mK H H1) F1:=fun a o e=>by
   show(match F0 a with|some o=>some o|none=>mK H H1 a)=some o
   have:=fF a (by rw[e];intro z;cases z)
   rw[aK.free h.sub this];exact e
  have f2:aK F1 H1:=fun a o e=>by
   have e:(match F0 a with|some o=>some o|none=>mK H H1 a)=some o:=e
   cases z:F0 a with
   |some o'=>rw[z]at e;cases e;exact s1 _ _ (h.sub _ _ z)
   |none=>rw[z]at e;exact Rc _ _ e
  have f3:∀a,F1 a≠none->F0 a≠none∨H a=none:=fun a z=>by
   cases e:F0 a with
   |some o=>exact .inl (by intro z;cases z)
   |none=>
    refine .inr (fF a fun z'=>z ?_)
    show(match F0 a with|some o=>some o|none=>mK H H1 a)=none
    rw[e];exact z'
  have f4:∀m∈oY W lU,F1 m=none:=fun m hm=>by
   cases z:F1 m with
   |none=>rfl
   |some o=>
    rcases f3 m (by rw[z];intro z;cases z)with z'|z'
    .exact absurd (h.fr m hm) z'
    .obtain⟨o',e⟩:=h.used m hm
     rw[z']at e;cases e
  have h2:=h1.grow f1 f2 f4
  have nd2:((ls++[(k,b)]).map (·.1)).Nodup:=by rw[aQ];exact lW r2 hn
  have hR1:vC tx.length F1 b (iL g tx) r.right:=hR.le (aK.le fn)
  have h3:=h2.Y6 (ls++[(k,b)]) nd2 (fun y hy=>by
   rcases aN.mp hy with hy|hy
   .obtain⟨r',z1,z2⟩:=r3 y hy
    exact⟨r',z1,z2.le (aK.le f1)⟩
   .rw[aO.mp hy];exact⟨r,er,hR1⟩)
  have hl:(tW ls).length<sizeLine:=by
   have:=Ut r2 (fun y hy=>by
    obtain⟨r',z1,_⟩:=r3 y hy
    have:=(aL.mp z1).1
    lia)
   exact bV this (by decide)
  refine⟨_,rfl,W.w,CW,W.dx,_,_,rfl,h1.wo,C.cw,C.rests,rfl,_,rfl,W.rs,_,rfl,sL.k (k:=aV (k:Int)) (s1 _ _ r1) hl,?_⟩
  rw[Lm hn hv]
  have U3:=kS (.inl (aC (H:=H1) (a:=W.rs) (o:=.dK (tW (ls++[(k,b)]))))) (aV (k:Int))
  have u9:eO (tW (ls++[(k,b)])) (aV (k:Int))=some (.ref b):=by
   rw[<-Lm hn hv,Kv,if_pos rfl]
  rw[u9]at U3
  refine⟨_,rfl,W.w,CW,W.dx,_,_,rfl,h3.wo,C.cw,C.rests,rfl,_,rfl,W.rs,_,rfl,U3,?_⟩
  exact kk F1 _ b f1 f3 h3 ((SX.of s1).trans (SX.upd (by simp))) hR1
 .rw[hv]at hg ⊢;refine qF ?_;refine⟨_,rfl,W.w,CW,W.dx,_,_,rfl,h.wo,C.cw,C.rests,rfl,_,rfl,W.rs,_,rfl,hg,?_⟩;obtain⟨r',z1,z2⟩:=r3 _ hb;have z1:g[k]? =some r':=z1;rw[er]at z1;cases z1;exact kk F0 H b (fun _ _ z=>z) (fun a z=>.inl z) h SX.refl z2
theorem ZZ{c:Cn}:enc c=0↔c=some 0:=by
 cases c with
 |none=>simp[enc]
 |some n=>
  show qI n=0↔_;unfold qI;constructor
  .intro h;split at h
   .congr 1;lia
   .lia
  .intro h;cases h;rfl
theorem DM.ins{f:Nat->Cn}(h:DM n H d f)(hn:n<=1000){c:Cn}(hf:f i=some 0)(hc:c≠some 0)(hi:i<=n):
  ∃kvs,H d=some (.dK kvs)/\kvs.length<sizeLine/\DM n (bI H d (.dK (kG kvs (aV (i:Int)) (.int (enc c))))) d (fun e=>if e=i then c else f e):=by
 obtain⟨js,hW,hd⟩:=h
 have Bq:i∉js:=fun m=>((hW.iff i).mp m) hf
 refine⟨_,hd,hW.DD hn,js++[i],⟨lW hW.nd Bq,fun j=>?_,fun j hj=>?_⟩,?_⟩
 .rw[aN,aO,hW.iff j];by_cases q:j=i
  .rw[if_pos q];exact⟨fun _=>hc,fun _=>.inr q⟩
  .rw[if_neg q];exact⟨fun z=>z.elim id fun z=>absurd z q,.inl⟩
 .rcases aN.mp hj with hj|hj
  .exact hW.le j hj
  .rw[aO.mp hj];exact hi
 .rw[aC];have hv:eO (sQ f js) (aV (i:Int))=none:=by rw[Du,if_neg Bq]
  rw[Ej _ hv];unfold sQ;rw[aQ];have e1:(js.map fun(j:Nat)=>((aV (j:Int):iM),V.int (enc (f j))))=js.map fun(j:Nat)=>((aV (j:Int):iM),V.int (enc (if j=i then c else f j))):=by refine eJ fun j hj=>?_;rw[if_neg (fun z=>Bq (by rw[<-z];exact hj))]
  have e2:[((aV (i:Int):iM),V.int (enc c))]=[i].map fun(j:Nat)=>((aV (j:Int):iM),V.int (enc (if j=i then c else f j))):=by simp
  rw[e1,e2]
noncomputable def bc(g:Lr)(tx:T)(P:PA)(ahc:Nat->Cn):PA:={P with l:=Tw.W3 g tx P.l ahc}
inductive GD(CW CP:Addr):Sp|mk {vs H Q Z} (g:Lr) (tx:T) (F:Hp) (A:WA) (x p:Nat) (bW:Ln) (P:PA) (S:List PA) (r:Rule) (q dq qa:Addr) (fq:List (Str×V)) (ahc:Nat->Cn):vs=[.ref A.w,.ref q]->Wk g tx->WH g tx CW CP F H A x p bW (P::S)->g[P.l.k]? =some r->P.l.d<r.right.length->F q=some (.ins CP dq fq)->fq.lookup ("ahead":Str)=some (V.ref qa)->DW tx.length F qa ahc->(∀F' H',aK F F'->WH g tx CW CP F' H' A x p bW (bc g tx P ahc::S)->Q .iU H')->GD CW CP vs H Q Z
abbrev jx:Stmt:=iH (st 62) 8
theorem bz:cB ["self","part","whole"] ["self","part"] (bF jx):=oP
theorem md(F:lY K "put_into_last" "Walk.put_into_last" jx f fd)(C:WC K CW CP)(qe:oG P w K mg aT 6 CW "rests_of_rule" ["self","number"] (OI CW CP))(hAW:mW P w K mg aT 3 "add_ways" ["ways","more","factor"] OP)(M9:mW P w K mg aT 4 "ways_through" ["first","further"] OC):eN P w K mg aT lM 7 f fd ["self","part"] (GD CW CP):=by
 refine oB F bz fun H Q hr h=>?_
 obtain⟨g,tx,F0,W,x,p,bW,T,S,r,q,dq,qa,fq,ahc,rfl,wk,h,er,hd,hq,lq,hqa,kk⟩:=h
 have uM:=wk.2.2.2
 have nd:=bz.nd
 have Pk:=hr.mono (show 3<=6 by decide)
 have di:=hr.mono (show 4<=6 by decide)
 refine⟨_,aJ (sv (i:=2) nd (jM gU (cT (pv 0) rfl) (Ly Cj cH) (fun _ _=>rfl)))
  (aJ (wB (pv 2) cH Cy)
  (aU (fM (dW hAW Pk (aB (cT (pv 2) rfl) (aB (dW M9 di (aB (cT (pv 1) rfl) (aB (jM gU (nL (pv 0) C.cw qe hr (aB (cT (pv 2) rfl) aP)) (cT (pv 2) rfl) (fun _ _=>rfl)) aP))) (aB cH aP))))))),?_⟩
 obtain⟨a1,a2,a3⟩:=h.pt T aF
 refine⟨_,rfl,W.w,CW,W.dx,_,_,rfl,h.wo,C.cw,C.parts,rfl,_,rfl,W.pa,_,-1,V.ref T.a,rfl,rfl,iY.of h.pa,by rw[jX,aQ];exact Ny _ _,?_⟩
 refine⟨_,rfl,T.a,CP,T.dx,_,_,rfl,a1,C.cp,C.done,rfl,_,_,rfl,rfl,T.dx,_,a1,(by show 8<1000;decide),?_⟩
 have h1:=h.we (T.l.d+1) {T.l with d:=T.l.d+1} rfl
 have e1:iG "done" (V.int ((T.l.d:Int)+1)) (Lw T)=Lw {T with l:={T.l with d:=T.l.d+1}}:=by rw[show((T.l.d:Int)+1)=((T.l.d+1:Nat):Int) by lia];exact Qu ..
 dsimp only
 rw[e1]
 generalize bI H T.a (.ins CP T.dx (Lw {T with l:={T.l with d:=T.l.d+1}}))=H1 at*
 obtain⟨b1,b2,b3⟩:=h1.pt _ aF
 have b1:H1 T.a=some (.ins CP T.dx (AO T.l.k T.l.pl T.l.tb T.aa T.be (T.l.d+1) T.nm T.en)):=b1
 refine⟨_,rfl,T.a,CP,T.dx,_,_,rfl,b1,C.cp,C.ahead,rfl,_,rfl,q,CP,dq,_,_,rfl,h1.sub _ _ hq,C.cp,C.ahead,lq,?_⟩
 refine⟨_,rfl,W.w,W.dx,_,rfl,h1.wo,rfl,_,rfl,T.a,CP,T.dx,_,_,rfl,b1,C.cp,C.number,rfl,g,tx,F0,W,x,p,bW,_,T.l.k,r,rfl,wk,h1,er,fun F2 H2 b f1 f2 h2 tF hR=>?_⟩
 obtain⟨c1,c2,c3⟩:=h2.pt _ aF
 have c1:H2 T.a=some (.ins CP T.dx (AO T.l.k T.l.pl T.l.tb T.aa T.be (T.l.d+1) T.nm T.en)):=c1
 obtain⟨fs,L6,U4,DQ⟩:=hR
 obtain⟨fx,eg⟩:∃fx,fs[T.l.d+1]? =some fx:=⟨_,bM (by lia)⟩
 have hfx:=DQ _ fx eg
 refine⟨_,rfl,T.a,CP,T.dx,_,_,rfl,c1,C.cp,C.done,rfl,b,_,_,V.ref fx,rfl,rfl,cY (aK.le h2.sub _ _ iP L6),fY (j:=T.l.d+1) (by rw[bT,eg];rfl),?_⟩
 refine⟨tx.length,ahc,_,qa,fx,rfl,by lia,hqa.le (aK.le (f1.trans h2.sub)),hfx.le (aK.le h2.sub),fun H3 r2 s3 O5 LJ=>?_⟩
 have h3:=h2.same s3
 have d2:=(h3.pt _ aF).2.1
 have Iq:r2≠T.aa:=fun z=>by obtain⟨kv,e⟩:=c2.ex;have e:H2 T.aa=some (.dK kv):=e;rw[z,e]at O5;cases O5
 refine⟨tx.length,_,_,some 1,T.aa,r2,rfl,by lia,(by intro z;cases z),d2,LJ.dw,Iq,fun H4 Gw ai=>?_⟩
 refine kk F2 H4 f1 ?_
 have h4:=h3.Y8 _ Gw ai
 have e4:(fun j=>iT (T.l.ah j) (iB (some 1) (jZ ((bD (tx.length+1)).map fun q=>iB (ahc q) (iL g tx (r.right.drop (T.l.d+1)) q j)))))=(Tw.W3 g tx T.l ahc).ah:=by funext j;show _=iT (T.l.ah j) (jZ ((bD (tx.length+1)).map fun mid=>iB (ahc mid) (iL g tx ((Tw.lE g T.l.k).drop (T.l.d+1)) mid j)));rw[Tw.Yb,Tw.rH er]
 have e5:({T with l:={T.l with d:=T.l.d+1,ah:=fun j=>iT (T.l.ah j) (iB (some 1) (jZ ((bD (tx.length+1)).map fun q=>iB (ahc q) (iL g tx (r.right.drop (T.l.d+1)) q j))))}}:PA)=bc g tx T ahc:=by rw[e4];rfl
 rw[<-e5]
 exact h4
inductive OO(CW CP:Addr):Sp|mk {vs H Q Z} (g:Lr) (tx:T) (F:Hp) (A:WA) (x p:Nat) (bW:Ln) (P:PA) (S:List PA) (r:Rule) (R:Ln):vs=[.ref A.w,.ref P.a]->Wk g tx->WH g tx CW CP F H A x p bW (P::S)->g[P.l.k]? =some r->P.l.d<r.right.length->(P.l.bf=fun e=>iL g tx R e tx.length)->(∀F' H' b,aK F F'->WH g tx CW CP F' H' A x p bW (P::S)->DW tx.length F' b (fun e=>iL g tx (r.right.drop (P.l.d+1)++R) e tx.length)->Q (.ref b) H')->OO CW CP vs H Q Z
abbrev jy:Stmt:=iH (st 62) 3
theorem cf:cB ["self","part","behind","place","ways","trees"] ["self","part"] (bF jy):=oP
theorem mn(F:lY K "behind_next_symbol" "Walk.behind_next_symbol" jy f fd)(C:WC K CW CP)(Tp:uO mg)(qe:oG P w K mg aT 6 CW "rests_of_rule" ["self","number"] (OI CW CP))(N1:mW P w K mg aT 3 "trees_in_all" ["ways","behind"] Xf):eN P w K mg aT lM 7 f fd ["self","part"] (OO CW CP):=by
 refine oB F cf fun H Q hr h=>?_
 obtain⟨g,tx,F0,W,x,p,bW,T,S,r,R,rfl,wk,h,er,hd,hbf,kk⟩:=h
 have uM:=wk.2.2.2
 have nd:=cf.nd
 have hu:=jV hr
 have Pk:=hr.mono (show 3<=6 by decide)
 refine⟨_,aJ (sv (i:=2) nd mB)
  (aJ (gR bN rfl (Jx rfl Tp.enum (aB (jM gU (nL (pv 0) C.cw qe hr (aB (cT (pv 1) rfl) aP)) (jY nY (cT (pv 1) rfl) cH) (fun _ _=>rfl)) aP)) (mP rfl (dF (gv (i:=3) nd) (dF (gv (i:=4) nd) kI)))
   (aJ (sv (i:=5) nd (dW N1 Pk (aB (pv 4) (aB (cT (pv 1) rfl) aP))))
    (aU (gN (eM zd (pv 5) cH (fU _)) (aU (lV hu (pv 2) (pv 3) (pv 5) rfl)) dX))))
  (aU (cO (pv 2)))),?_⟩
 intro d dt
 have h1:=h.same (aK.upd (o:=.dK []) dt)
 obtain⟨cv,fd0⟩:=h.new dt
 have DR:bI H d (.dK []) d=some (.dK []):=aC
 have ve:DM tx.length (bI H d (.dK [])) d (fun _=>some 0):=EK
 generalize bI H d (.dK [])=H1 at*
 obtain⟨a1,a2,a3⟩:=h1.pt T aF
 refine⟨_,rfl,W.w,W.dx,_,rfl,h1.wo,rfl,_,rfl,T.a,CP,T.dx,_,_,rfl,a1,C.cp,C.number,rfl,g,tx,F0,W,x,p,bW,_,T.l.k,r,rfl,wk,h1,er,fun F2 H2 b f1 f2 h2 tF hR=>?_⟩
 have ph:d≠W.rs:=fun z=>cv (by rw[z];exact Hg)
 have TZ:DM tx.length H2 d (fun _=>some 0):=by obtain⟨js,q1,q2⟩:=ve;exact⟨js,q1,tF _ _ q2 (by simp[ph])⟩
 have ZQ:F2 d=none:=by
  cases z:F2 d with
  |none=>rfl
  |some o=>
   rcases f2 d (by rw[z];intro z;cases z)with z'|z'
   .exact absurd fd0 z'
   .rw[DR]at z';cases z'
 obtain⟨c1,c2,c3⟩:=h2.pt T aF
 obtain⟨fs,L6,U4,DQ⟩:=hR
 obtain⟨fx,eg⟩:∃fx,fs[T.l.d+1]? =some fx:=⟨_,bM (by lia)⟩
 obtain⟨ds,uw,MM,hdr⟩:=DQ _ fx eg
 refine⟨_,rfl,T.a,CP,T.dx,_,_,rfl,c1,C.cp,C.done,rfl,_,_,rfl,rfl,b,_,_,V.ref fx,rfl,rfl,cY (aK.le h2.sub _ _ iP L6),by rw[show((T.l.d:Int)+1)=((T.l.d+1:Nat):Int) by lia];exact fY (by rw[bT,eg];rfl),?_⟩
 refine⟨fx,_,rfl,cY (aK.le h2.sub _ _ iP uw),Fn (K:=K) (a:=fx) (xs:=ds.map V.ref) (i1:=3) (i2:=4) (fun i σ H'=>E3 fun v3 v4 v5=>A3 (σ=[some (.ref W.w),some (.ref T.a),some (.ref d),v3,v4,v5]) (WH g tx CW CP F2 H' W x p bW (T::S)) (DM tx.length H' d (fun e=>if e<i then iL g tx (r.right.drop (T.l.d+1)++R) e tx.length else some 0)))
  ⟨none,none,none,rfl,h2,by simpa using TZ⟩ (fun i σ H' _ ⟨_,_,_,_,h5,_⟩=>cY (aK.le h5.sub _ _ iP uw)) ?_ ?_⟩
 .rintro i y σ H3 hy ⟨v3,v4,v5,rfl,h3,LJ⟩ H4 s4;obtain⟨dd,ed,rfl⟩:=mQ hy;have hi:i<tx.length+1:=by have:=(aL.mp ed).1;lia
  have h4:=h3.same s4;have ai:=LJ.same s4;obtain⟨e1,e2,e3⟩:=h4.pt T aF;have ZH:=hdr i dd ed;refine⟨_,rfl,_,rfl,T.a,CP,T.dx,_,_,rfl,e1,C.cp,C.behind,rfl,tx.length,_,_,dd,T.be,rfl,ZH.le (aK.le h4.sub),e3.le (aK.le h4.sub),fun H5 s5=>?_⟩;have h5:=h4.same s5;have VR:=ai.same s5;rw[hbf,<-Tw.xC];refine⟨_,rfl,rfl,_,rfl,?_⟩;by_cases q:iL g tx (r.right.drop (T.l.d+1)++R) i tx.length=some 0
  .refine eE (by rw[q];rfl) ⟨_,_,_,rfl,h5,?_⟩
   have:(fun e=>if e<i+1 then iL g tx (r.right.drop (T.l.d+1)++R) e tx.length else some 0)=fun e=>if e<i then iL g tx (r.right.drop (T.l.d+1)++R) e tx.length else some 0:=by
    funext e;by_cases z:e=i
    .subst z;rw[if_pos (by lia),if_neg (by lia),q]
    .by_cases z2:e<i
     .rw[if_pos (by lia),if_pos z2]
     .rw[if_neg (by lia),if_neg z2]
   rw[this];exact VR
  .refine gB ?_ ?_
   .rw[Bool.not_eq_true',decide_eq_false_iff_not];intro z;injection z with z;exact q (ZZ.mp z)
   .obtain⟨kvs,k1,k2,k3⟩:=VR.ins (by lia) (i:=i) (c:=iL g tx (r.right.drop (T.l.d+1)++R) i tx.length) (if_neg (by lia)) q (by lia);refine⟨_,rfl,_,rfl,_,rfl,d,_,rfl,sL.k (k:=aV (i:Int)) k1 k2,_,_,_,rfl,h5.sx (SX.upd (by simp)) cv ZQ,?_⟩
    have:(fun e=>if e<i+1 then iL g tx (r.right.drop (T.l.d+1)++R) e tx.length else some 0)=fun e=>if e=i then iL g tx (r.right.drop (T.l.d+1)++R) i tx.length else if e<i then iL g tx (r.right.drop (T.l.d+1)++R) e tx.length else some 0:=by
     funext e;by_cases z:e=i
     .subst z;rw[if_pos (by lia),if_pos rfl]
     .rw[if_neg z];by_cases z2:e<i
      .rw[if_pos (by lia),if_pos z2]
      .rw[if_neg (by lia),if_neg z2]
    rw[this];exact k3
 .rintro σ H3 ⟨v3,v4,v5,rfl,h3,LJ⟩;rw[aA,MM]at LJ
  have e:(fun e=>if e<tx.length+1 then iL g tx (r.right.drop (T.l.d+1)++R) e tx.length else some 0)=fun e=>iL g tx (r.right.drop (T.l.d+1)++R) e tx.length:=by
   funext e;by_cases z:e<tx.length+1
   .rw[if_pos z]
   .rw[if_neg z];symm;rw[Tw.kC];intro c;have:=c.le;lia
  rw[e]at LJ;obtain⟨js,q1,q2⟩:=LJ;refine⟨_,rfl,kk (bI F2 d (.dK (sQ (fun e=>iL g tx (r.right.drop (T.l.d+1)++R) e tx.length) js))) H3 d (f1.trans (aK.upd ZQ)) (h3.grow (aK.upd ZQ) (fun a o z=>?_) fun m hm=>?_) ⟨js,q1,.inl aC⟩⟩
  .by_cases e:a=d
   .rw[e,aC]at z;cases z;rw[e];exact q2
   .rw[aH e]at z;exact h3.sub _ _ z
  .rw[aH (fun z=>cv (by rw[<-z];exact hm))];exact h3.fr m hm
theorem ny{c:Bool}{A B:Prop}(h1:c=true->A)(h2:c=false->B):if c=true then A else B:=by
 cases c
 .exact qF (h2 rfl)
 .exact oZ (h1 rfl)
theorem RR(l:Ln)(k:Nat):kL l++[.int (k:Int)]=kL (l++[k]):=by unfold kL;rw[aQ];rfl
inductive XF(CW CP:Addr):Sp|mk {vs H Q Z} (g:Lr) (tx:T) (F:Hp) (A:WA) (x p:Nat) (bW:Ln) (lU:List PA) (c:Nat) (be:Addr) (cE:Ln):vs=[.ref A.w,.int (c:Int),.ref be]->Wk g tx->WH g tx CW CP F H A x p bW lU->c<256->p<=tx.length->x<18446744073709551616->bW.length<=200000->lU.length<=200000->DW tx.length F be (fun e=>iL g tx (Tw.bh g (lU.map (·.l))) e tx.length)->Tw.At g tx cE x p bW (c::Tw.bh g (lU.map (·.l)))->(∀F' H' x' k r P,aK F F'->g[k]? =some r->r.left=c->P.l=Tw.zc g tx (lU.map (·.l)) c p k bW.length->WH g tx CW CP F' H' A x' p (bW++[k]) (P::lU)->Tw.At g tx cE x' p (bW++[k]) (r.right++Tw.bh g (lU.map (·.l)))->x'<=x->Q .iU H')->XF CW CP vs H Q Z
abbrev d9:Stmt:=iH (st 62) 6
theorem xb:cB ["self","name","behind","ahead","number","rule","ways","trees"] ["self","name","behind"] (bF d9):=oP
theorem A1(F:lY K "open_name" "Walk.open_name" d9 f fd)(C:WC K CW CP)(Tp:uO mg)(qe:oG P w K mg aT 6 CW "rests_of_rule" ["self","number"] (OI CW CP))(N1:mW P w K mg aT 3 "trees_in_all" ["ways","behind"] Xf)(hAW:mW P w K mg aT 3 "add_ways" ["ways","more","factor"] OP)
  (hPa:FA P w K mg aT 1 "Part" CP ["self","number","place","told_before","ahead","behind"] (jd CP)):eN P w K mg aT lM 7 f fd ["self","name","behind"] (XF CW CP):=by
 refine oB F xb fun H Q hr h=>?_
 obtain⟨g,tx,F0,W,x,p,bW,lU,c,be,cE,rfl,wk,h,hc,hp,Uw,DH,df,Iu,AU,kk⟩:=h
 have uM:=wk.2.2.2
 have wf:=wk.1
 have nd:=xb.nd
 have Pk:=hr.mono (show 3<=6 by decide)
 have Uy:=hr.mono (show 2<=6 by decide)
 refine⟨_,aJ (sv (i:=3) nd mB)
  (aU (gR bN rfl (Jx rfl Tp.enum (aB (cT (pv 0) rfl) aP)) (mP rfl (dF (gv (i:=4) nd) (dF (gv (i:=5) nd) kI)))
   (aU (gN (eM pF (jM Cv (pv 5) cH (fun _ _=>rfl)) (pv 1) (fU _))
    (aJ (sv (i:=6) nd (jM gU (jM gU (nL (pv 0) C.cw qe hr (aB (pv 4) aP)) cH (fun _ _=>rfl)) (cT (pv 0) rfl) (fun _ _=>rfl)))
    (aJ (sv (i:=7) nd (dW N1 Pk (aB (pv 6) (aB (pv 2) aP))))
    (aJ (gN (eM Xz (cT (pv 0) rfl) (pv 7) (fU _))
     (aJ (fM (uY cF eY eX oN (cT (pv 0) rfl) (aB (cq hPa Uy (aB (pv 4) (aB (cT (pv 0) rfl) (aB (eT eB (by rfl) Tp.len dO (aB (cT (pv 0) rfl) aP)) (aB (pv 3) (aB (pv 2) aP)))))) aP)))
     (aJ (fM (uY cF eY eX oN (cT (pv 0) rfl) (aB (pv 4) aP)))
     (aU GL))) dX)
    (aJ (wB (pv 0) (pv 7) RU)
    (aU (fM (dW hAW Pk (aB (pv 3) (aB (pv 6) (aB cH aP))))))))))
    dX)))),?_⟩
 intro d dt
 have h1:=h.same (aK.upd (o:=.dK []) dt)
 obtain⟨cv,fd0⟩:=h.new dt
 have ve:DM tx.length (bI H d (.dK [])) d (fun _=>some 0):=EK
 generalize bI H d (.dK [])=H1 at*
 obtain⟨ps,uA,vO⟩:=h.ru
 have lg:=dC vO
 obtain⟨ff,hff,uj⟩:=AU.open wf hc
 have ab0:(fun _=>some 0)=Tw.nA g tx c p 0:=by funext e;rw[Tw.Yq]
 rw[ab0]at ve
 refine⟨_,rfl,W.w,CW,W.dx,_,_,rfl,h1.wo,C.cw,C.rules,rfl,W.ru,_,rfl,cY (aK.le h1.sub _ _ iP uA),Fn (K:=K) (a:=W.ru) (xs:=ps.map V.ref) (i1:=4) (i2:=5) (fun i σ H'=>E6 fun F' x' v4 v5 v6 v7=>A7 (σ=[some (.ref W.w),some (.int c),some (.ref be),some (.ref d),v4,v5,v6,v7]) (aK F0 F') (F' d=none) (WH g tx CW CP F' H' W x' p bW lU) (DM tx.length H' d (Tw.nA g tx c p i)) (Tw.Jt g cE c bW ff i x') (x'<=x))
  ⟨F0,x,none,none,none,none,rfl,fun _ _ z=>z,fd0,h1,ve,uj,aY _⟩ (fun i σ H' _ ⟨_,_,_,_,_,_,_,f5,_,h5,_,_,_⟩=>cY (aK.le (f5.trans h5.sub) _ _ iP uA)) ?_ ?_⟩
 .rintro i y σ H2 hy ⟨F1,x1,v4,v5,v6,v7,rfl,f1,fd1,h2,TZ,sr,G4⟩ H3 s3;obtain⟨p0,ep,rfl⟩:=mQ hy;obtain⟨r,er,q,Cz,yR⟩:=gI vO ep;have h3:=h2.same s3;have LJ:=TZ.same s3;refine⟨_,rfl,p0,_,0,_,rfl,rfl,nE (aK.le (f1.trans h3.sub) _ _ Ew Cz),rfl,_,rfl,rfl,_,rfl,?_⟩;by_cases qc:r.left=c
  case neg=>
   refine eE (bH (fun z=>qc (by injection z with z;lia))) ⟨F1,x1,_,_,_,_,rfl,f1,fd1,h3,?_,sr.skip er qc,G4⟩;have:Tw.nA g tx c p (i+1)=Tw.nA g tx c p i:=by funext e;rw[Tw.Io er,if_neg qc]
   rw[this];exact LJ
  case pos=>
  refine gB (bB (by rw[qc])) ?_;obtain⟨Rn,sW,hcn⟩:=hff i r er qc;refine⟨_,rfl,W.w,W.dx,_,rfl,h3.wo,rfl,_,rfl,g,tx,F1,W,x1,p,bW,lU,i,r,rfl,wk,h3,er,fun F2 H4 b f2 g2 h4 Gw hR=>?_⟩
  have ZQ:F2 d=none:=by
   cases z:F2 d with
   |none=>rfl
   |some o=>
    rcases g2 d (by rw[z];intro z;cases z)with z'|z'
    .exact absurd fd1 z'
    .obtain⟨kv,e⟩:=LJ.ex;rw[e]at z';cases z'
  have ph:d≠W.rs:=fun z=>cv (by rw[z];exact Hg);have ai:DM tx.length H4 d (Tw.nA g tx c p i):=by obtain⟨js,q1,q2⟩:=LJ;exact⟨js,q1,Gw _ _ q2 (by simp[ph])⟩
  obtain⟨fs,L6,U4,DQ⟩:=hR;obtain⟨fx,eg⟩:∃fx,fs[0]? =some fx:=⟨_,bM (by lia)⟩;obtain⟨ds,uw,MM,hdr⟩:=DQ 0 fx eg;obtain⟨wd,ewd⟩:∃wd,ds[p]? =some wd:=⟨_,bM (by lia)⟩;have uh:=hdr p wd ewd;rw[qZ]at uh;refine⟨b,_,0,V.ref fx,rfl,rfl,cY (aK.le h4.sub _ _ iP L6),fY (j:=0) (by rw[bT,eg];rfl),_,rfl,W.w,CW,W.dx,_,_,rfl,h4.wo,C.cw,C.place,rfl,fx,_,_,V.ref wd,rfl,rfl,cY (aK.le h4.sub _ _ iP uw),fY (by rw[bT,ewd];rfl),?_⟩;refine⟨_,rfl,_,rfl,tx.length,_,_,wd,be,rfl,uh.le (aK.le h4.sub),Iu.le (aK.le (f1.trans (f2.trans h4.sub))),fun H5 s5=>?_⟩;have h5:=h4.same s5;have VR:=ai.same s5;rw[<-Tw.xC,hcn];generalize V7:enc (some (ff i).length)=tr;refine⟨_,rfl,W.w,CW,W.dx,_,_,rfl,h5.wo,C.cw,C.skipped,rfl,_,rfl,_,_,rfl,rfl,_,rfl,?_⟩;have BM:(x1:Int)<18446744073709551616:=zN.mpr (bV G4 Uw);have vk:0<=(x1:Int):=nD _;refine ny (fun sq=>?_) (fun sq=>?_)
  .have lt:x1<(ff i).length:=zN.mp ((CT BM vk).mp (V7 ▸ aR sq));refine⟨_,rfl,W.w,CW,W.dx,_,_,rfl,h5.wo,C.cw,C.parts,rfl,.inl ⟨rfl,_,iY.of h5.pa⟩,_,rfl,_,rfl,W.w,CW,W.dx,_,_,rfl,h5.wo,C.cw,C.place,rfl,_,rfl,W.w,CW,W.dx,_,_,rfl,h5.wo,C.cw,C.bW,rfl,W.tl,_,rfl,.inl (iY.of h5.tl),_,rfl,_,rfl,fun o dx ho L8 hdo=>?_⟩;have s6:aK H5 (bI (bI H5 dx (.own o)) o (.ins CP dx [])):=aK.then (aK.upd L8) ho;obtain⟨no,fo⟩:=h5.new ho;have h6:=h5.same s6;have dm6:=VR.same s6;have ho6:bI (bI H5 dx (.own o)) o (.ins CP dx []) o=some (.ins CP dx []):=aC;generalize bI (bI H5 dx (.own o)) o (.ins CP dx [])=H6 at*;refine⟨i,p,bW.length,o,dx,d,be,by rw[fO],ho6,fun H7 nm R8 VL ho7=>⟨rfl,?_⟩⟩;have h7:=h6.sx R8 no fo;have aaM:d≠o:=fun z=>by obtain⟨kv,e⟩:=VR.ex;rw[z,ho]at e;cases e
   have dm7:DM tx.length H7 d (Tw.nA g tx c p i):=by obtain⟨js,q1,q2⟩:=dm6;exact⟨js,q1,R8 _ _ q2 (by simp[aaM])⟩
   refine⟨W.pa,_,_,rfl,rfl,h7.pa,?_,?_⟩
   .rw[aA,IZ];exact bV df (by decide)
   .have h8:=h7.push (⟨o,dx,d,be,nm,p,Tw.zc g tx (lU.map fun(Q:PA)=>Q.l) c p i bW.length⟩:PA) ho7 dm7 (Iu.le (aK.le (f1.trans f2))) no cv fo ZQ;refine⟨_,rfl,W.w,CW,W.dx,_,_,rfl,h8.wo,C.cw,C.bW,rfl,.inl ⟨rfl,_,iY.of h8.tl⟩,_,rfl,W.tl,_,_,rfl,rfl,h8.tl,?_,?_⟩
    .rw[fO];exact bV DH (by decide)
    .have h9:=h8.Ee (bW++[i]);rw[RR];exact kk F2 _ x1 i r _ (f1.trans f2) er qc rfl h9 (sr.here er qc lt Rn sW) G4
  .have lt:¬x1<(ff i).length:=fun z=>of_decide_eq_false sq (V7 ▸ (CT BM vk).mpr (zN.mpr z));have L0:(ff i).length<=x1:=Nat.le_of_not_lt lt;have hle:((ff i).length:Int)<=x1:=BJ.mpr L0;have ee:enc (some (ff i).length)=((ff i).length:Int):=TM hle BM;rw[ee]at V7;subst V7;refine⟨_,rfl,W.w,CW,W.dx,_,_,rfl,h5.wo,C.cw,C.skipped,rfl,_,rfl,_,_,rfl,rfl,W.dx,_,h5.wo,(by show 9<1000;decide),?_⟩;have e6:iG "skipped" (V.int ((x1:Int)-((ff i).length:Int))) (Oi W tx.length x1 p)=Oi W tx.length (x1-(ff i).length) p:=by rw[<-Int.ofNat_sub L0];exact Qt ..
   have h6:=h5.xJ (x1-(ff i).length) p;have dm6:DM tx.length (bI H5 W.w (.ins CW W.dx (Oi W tx.length (x1-(ff i).length) p))) d (Tw.nA g tx c p i):=VR.at (aH (fun z=>cv (by rw[z];exact Ym)));dsimp only;rw[e6];generalize bI H5 W.w (.ins CW W.dx (Oi W tx.length (x1-(ff i).length) p))=H6 at*;have G5:wd≠d:=fun z=>by obtain⟨_,_,e⟩:=uh;rw[z]at e;rcases e with e|⟨o,e⟩<;>rw[ZQ]at e<;>cases e
   refine⟨_,rfl,_,rfl,tx.length,_,_,some 1,d,wd,rfl,by lia,(by intro z;cases z),dm6,uh.le (aK.le h6.sub),G5,fun H7 R8 dm7=>?_⟩;refine⟨F2,x1-(ff i).length,_,_,_,_,rfl,f1.trans f2,ZQ,h6.sx R8 cv ZQ,?_,sr.past er qc lt,bK (Nat.sub_le _ _) G4⟩;have:Tw.nA g tx c p (i+1)=fun j=>iT (Tw.nA g tx c p i j) (iB (some 1) (iL g tx r.right p j)):=by funext e;rw[Tw.Io er,if_pos qc,Tw.Yb]
   rw[this];exact dm7
 .rintro σ H2 ⟨F1,x1,v4,v5,v6,v7,rfl,f1,fd1,h2,TZ,sr,G4⟩;rw[aA,lg]at sr;exact(sr.end (aY _)).elim
theorem WH.WS{F:Hp}{A:WA}{x p:Nat}{P:PA}(h:WH g tx CW CP F H A x p bW (P::S)):P.a∉oY A S/\P.aa∉oY A S:=by
 obtain⟨a1,a2,_⟩:=h.pt P aF;have ME:=cQ.mp (show(P.a::S.map (·.a)).Nodup from h.d4);have ub:=cQ.mp (show(P.aa::S.map (·.aa)).Nodup from h.d5);obtain⟨ls,r1,_⟩:=h.rs;obtain⟨lk,k1,_⟩:=h.kp;constructor
 .intro m;unfold oY at m;simp only[aW,bG,pB,or_false]at m;rcases m with z|z|z|z|z|⟨Q,hQ,z|z⟩
  .exact h.d2 P aF z
  .exact zH a1 h.tl (by intro z;cases z) z
  .exact zH a1 h.pa (by intro z;cases z) z
  .exact zH a1 r1 (by intro z;cases z) z
  .exact zH a1 k1 (by intro z;cases z) z
  .exact ME.1 (by rw[z];exact aE.mpr ⟨Q,hQ,rfl⟩)
  .exact(h.pt Q (aD _ hQ)).2.1.ne a1 (by intro _ z;cases z) z.symm
 .intro m;unfold oY at m;simp only[aW,bG,pB,or_false]at m;rcases m with z|z|z|z|z|⟨Q,hQ,z|z⟩
  .exact a2.ne h.wo (by intro _ z;cases z) z
  .exact a2.ne h.tl (by intro _ z;cases z) z
  .exact a2.ne h.pa (by intro _ z;cases z) z
  .exact h.d3 P aF z
  .exact a2.ne k1 (by intro _ z;cases z) z
  .exact a2.ne (h.pt Q (aD _ hQ)).1 (by intro _ z;cases z) z
  .exact ub.1 (by rw[z];exact aE.mpr ⟨Q,hQ,rfl⟩)
theorem YU{ls:TL}(nd:(ls.map (·.1)).Nodup)(s i:Nat)(b:Addr):∃uc:TL,kG (Fg ls) (ky s i) (.ref b)=Fg uc/\(uc.map (·.1)).Nodup/\∀y∈uc,y=((s,i),b)∨y∈ls:=by
 rcases qM (ls:=ls) s i with ⟨h1,h2⟩|⟨b',h1,h2⟩
 .refine⟨_,Tv h2,?_,fun y hy=>?_⟩
  .rw[aQ];exact lW nd h1
  .rcases aN.mp hy with hy|hy
   .exact .inr hy
   .exact .inl (aO.mp hy)
 .refine⟨_,Xs h1,by rw[Ec];exact nd,fun y hy=>?_⟩;unfold Ee at hy;obtain⟨z,hz,rfl⟩:=aE.mp hy;by_cases e:z.1=(s,i)
  .rw[if_pos e,e];exact .inl rfl
  .rw[if_neg e];exact .inr hz
noncomputable def gc(g:Lr)(tx:T)(ah:Nat->Cn):List PA->List PA
 |[]=>[]
 |P::S=>bc g tx P ah::S
inductive jm(CW CP:Addr):Sp|mk {vs H Q Z} (g:Lr) (tx:T) (F:Hp) (A:WA) (x p:Nat) (bW lA:Ln) (P:PA) (S:List PA) (r:Rule):vs=[.ref A.w]->Wk g tx->WH g tx CW CP F H A x p bW (P::S)->g[P.l.k]? =some r->P.l.tb<=bW.length->lA=bW.drop P.l.tb->DP g tx [r.left] P.l.pl p lA->yB g tx r.left P.l.pl lA P.l.ah->bW.length<=65536->(∀P' S',S=P'::S'->∃r',g[P'.l.k]? =some r'/\P'.l.d<r'.right.length)->(∀F' H',aK F F'->WH g tx CW CP F' H' A x p bW (gc g tx P.l.ah S)->Q .iU H')->jm CW CP vs H Q Z
abbrev i5:Stmt:=iH (st 62) 7
theorem xi:cB ["self","part","spot"] ["self"] (bF i5):=oP
theorem B9(F:lY K "close_part" "Walk.close_part" i5 f fd)(C:WC K CW CP)(Tp:uO mg)(hPL:oG P w K mg aT 7 CW "put_into_last" ["self","part"] (GD CW CP)):eN P w K mg aT lM 8 f fd ["self"] (jm CW CP):=by
 refine oB F xi fun H Q hr h=>?_
 obtain⟨g,tx,F0,W,x,p,bW,lA,T,S,r,rfl,wk,h,er,og,ZU,dp,ah,uM,hnx,kk⟩:=h
 have nd:=xi.nd
 have hu:=jV hr
 refine⟨_,aJ (sv (i:=1) nd (Ub cF yN yM CJ (cT (pv 0) rfl)))
  (aJ (iV (pv 1) (tT xI (cT (pv 0) rfl) (uX (cT (pv 1) rfl)) Az) rfl)
  (aJ (iV (pv 1) (cT (pv 0) rfl) rfl)
  (aJ (sv (i:=2) nd (oX (aB (jM Cv (jM gU (cT (pv 0) rfl) (cT (pv 1) rfl) (fun _ _=>rfl)) cH (fun _ _=>rfl)) (aB (cT (pv 1) rfl) aP))))
  (aJ (lV hu (cT (pv 0) rfl) (pv 2) (jY Hc (fE (aB (pv 1) aP)) (tT xI (kR hu (cT (pv 0) rfl) (pv 2) (fE aP) ⟨rfl,rfl,rfl,rfl⟩) Az (uX (jY Mb (fB Tp.QU) cH)))) rfl)
  (aU (gN (Ek (cT (pv 0) rfl) (by intro _;rfl)) (aU (fM (nL (pv 0) C.cw hPL hr (aB (pv 1) aP)))) dX)))))),?_⟩
 obtain⟨a1,a2,a3⟩:=h.pt T aF
 obtain⟨l7,l6⟩:=h.WS
 have fTa:F0 T.a=none:=h.fr _ (Yo aF)
 have abT:F0 T.aa=none:=h.fr _ (Mm aF)
 have vc:=h.pa
 rw[jX,aQ]at vc
 refine⟨_,rfl,W.w,CW,W.dx,_,_,rfl,h.wo,C.cw,C.parts,rfl,.inl ⟨rfl,_,iY.of vc⟩,W.pa,_,V.ref T.a,rfl,rfl,vc,by simp,?_⟩
 rw[show((S.reverse.map fun P=>V.ref P.a)++([T].map fun P=>V.ref P.a)).dropLast=S.reverse.map fun P=>V.ref P.a by simp]
 have h1:=h.pop
 have b1:bI H W.pa (.lst (S.reverse.map fun P=>V.ref P.a)) T.a=some (.ins CP T.dx (Lw T)):=by rw[aH (zH a1 h.pa (by intro z;cases z))];exact a1
 have b2:DM tx.length (bI H W.pa (.lst (S.reverse.map fun P=>V.ref P.a))) T.aa T.l.ah:=a2.at (aH (a2.ne h.pa (by intro _ z;cases z)))
 generalize bI H W.pa (.lst (S.reverse.map fun P=>V.ref P.a))=H1 at*
 refine⟨_,rfl,W.w,CW,W.dx,_,_,rfl,h1.wo,C.cw,C.bW,rfl,_,rfl,T.a,CP,T.dx,_,_,rfl,b1,C.cp,C.before,rfl,_,rfl,W.tl,_,rfl,iY.of h1.tl,fun nm VL=>?_⟩
 rw[Rz,<-ZU]
 have s2:aK H1 (bI H1 nm (.lst (kL lA))):=aK.upd VL
 obtain⟨nnm,fnm⟩:=h1.new VL
 have h2:=h1.same s2
 have c1:=s2 _ _ b1
 have c2:=b2.same s2
 have c3:bI H1 nm (.lst (kL lA)) nm=some (.lst (kL lA)):=aC
 generalize bI H1 nm (.lst (kL lA))=H2 at*
 have nmT:nm≠T.a:=fun z=>by rw[z,b1]at VL;cases VL
 have aaT:T.aa≠T.a:=a2.ne a1 (by intro _ z;cases z)
 refine⟨_,rfl,T.a,CP,T.dx,_,rfl,c1,C.cp,C.numbers,(by show 8<1000;decide),?_⟩
 have h3:=h2.sx (H':=bI H2 T.a (.ins CP T.dx (iG "numbers" (V.ref nm) (Lw T)))) (SX.upd (by simp)) l7 fTa
 refine⟨_,rfl,W.w,CW,W.dx,_,_,rfl,h3.wo,C.cw,C.place,rfl,_,rfl,T.a,CP,T.dx,_,rfl,aC,C.cp,C.end_,(by show 8<1000;decide),?_⟩
 rw[nH]
 have e4:iG "end" (V.int (p:Int)) (iG "numbers" (V.ref nm) (Lw T))=AO T.l.k T.l.pl T.l.tb T.aa T.be T.l.d nm p:=rfl
 rw[e4]
 have h4:=h2.sx (H':=bI H2 T.a (.ins CP T.dx (AO T.l.k T.l.pl T.l.tb T.aa T.be T.l.d nm p))) (SX.upd (by simp)) l7 fTa
 have d1:bI H2 T.a (.ins CP T.dx (AO T.l.k T.l.pl T.l.tb T.aa T.be T.l.d nm p)) T.a=some (.ins CP T.dx (AO T.l.k T.l.pl T.l.tb T.aa T.be T.l.d nm p)):=aC
 have d2:DM tx.length (bI H2 T.a (.ins CP T.dx (AO T.l.k T.l.pl T.l.tb T.aa T.be T.l.d nm p))) T.aa T.l.ah:=c2.at (aH aaT)
 have d3:bI H2 T.a (.ins CP T.dx (AO T.l.k T.l.pl T.l.tb T.aa T.be T.l.d nm p)) nm=some (.lst (kL lA)):=by rw[aH nmT];exact c3
 generalize bI H2 T.a (.ins CP T.dx (AO T.l.k T.l.pl T.l.tb T.aa T.be T.l.d nm p))=H4 at*
 obtain⟨ps,p0,q,uA,ep,Cz,yR⟩:=Lg h4.sub h4.ru er
 refine⟨_,rfl,W.w,CW,W.dx,_,_,rfl,h4.wo,C.cw,C.rules,rfl,_,rfl,T.a,CP,T.dx,_,_,rfl,d1,C.cp,C.number,rfl,W.ru,_,_,V.ref p0,rfl,rfl,cY uA,fY (by rw[bT,ep];rfl),p0,_,0,_,rfl,rfl,nE Cz,rfl,_,rfl,T.a,CP,T.dx,_,_,rfl,d1,C.cp,C.PV,rfl,z2,fun b5 M8=>?_⟩
 have s5:aK H4 (bI H4 b5 (.tup [.int r.left,.int T.l.pl])):=aK.upd M8
 have t5:bI H4 b5 (.tup [.int r.left,.int T.l.pl]) b5=some (.tup [.int r.left,.int T.l.pl]):=aC
 generalize bI H4 b5 (.tup [.int r.left,.int T.l.pl])=H5 at*
 refine⟨_,rfl,z1,fun l1 DL=>?_⟩
 have s6:aK H5 (bI H5 l1 (.lst [.ref T.a])):=aK.upd DL
 have t6:bI H5 l1 (.lst [.ref T.a]) l1=some (.lst [.ref T.a]):=aC
 generalize bI H5 l1 (.lst [.ref T.a])=H6 at*
 have h6:=h4.same (s5.trans s6)
 obtain⟨lk,k1,k2,k3,k4⟩:=h6.kp
 refine⟨_,rfl,W.w,CW,W.dx,_,_,rfl,h6.wo,C.cw,C.kept,rfl,W.kp,rfl,sV (.inl k1),_,rfl,z0,fun l2 ZD=>?_⟩
 have s7:aK H6 (bI H6 l2 (.lst [])):=aK.upd ZD
 have t7:bI H6 l2 (.lst []) l2=some (.lst []):=aC
 generalize bI H6 l2 (.lst [])=H7 at*
 have t57:=s7 _ _ (s6 _ _ t5)
 refine⟨_,Fu (.inl (s7 _ _ k1)) t57,?_⟩
 have h7:=h6.same s7
 have old:∃(v:Addr) (qs:La),(eO (Fg lk) (ky r.left T.l.pl)).getD (.ref l2)=V.ref v/\H7 v=some (.lst (qs.map V.ref))/\∀y∈qs,Gf g tx CP F0 y r.left T.l.pl:=by
  rcases qM (ls:=lk) r.left T.l.pl with ⟨_,z⟩|⟨b,hb,z⟩
  .exact⟨l2,[],by rw[z];rfl,t7,by simp⟩
  .obtain⟨qs,z1,z2,z3⟩:=k4 _ hb;exact⟨b,qs,by rw[z];rfl,h7.sub _ _ z1,z3⟩
 obtain⟨v,qs,ev,hv,T6⟩:=old
 rw[ev]
 refine⟨_,_,rfl,rfl,_,rfl,v,_,rfl,iY.of hv,fun l3 hl3=>?_⟩
 have ec:Ad (qs.map V.ref) none (some ((8:Int)-1))=(qs.take 7).map V.ref:=by
  unfold Ad;rw[HT.Ef,show((8:Int)-1)=((7:Nat):Int) from rfl,HT.Aw,qZ,BE,List.map_take,aA];by_cases z:7<=qs.length
  .rw[lR z]
  .rw[Kn (by lia),eU (by rw[aA];lia),eU (by rw[aA];lia)]
 dsimp only at hl3 ⊢
 rw[ec]
 have s8:aK H7 (bI H7 l3 (.lst ((qs.take 7).map V.ref))):=aK.upd hl3
 have t8:bI H7 l3 (.lst ((qs.take 7).map V.ref)) l3=some (.lst ((qs.take 7).map V.ref)):=aC
 generalize bI H7 l3 (.lst ((qs.take 7).map V.ref))=H8 at*
 refine⟨l1,l3,_,_,rfl,rfl,s8 _ _ (s7 _ _ t6),t8,?_,fun l4 SK=>?_⟩
 .rw[aA,dB];exact bK (show[V.ref T.a].length+min 7 qs.length<=8 by simp;lia) (by decide)
 have el:[V.ref T.a]++(qs.take 7).map V.ref=(T.a::qs.take 7).map V.ref:=rfl
 rw[el]
 have s9:aK H8 (bI H8 l4 (.lst ((T.a::qs.take 7).map V.ref))):=aK.upd SK
 have t9:bI H8 l4 (.lst ((T.a::qs.take 7).map V.ref)) l4=some (.lst ((T.a::qs.take 7).map V.ref)):=aC
 have h8:=h7.same s8
 obtain⟨nl4,fl4⟩:=h8.new SK
 generalize bI H8 l4 (.lst ((T.a::qs.take 7).map V.ref))=H9 at*
 have S2:aK H4 H9:=s5.trans (s6.trans (s7.trans (s8.trans s9)))
 have h9:=h4.same S2
 obtain⟨js,hW,qd⟩:=d2
 have k7:l4≠T.a:=fun z=>by rw[z,s8 _ _ (s7 _ _ (s6 _ _ (s5 _ _ d1)))]at SK;cases SK
 have D5:l4≠T.aa:=fun z=>by rw[z,s8 _ _ (s7 _ _ (s6 _ _ (s5 _ _ qd)))]at SK;cases SK
 have D4:l4≠nm:=fun z=>by rw[z,s8 _ _ (s7 _ _ (s6 _ _ (s5 _ _ d3)))]at SK;cases SK
 have k6:nm≠T.aa:=fun z=>by rw[z,qd]at d3;cases d3
 let F1:Hp:=bI (bI (bI (bI F0 T.a (.ins CP T.dx (AO T.l.k T.l.pl T.l.tb T.aa T.be T.l.d nm p))) T.aa (.dK (sQ T.l.ah js))) nm (.lst (kL lA))) l4 (.lst ((T.a::qs.take 7).map V.ref))
 have f1:aK F0 F1:=aK.then (aK.then (aK.then (aK.upd fTa) abT) fnm) fl4
 have q4:F1 l4=some (.lst ((T.a::qs.take 7).map V.ref)):=aC
 have q3:F1 nm=some (.lst (kL lA)):=by show bI _ l4 _ nm=_;rw[aH (Ne.symm D4)];exact aC
 have q2:F1 T.aa=some (.dK (sQ T.l.ah js)):=by show bI _ l4 _ T.aa=_;rw[aH (Ne.symm D5),aH (Ne.symm k6)];exact aC
 have q1:F1 T.a=some (.ins CP T.dx (AO T.l.k T.l.pl T.l.tb T.aa T.be T.l.d nm p)):=by show bI _ l4 _ T.a=_;rw[aH (Ne.symm k7),aH (Ne.symm nmT),aH (Ne.symm aaT)];exact aC
 have f2:aK F1 H9:=fun a o z=>by
  by_cases z4:a=l4
  .rw[z4]at z ⊢;rw[q4]at z;cases z;exact t9
  .by_cases z3:a=nm
   .rw[z3]at z ⊢;rw[q3]at z;cases z;exact S2 _ _ d3
   .by_cases z2:a=T.aa
    .rw[z2]at z ⊢;rw[q2]at z;cases z;exact S2 _ _ qd
    .by_cases z1:a=T.a
     .rw[z1]at z ⊢;rw[q1]at z;cases z;exact S2 _ _ d1
     .have z:bI (bI (bI (bI F0 T.a _) T.aa _) nm _) l4 _ a=some o:=z;rw[aH z4,aH z3,aH z2,aH z1]at z;exact h9.sub _ _ z
 have f3:∀m∈oY W S,F1 m=none:=fun m hm=>by show bI (bI (bI (bI F0 T.a _) T.aa _) nm _) l4 _ m=none;rw[aH (fun z=>nl4 (by rw[<-z];exact hm)),aH (fun z=>nnm (by rw[<-z];exact hm)),aH (fun z=>l6 (by rw[<-z];exact hm)),aH (fun z=>l7 (by rw[<-z];exact hm))];exact h9.fr m hm
 have hK:Gf g tx CP F1 T.a r.left T.l.pl:=⟨T.dx,T.l.k,T.l.tb,T.aa,T.be,T.l.d,nm,p,lA,T.l.ah,q1,q3,⟨js,hW,.inl q2⟩,dp,ah,by rw[ZU,jK];lia⟩
 clear_value F1
 have h10:=h9.grow f1 f2 f3
 obtain⟨uc,abY,nd',K8⟩:=YU k2 r.left T.l.pl l4
 have aeC:=(wk.1 r (aG er)).1
 have Pl:T.l.pl<=tx.length:=bK dp.le.1 dp.le.2
 have O3:=h10.Y7 uc nd' (fun y hy=>by
  rcases K8 y hy with rfl|hy
  .exact⟨by show r.left<512;lia,Pl⟩
  .exact k3 y hy) (fun y hy=>by
  rcases K8 y hy with rfl|hy
  .refine⟨T.a::qs.take 7,q4,by simp;lia,fun z hz=>?_⟩
   rcases aW.mp hz with rfl|hz
   .exact hK
   .exact(T6 z (sN hz)).same f1
  .obtain⟨j4,z1,z2,z3⟩:=k4 y hy
   exact⟨j4,f1 _ _ z1,z2,fun z hz=>(z3 z hz).same f1⟩)
 refine⟨_,rfl,W.w,CW,W.dx,_,_,rfl,h9.wo,C.cw,C.kept,rfl,_,rfl,W.kp,_,rfl,sL.t (k:=ky r.left T.l.pl) (s9 _ _ (s8 _ _ (s7 _ _ k1))) (s9 _ _ (s8 _ _ t57)) (HD k2 k3 (by have:=wk.2.2.2;lia)),?_⟩
 rw[abY]
 generalize bI H9 W.kp (.dT (Fg uc))=H11 at*
 refine⟨_,rfl,W.w,CW,W.dx,_,_,rfl,O3.wo,C.cw,C.parts,rfl,!((S.reverse.map fun P=>V.ref P.a).isEmpty),.inl ⟨_,iY.of O3.pa,rfl⟩,?_⟩
 cases S with
 |nil=>exact qF (kk F1 H11 f1 O3)
 |cons T' S'=>obtain⟨r',qt,M1⟩:=hnx T' S' rfl;refine gB (by simp) ⟨_,rfl,W.w,W.dx,_,rfl,O3.wo,rfl,_,rfl,g,tx,F1,W,x,p,bW,T',S',r',T.a,T.dx,T.aa,_,T.l.ah,rfl,wk,O3,qt,M1,q1,rfl,⟨js,hW,.inl q2⟩,fun F2 H12 f12 qg=>?_⟩;exact kk F2 H12 (f1.trans f12) qg
def vj(g:Lr)(tx:T)(CW CP:Addr)(F:Hp)(A:WA)(x p:Nat)(bW:Ln)(lU:List PA)(c:Nat)(cE:Ln)(Q:Hp->Prop):Prop:=
 ∀F' H' x' k r P,aK F F'->g[k]? =some r->r.left=c->P.l=Tw.zc g tx (lU.map (·.l)) c p k bW.length->WH g tx CW CP F' H' A x' p (bW++[k]) (P::lU)->Tw.At g tx cE x' p (bW++[k]) (r.right++Tw.bh g (lU.map (·.l)))->x'<=x->Q H'
inductive ir(CW CP:Addr):Sp|mk {vs H Q Z} (g:Lr) (tx:T) (F:Hp) (A:WA) (x p:Nat) (bW:Ln) (P:PA) (S:List PA) (r:Rule) (c:Nat) (be:Addr) (cE:Ln):vs=[.ref A.w,.int (c:Int),.ref be]->Wk g tx->WH g tx CW CP F H A x p bW (P::S)->g[P.l.k]? =some r->P.l.d<r.right.length->c<256->p<=tx.length->x<18446744073709551616->bW.length<=65536->(P::S).length<=65536->DW tx.length F be (fun e=>iL g tx (Tw.bh g ((P::S).map (·.l))) e tx.length)->Tw.At g tx cE x p bW (c::Tw.bh g ((P::S).map (·.l)))->vj g tx CW CP F A x p bW (P::S) c cE (fun H'=>Q .iU H')->(∀F' H' x' e lA ahc,aK F F'->DP g tx [c] p e lA->yB g tx c p lA ahc->lA.length<=65536->WH g tx CW CP F' H' A x' e (bW++lA) (bc g tx P ahc::S)->Tw.At g tx cE x' e (bW++lA) (Tw.bh g ((P::S).map (·.l)))->x'<=x->Q .iU H')->ir CW CP vs H Q Z
abbrev c5:Stmt:=iH (st 62) 5
theorem wq:cB ["self","name","behind","part","ahead"] ["self","name","behind"] (bF c5):=oP
theorem zl(F:lY K "take_name" "Walk.take_name" c5 f fd)(C:WC K CW CP)(hPL:oG P w K mg aT 7 CW "put_into_last" ["self","part"] (GD CW CP))(hON:oG P w K mg aT 7 CW "open_name" ["self","name","behind"] (XF CW CP))(N1:mW P w K mg aT 3 "trees_in_all" ["ways","behind"] Xf)(hPs:mW P w K mg aT 2 "plus" ["one","other"] Co):eN P w K mg aT lM 8 f fd ["self","name","behind"] (ir CW CP):=by
 refine oB F wq fun H Q hr h=>?_
 obtain⟨g,tx,F0,W,x,p,bW,T,S,r,c,be,cE,rfl,wk,h,er,hd,hc,hp,Uw,DH,df,Iu,AU,ko,kj⟩:=h
 have wf:=wk.1
 have nd:=wq.nd
 have hu:=jV hr
 have Uy:=hr.mono (show 2<=7 by decide)
 have Pk:=hr.mono (show 3<=7 by decide)
 refine⟨_,aJ (gR bN rfl (gT (kR hu (cT (pv 0) rfl) (oX (aB (pv 1) (aB (cT (pv 0) rfl) aP))) (fE aP) ⟨rfl,rfl,rfl,rfl⟩)) (gv (i:=3) nd)
   (aJ (sv (i:=4) nd (dW N1 Pk (aB (cT (pv 3) rfl) (aB (pv 2) aP))))
   (aU (gN (CC (sG (Hb hu (cT (pv 3) rfl) (pv 2)) (by with_unfolding_all rfl)) (Tu (El tU Xz (pv 4) (cT (pv 0) rfl) (dW hPs Uy (aB (pv 4) (aB (nM hu (pv 2) (cT (pv 3) rfl) (fun _ _=>rfl)) aP)))))).pt
    (aJ (wB (pv 0) (pv 4) RU)
    (aJ (fM (uY cF lK lJ wF (cT (pv 0) rfl) (aB (cT (pv 3) rfl) aP)))
    (aJ (iV (pv 0) (cT (pv 3) rfl) rfl)
    (aJ (fM (nL (pv 0) C.cw hPL hr (aB (pv 3) aP)))
    (aU GL))))) dX))))
  (aU (fM (nL (pv 0) C.cw hON hr (aB (pv 1) (aB (pv 2) aP))))),?_⟩
 obtain⟨lk,k1,k2,k3,k4⟩:=h.kp
 refine⟨_,rfl,W.w,CW,W.dx,_,_,rfl,h.wo,C.cw,C.kept,rfl,W.kp,rfl,sV (.inl k1),_,rfl,_,rfl,W.w,CW,W.dx,_,_,rfl,h.wo,C.cw,C.place,rfl,z2,fun b hb=>⟨z0,fun l2 ZD=>?_⟩⟩
 have s1:aK H (bI (bI H b (.tup [.int c,.int p])) l2 (.lst [])):=(aK.upd hb).trans (aK.upd ZD)
 have t1:bI (bI H b (.tup [.int c,.int p])) l2 (.lst []) b=some (.tup [.int (c:Int),.int (p:Int)]):=by rw[aH (cK aC ZD)];exact aC
 have t2:bI (bI H b (.tup [.int c,.int p])) l2 (.lst []) l2=some (.lst []):=aC
 generalize bI (bI H b (.tup [.int c,.int p])) l2 (.lst [])=H1 at*
 have h1:=h.same s1
 refine⟨_,Fu (.inl (s1 _ _ k1)) t1,?_⟩
 have old:∃(v:Addr) (qs:La),(eO (Fg lk) (ky c p)).getD (.ref l2)=V.ref v/\H1 v=some (.lst (qs.map V.ref))/\∀y∈qs,Gf g tx CP F0 y c p:=by
  rcases qM (ls:=lk) c p with ⟨_,z⟩|⟨b,hb,z⟩
  .exact⟨l2,[],by rw[z];rfl,t2,by simp⟩
  .obtain⟨qs,z1,z2,z3⟩:=k4 _ hb;exact⟨b,qs,by rw[z];rfl,h1.sub _ _ z1,z3⟩
 obtain⟨v,qs,ev,hv,T6⟩:=old
 rw[ev]
 refine⟨v,rfl,⟨_,iY.of hv⟩,mG (K:=K) (a:=v) (xs:=qs.map V.ref) (fun i σ H'=>E2 fun v3 v4=>σ=[some (.ref W.w),some (.int c),some (.ref be),v3,v4]/\aK H1 H') ⟨none,none,rfl,aK.refl _⟩ (fun i σ H' _ ⟨_,_,_,s⟩=>iY.of (s _ _ hv)) ?_ ?_⟩
 .rintro i y σ H2 hy ⟨v3,v4,rfl,s2⟩;obtain⟨q,eq,rfl⟩:=mQ hy;obtain⟨dx,k,tb,aa,be',d,nm,e,lA,ah,z1,z2,z3,dp,Q3,oh⟩:=T6 q (aG eq);have h2:=h1.same s2;obtain⟨a,ea⟩:=AU.total wf hc dp Q3;refine⟨_,rfl,q,CP,dx,_,_,rfl,h2.sub _ _ z1,C.cp,C.ahead,rfl,_,rfl,tx.length,ah,_,aa,be,rfl,z3.le (aK.le h2.sub),Iu.le (aK.le h2.sub),fun H3 s3=>?_⟩;rw[ea];have h3:=h2.same s3;have i7:=s2.trans s3;generalize eta:enc (some a)=ta;obtain⟨js,hW,Hn⟩:=Iu;have aaR:=aK.le h3.sub _ _ qV Hn;have hg:=kS aaR (aV (e:Int));rw[hW.val e]at hg;have vk:0<=(x:Int):=nD _;have BM:(x:Int)<18446744073709551616:=zN.mpr Uw;refine⟨_,rfl,q,CP,dx,_,_,rfl,h3.sub _ _ z1,C.cp,C.end_,rfl,_,rfl,be,_,rfl,hg,_,rfl,?_⟩;by_cases du:iL g tx (Tw.bh g ((T::S).map (·.l))) e tx.length≠some 0;case neg=>rw[if_neg du];exact qF (qF ⟨_,_,rfl,i7⟩)
  case pos=>
  rw[if_pos du]at hg ⊢;obtain⟨bb,ebb⟩:=AU.behind ⟨lA,dp⟩;rw[ebb]at hg ⊢;refine oZ ?_;refine⟨_,rfl,_,rfl,W.w,CW,W.dx,_,_,rfl,h3.wo,C.cw,C.skipped,rfl,_,_,rfl,rfl,_,rfl,?_⟩;refine ny (fun zle=>?_) (fun zle=>?_);case refine_2=>exact⟨_,rfl,qF ⟨_,_,rfl,i7⟩⟩
  refine⟨_,rfl,_,rfl,_,rfl,q,CP,dx,_,_,rfl,h3.sub _ _ z1,C.cp,C.end_,rfl,be,_,rfl,hg,some a,some bb,by rw[eta],?_⟩;have eab:iT (some a) (some bb)=some (a+bb):=rfl;rw[eab];generalize etb:enc (some (a+bb))=tb2;refine⟨_,_,rfl,rfl,_,rfl,?_⟩;refine ny (fun sq=>?_) (fun sq=>⟨_,_,rfl,i7⟩);have hle:a<=x:=BJ.mp ((TK BM vk).mp (eta ▸ aR zle));have oT:x<a+bb:=zN.mp ((CT BM vk).mp (etb ▸ aR sq));have ee:enc (some a)=(a:Int):=TM (BJ.mpr hle) BM;rw[ee]at eta;subst eta;refine⟨_,rfl,W.w,CW,W.dx,_,_,rfl,h3.wo,C.cw,C.skipped,rfl,_,rfl,_,_,rfl,rfl,W.dx,_,h3.wo,(by show 9<1000;decide),?_⟩;have e4:iG "skipped" (V.int ((x:Int)-(a:Int))) (Oi W tx.length x p)=Oi W tx.length (x-a) p:=by rw[<-Int.ofNat_sub hle];exact Qt ..
  have h4:=h3.xJ (x-a) p;dsimp only;rw[e4];generalize bI H3 W.w (.ins CW W.dx (Oi W tx.length (x-a) p))=H4 at*;refine⟨_,rfl,W.w,CW,W.dx,_,_,rfl,h4.wo,C.cw,C.bW,rfl,.inl ⟨rfl,_,iY.of h4.tl⟩,_,rfl,q,CP,dx,_,_,rfl,h4.sub _ _ z1,C.cp,C.numbers,rfl,W.tl,nm,_,_,rfl,rfl,h4.tl,h4.sub _ _ z2,?_,?_⟩
  .rw[fO,fO];exact bK (Nat.add_le_add DH oh) (by decide)
  .have h5:=h4.Ee (bW++lA);have ei:kL bW++kL lA=kL (bW++lA):=by unfold kL;rw[aQ]
   rw[ei];generalize bI H4 W.tl (.lst (kL (bW++lA)))=H5 at*;refine⟨_,rfl,q,CP,dx,_,_,rfl,h5.sub _ _ z1,C.cp,C.end_,rfl,_,rfl,W.w,CW,W.dx,_,rfl,h5.wo,C.cw,C.place,(by show 9<1000;decide),?_⟩;have h6:=h5.xJ (x-a) e;have e6:iG "place" (V.int (e:Int)) (Oi W tx.length (x-a) p)=Oi W tx.length (x-a) e:=Lo ..;rw[e6];generalize bI H5 W.w (.ins CW W.dx (Oi W tx.length (x-a) e))=H6 at*;refine⟨_,rfl,W.w,W.dx,_,rfl,h6.wo,rfl,_,rfl,g,tx,F0,W,x-a,e,bW++lA,T,S,r,q,dx,aa,_,ah,rfl,wk,h6,er,hd,z1,rfl,z3,fun F7 H7 f7 h7=>?_⟩;exact kj F7 H7 (x-a) e lA ah f7 dp Q3 oh h7 (AU.o6 wf hc dp Q3 ea ebb hle oT) (Nat.sub_le _ _)
 .rintro σ H2 ⟨v3,v4,rfl,s2⟩;have h2:=h1.same s2;exact⟨_,rfl,W.w,W.dx,_,rfl,h2.wo,rfl,_,rfl,_,rfl,g,tx,F0,W,x,p,bW,T::S,c,be,cE,rfl,wk,h2,hc,hp,Uw,by lia,by lia,Iu,AU,ko⟩
def R4(g:Lr)(tx:T)(start:Nat)(cE:Ln)(x p:Nat)(bW:Ln):List PA->Prop
 |[]=>bW=cE
 |P::S=>Tw.LV g tx start P.l (S.map (·.l)) p bW/\Tw.At g tx cE x p bW (Tw.row g ((P::S).map (·.l)))
def HX(g:Lr)(cE bW:Ln)(lU:List PA):Nat:=(cE.length-bW.length)*18+(Tw.row g (lU.map (·.l))).length+lU.length
theorem RV{start:Nat}{P:PL}{S:List PL}{p:Nat}(h:Tw.LV g tx start P S p bW):p<=tx.length:=by obtain⟨_,_,_,_,_,_,_,d,_⟩:=h;exact d.le.2
inductive jg(CW CP:Addr):Sp|mk {vs H Q Z} (g:Lr) (tx:T) (F:Hp) (A:WA) (x p:Nat) (bW:Ln) (P:PA) (S:List PA) (start:Nat) (cE:Ln):vs=[.ref A.w,.ref P.a]->Wk g tx->WH g tx CW CP F H A x p bW (P::S)->x<18446744073709551616->bW.length<=65536->R4 g tx start cE x p bW (P::S)->(∀F' H' x' p' Kw ic,aK F F'->WH g tx CW CP F' H' A x' p' Kw ic->x'<=x->Kw.length<=131072->R4 g tx start cE x' p' Kw ic->HX g cE Kw ic<HX g cE bW (P::S)->Q .iU H')->jg CW CP vs H Q Z
abbrev f6:Stmt:=iH (st 62) 2
theorem xf:cB ["self","part","right"] ["self","part"] (bF f6):=oP
theorem B3(F:lY K "go_on_with" "Walk.go_on_with" f6 f fd)(C:WC K CW CP)(Tp:uO mg)(hCP:oG P w K mg aT 8 CW "close_part" ["self"] (jm CW CP))(hTN:oG P w K mg aT 8 CW "take_name" ["self","name","behind"] (ir CW CP))(hBN:oG P w K mg aT 7 CW "behind_next_symbol" ["self","part"] (OO CW CP))(hB:mW P w K mg aT 1 "is_byte" ["symbol"] vY):eN P w K mg aT lM 9 f fd ["self","part"] (jg CW CP):=by
 refine oB F xf fun H Q hr h=>?_
 obtain⟨g,tx,F0,W,x,p,bW,T,S,start,cE,rfl,wk,h,Uw,uM,⟨inp,AU⟩,kk⟩:=h
 have wf:=wk.1
 have nd:=xf.nd
 have yJ:=hr.mono (show 1<=8 by decide)
 have y0:=hr.mono (show 7<=8 by decide)
 refine⟨_,aJ (sv (i:=2) nd (jM Cv (jM gU (cT (pv 0) rfl) (cT (pv 1) rfl) (fun _ _=>rfl)) cH (fun _ _=>rfl)))
  (aU (gN (eM pF (cT (pv 1) rfl) (eT eB (by rfl) Tp.len dO (aB (pv 2) aP)) (fU _)) (aU (fM (Cr (pv 0) C.cw hCP hr)))
   (aU (gN (nF (dW hB yJ (aB (jM gU (pv 2) (cT (pv 1) rfl) (fun _ _=>rfl)) aP))) (aJ (wB (pv 0) cH Cy) (aU (wB (pv 1) cH Cy)))
    (aU (fM (nL (pv 0) C.cw hTN hr (aB (jM gU (pv 2) (cT (pv 1) rfl) (fun _ _=>rfl)) (aB (nL (pv 0) C.cw hBN y0 (aB (pv 1) aP)) aP))))))))),?_⟩
 obtain⟨a1,a2,a3⟩:=h.pt T aF
 have KQ:=inp
 obtain⟨r,u,v,er,aiZ,adZ,og,ML,hah,hbf,ai8⟩:=inp
 have DI:Tw.lE g T.l.k=r.right:=Tw.rH er
 obtain⟨ps,p0,q,uA,ep,Cz,yR⟩:=Lg h.sub h.ru er
 have Bc:r.right.length<=16:=wk.2.2.1 r (aG er)
 refine⟨_,rfl,W.w,CW,W.dx,_,_,rfl,h.wo,C.cw,C.rules,rfl,_,rfl,T.a,CP,T.dx,_,_,rfl,a1,C.cp,C.number,rfl,W.ru,_,_,V.ref p0,rfl,rfl,cY uA,fY (by rw[bT,ep];rfl),p0,_,1,_,rfl,rfl,nE Cz,rfl,?_⟩
 refine⟨_,rfl,T.a,CP,T.dx,_,_,rfl,a1,C.cp,C.done,rfl,_,rfl,q,_,rfl,.inl (cY yR),rfl,_,rfl,?_⟩
 have hlen:=KQ.len
 by_cases hd:T.l.d=r.right.length
 .refine gB (bB (by rw[fO,hd])) ?_;obtain⟨u',lA,e1,e2,dp,ah,fe⟩:=KQ.whole wf er hd;have ZU:lA=bW.drop T.l.tb:=by rw[e1,<-e2];simp
  have w8:T.l.tb<=bW.length:=by rw[e1,<-e2];simp
  refine⟨_,rfl,W.w,W.dx,_,rfl,h.wo,rfl,g,tx,F0,W,x,p,bW,lA,T,S,r,rfl,wk,h,er,w8,ZU,dp,ah,uM,?_,fun F' H' f1 h1=>?_⟩
  .intro P' S' eS;rw[eS]at fe;obtain⟨r',_,_,z1,z2,_⟩:=fe;exact⟨r',z1,(aL.mp z2).1⟩
  .have Zl:Tw.row g ((T::S).map (·.l))=Tw.bh g (S.map (·.l)):=by show(Tw.lE g T.l.k).drop T.l.d++Tw.bh g (S.map (·.l))=_;rw[DI,hd,sC];rfl
   cases S with
   |nil=>have aaY:Tw.At g tx cE x p bW []:=(by rw[Zl]at AU;exact AU);refine kk F' H' x p bW [] f1 h1 (aY _) (by lia) aaY.nil ?_;show(cE.length-bW.length)*18+0+0<(cE.length-bW.length)*18+(Tw.row g ([T].map (·.l))).length+1;lia
   |cons T' S'=>
    refine kk F' H' x p bW _ f1 h1 (aY _) (by lia) ⟨?_,?_⟩ ?_
    .have:=Tw.LW.put (ahc:=T.l.ah) wf fe (wf r (aG er)).1 dp ah;rw[<-e1]at this;exact this
    .rw[Zl]at AU;exact AU
    .show(cE.length-bW.length)*18+(Tw.bh g ((T'::S').map (·.l))).length+(S'.length+1)<(cE.length-bW.length)*18+(Tw.row g ((T::T'::S').map (·.l))).length+(S'.length+1+1);rw[Zl];lia
 .refine eE (bH (fun z=>hd (by injection z with z;rw[fO]at z;lia))) ?_;have pk:T.l.d<r.right.length:=by lia
  obtain⟨s,es⟩:∃s,r.right[T.l.d]? =some s:=⟨_,bM pk⟩;have AV:(Tw.lE g T.l.k)[T.l.d]? =some s:=by rw[DI];exact es
  have Zl:Tw.row g ((T::S).map (·.l))=s::Tw.bh g ((T::S).map (·.l)):=Tw.PB AV;rw[Zl]at AU;have ad0:s<512:=(wf r (aG er)).2 s (aG es);refine⟨_,rfl,_,rfl,T.a,CP,T.dx,_,_,rfl,a1,C.cp,C.done,rfl,q,_,_,V.int s,rfl,rfl,cY yR,fY (by unfold kL;rw[bT,es];rfl),s,rfl,_,rfl,?_⟩;by_cases hb:256<=s
  .refine gB (bB (by lia)) ?_;obtain⟨hc,aaX⟩:=AU.byte hb;refine⟨_,rfl,W.w,CW,W.dx,_,_,rfl,h.wo,C.cw,C.place,rfl,_,_,rfl,rfl,W.dx,_,h.wo,(by show 9<1000;decide),?_⟩;have e1:iG "place" (V.int ((p:Int)+1)) (Oi W tx.length x p)=Oi W tx.length x (p+1):=by rw[show((p:Int)+1)=((p+1:Nat):Int) from rfl];exact Lo ..
   have h1:=h.xJ x (p+1);dsimp only;rw[e1];generalize bI H W.w (.ins CW W.dx (Oi W tx.length x (p+1)))=H1 at*;obtain⟨b1,b2,b3⟩:=h1.pt T aF;refine⟨_,rfl,T.a,CP,T.dx,_,_,rfl,b1,C.cp,C.done,rfl,_,_,rfl,rfl,T.dx,_,b1,(by show 8<1000;decide),?_⟩;have e2:iG "done" (V.int ((T.l.d:Int)+1)) (Lw T)=Lw {T with l:={T.l with d:=T.l.d+1}}:=by rw[show((T.l.d:Int)+1)=((T.l.d+1:Nat):Int) from rfl];exact Qu ..
   have h2:=h1.we (T.l.d+1) {T.l with d:=T.l.d+1} rfl;dsimp only;rw[e2];refine kk F0 _ x (p+1) bW _ (fun _ _ z=>z) h2 (aY _) (by lia) ⟨KQ.byte AV hb hc,aaX⟩ ?_;show(cE.length-bW.length)*18+(Tw.bh g ((T::S).map (·.l))).length+(S.length+1)<(cE.length-bW.length)*18+(Tw.row g ((T::S).map (·.l))).length+(S.length+1);rw[Zl];simp
  .refine eE (bH (by lia)) ?_;have hs:s<256:=by lia
   have fe:Tw.LW g tx start (T.l::S.map (·.l)) p bW s:=KQ.fe AV;refine⟨_,rfl,W.w,W.dx,_,rfl,h.wo,rfl,_,rfl,_,rfl,T.a,CP,T.dx,_,_,rfl,a1,C.cp,C.done,rfl,q,_,_,V.int s,rfl,rfl,cY yR,fY (by unfold kL;rw[bT,es];rfl),?_⟩;refine⟨_,rfl,W.w,W.dx,_,rfl,h.wo,rfl,_,rfl,g,tx,F0,W,x,p,bW,T,S,r,_,rfl,wk,h,er,pk,hbf,fun F1 H1 be f1 h1 Iu=>?_⟩;have ebh:Tw.bh g ((T::S).map (·.l))=r.right.drop (T.l.d+1)++Tw.bh g (S.map (·.l)):=by show(Tw.lE g T.l.k).drop (T.l.d+1)++_=_;rw[DI]
   rw[<-ebh]at Iu;have uk:(T::S).length<=65536:=by have:(T.l::S.map (·.l)).length=(T::S).length:=(by simp);rw[this]at hlen;lia
   refine⟨g,tx,F1,W,x,p,bW,T,S,r,s,be,cE,rfl,wk,h1,er,pk,hs,RV KQ,Uw,uM,uk,Iu,AU,?_,?_⟩
   .intro F2 H2 x' k r' P' f2 ek el vd h2 LD hx;refine kk F2 H2 x' p (bW++[k]) (P'::T::S) (f1.trans f2) h2 hx (by simp;lia) ⟨?_,?_⟩ ?_
    .rw[vd];exact fe.open wf hs ek el (RV KQ)
    .show Tw.At g tx cE x' p (bW++[k]) (Tw.row g (P'.l::(T::S).map (·.l)));rw[vd,Tw.Tr ek];exact LD
    .have h3:=LD.rest;rw[bA]at h3;have h3:bW.length+1<=cE.length:=h3;have ah3:r'.right.length<=16:=wk.2.2.1 r' (aG ek);show(cE.length-(bW++[k]).length)*18+(Tw.row g (P'.l::(T::S).map (·.l))).length+(S.length+1+1)<(cE.length-bW.length)*18+(Tw.row g ((T::S).map (·.l))).length+(S.length+1);rw[vd,Tw.Tr ek,Zl];generalize Tw.bh g ((T::S).map (·.l))=B;simp only[bA,cV,zL];lia
   .intro F2 H2 x' e lA ahc f2 dp Q3 oh h2 LD hx;refine kk F2 H2 x' e (bW++lA) _ (f1.trans f2) h2 hx (by rw[bA];lia) ⟨fe.put wf hs dp Q3,LD⟩ ?_;show(cE.length-(bW++lA).length)*18+(Tw.bh g ((T::S).map (·.l))).length+(S.length+1)<(cE.length-bW.length)*18+(Tw.row g ((T::S).map (·.l))).length+(S.length+1);rw[Zl];generalize Tw.bh g ((T::S).map (·.l))=B;simp only[bA,cV];lia
inductive il(CW:Addr):Sp|mk {vs H Q Z} (n x:Nat) (o dx ru ta:Addr):vs=[.ref o,.ref ru,.ref ta,.int (n:Int),.int (x:Int)]->H o=some (.ins CW dx [])->(∀H' (A:WA),A.w=o->A.dx=dx->A.ru=ru->A.ta=ta->SX [o] H H'->H' o=some (.ins CW dx (Oi A n x 0))->H A.tl=none->H A.pa=none->H A.rs=none->H A.kp=none->H' A.tl=some (.lst [])->H' A.pa=some (.lst [])->H' A.rs=some (.dK [])->H' A.kp=some (.dT [])->A.tl≠A.pa->Q .iU H')->il CW vs H Q Z
abbrev Z9:Stmt:=iH (st 62) 0
theorem Y9:cB ["self","rules","table","size","skipped"] ["self","rules","table","size","skipped"] (bF Z9):=oP
theorem zh(F:lY K "__init__" "Walk.__init__" Z9 f fd)(C:WC K CW CP):eN P w K mg aT lM 1 f fd ["self","rules","table","size","skipped"] (il CW):=by
 refine oB F Y9 fun H Q hr h=>?_;obtain⟨n,x,o,dx,ru,ta,rfl,ho,kk⟩:=h;refine⟨_,aJ (iV (pv 0) (pv 1) rfl) (aJ (iV (pv 0) (pv 2) rfl) (aJ (iV (pv 0) (pv 3) rfl) (aJ (iV (pv 0) (pv 4) rfl) (aJ (iV (pv 0) cH rfl) (aJ (iV (pv 0) (fE aP) rfl) (aJ (iV (pv 0) (fE aP) rfl) (aJ (iV (pv 0) mB rfl) (aU (iV (pv 0) Ma rfl))))))))),?_⟩;refine⟨_,rfl,_,rfl,o,CW,dx,_,rfl,ho,C.cw,C.rules,(by show 0<1000;decide),?_⟩;refine⟨_,rfl,_,rfl,o,CW,dx,_,rfl,aC,C.cw,C.table,(by show 1<1000;decide),?_⟩;refine⟨_,rfl,_,rfl,o,CW,dx,_,rfl,aC,C.cw,C.size,(by show 2<1000;decide),?_⟩;refine⟨_,rfl,_,rfl,o,CW,dx,_,rfl,aC,C.cw,C.skipped,(by show 3<1000;decide),?_⟩;refine⟨_,rfl,o,CW,dx,_,rfl,aC,C.cw,C.place,(by show 4<1000;decide),?_⟩;rw[nH,nH,nH,nH];refine⟨z0,fun tl uM=>?_⟩;have n1:tl≠o:=fun z=>by rw[z,aC]at uM;cases uM
 have f1:H tl=none:=by rw[aH n1]at uM;exact uM
 refine⟨_,rfl,o,CW,dx,_,rfl,by rw[aH (Ne.symm n1)];exact aC,C.cw,C.bW,(by show 5<1000;decide),?_⟩;refine⟨z0,fun pa uq=>?_⟩;have n2:pa≠o:=fun z=>by rw[z,aC]at uq;cases uq
 have m2:pa≠tl:=fun z=>by rw[z,aH n1,aC]at uq;cases uq
 have f2:H pa=none:=by rw[aH n2,aH m2,aH n2]at uq;exact uq
 refine⟨_,rfl,o,CW,dx,_,rfl,by rw[aH (Ne.symm n2)];exact aC,C.cw,C.parts,(by show 6<1000;decide),?_⟩;intro rs dg;have n3:rs≠o:=fun z=>by rw[z,aC]at dg;cases dg
 have m3:rs≠pa:=fun z=>by rw[z,aH n2,aC]at dg;cases dg
 have l8:rs≠tl:=fun z=>by rw[z,aH n1,aH (Ne.symm m2),aH n1,aC]at dg;cases dg
 have f3:H rs=none:=by rw[aH n3,aH m3,aH n3,aH l8,aH n3]at dg;exact dg
 refine⟨_,rfl,o,CW,dx,_,rfl,by rw[aH (Ne.symm n3)];exact aC,C.cw,C.rests,(by show 7<1000;decide),?_⟩;intro kp VN;have n4:kp≠o:=fun z=>by rw[z,aC]at VN;cases VN
 have m4:kp≠rs:=fun z=>by rw[z,aH n3,aC]at VN;cases VN
 have m4':kp≠pa:=fun z=>by rw[z,aH n2,aH (Ne.symm m3),aH n2,aC]at VN;cases VN
 have D9:kp≠tl:=fun z=>by rw[z,aH n1,aH (Ne.symm l8),aH n1,aH (Ne.symm m2),aH n1,aC]at VN;cases VN
 have f4:H kp=none:=by rw[aH n4,aH m4,aH n4,aH m4',aH n4,aH D9,aH n4]at VN;exact VN
 refine⟨_,rfl,o,CW,dx,_,rfl,by rw[aH (Ne.symm n4)];exact aC,C.cw,C.kept,(by show 8<1000;decide),?_⟩;refine kk _ ⟨o,dx,ru,ta,tl,pa,rs,kp⟩ rfl rfl rfl rfl ?_ ?_ f1 f2 f3 f4 ?_ ?_ ?_ ?_ (Ne.symm m2)
 .exact((((((((SX.upd (by simp)).then f1).trans (SX.upd (by simp))).then f2).trans (SX.upd (by simp))).then f3).trans (SX.upd (by simp))).then f4).trans (SX.upd (by simp))
 .rw[aC];rfl
 .rw[aH n1,aH (Ne.symm D9),aH n1,aH (Ne.symm l8),aH n1,aH (Ne.symm m2),aH n1];exact aC
 .rw[aH n2,aH (Ne.symm m4'),aH n2,aH (Ne.symm m3),aH n2];exact aC
 .rw[aH n3,aH (Ne.symm m4),aH n3];exact aC
 .rw[aH n4];exact aC
inductive ip(CW CP:Addr):Sp|mk {vs H Q Z} (g:Lr) (tx:T) (F:Hp) (A:WA) (x start most:Nat) (cE:Ln):vs=[.ref A.w,.int (start:Int),.int (most:Int)]->Wk g tx->WH g tx CW CP F H A x 0 [] []->x<18446744073709551616->start<256->most<=65536->Tw.At g tx cE x 0 [] [start]->(∀H' bW,aK F H'->H' A.tl=some (.lst (kL bW))->(bW=cE∨(most<bW.length/\bW.length<=cE.length))->bW.length<=200000->Q (.ref A.tl) H')->ip CW CP vs H Q Z
abbrev c4:Stmt:=iH (st 62) 1
theorem wm:cB ["self","start","most"] ["self","start","most"] (bF c4):=oP
theorem zi(F:lY K "rules_up_to" "Walk.rules_up_to" c4 f fd)(C:WC K CW CP)(Tp:uO mg)(hON:oG P w K mg aT 7 CW "open_name" ["self","name","behind"] (XF CW CP))(hGo:oG P w K mg aT 9 CW "go_on_with" ["self","part"] (jg CW CP)):eN P w K mg aT lM 10 f fd ["self","start","most"] (ip CW CP):=by
 refine oB F wm fun H Q hr h=>?_
 obtain⟨g,tx,F0,W,x,start,most,cE,rfl,wk,h,Uw,Wh,hmo,AU,kk⟩:=h
 have wf:=wk.1
 have nd:=wm.nd
 have y0:=hr.mono (show 7<=9 by decide)
 refine⟨_,aJ (fM (nL (pv 0) C.cw hON y0 (aB (pv 1) (aB (Bb (wC (cT (pv 0) rfl) cH Ay) rfl rfl (by intro z;cases z) (by show 1<=15;decide)) aP))))
  (aJ (wA bN (CC (Ek (cT (pv 0) rfl) (by intro _;rfl)) (Tu (eM tU (eT eB (by rfl) Tp.len dO (aB (cT (pv 0) rfl) aP)) (pv 2) (fU _)))).pt
   (aU (fM (nL (pv 0) C.cw hGo hr (aB (jM gU (cT (pv 0) rfl) (Ly Cj cH) (fun _ _=>rfl)) aP)))))
  (aU (cO (cT (pv 0) rfl)))),?_⟩
 refine⟨_,rfl,W.w,W.dx,_,rfl,h.wo,rfl,_,rfl,fun be Iu=>?_⟩
 have hw0:bI H be (.dK []) W.w=some (.ins CW W.dx (Oi W tx.length x 0)):=by rw[aH (cK h.wo Iu)];exact h.wo
 refine⟨_,rfl,W.w,CW,W.dx,_,_,rfl,hw0,C.cw,C.size,rfl,aC,[(aV (tx.length:Int),.int 1)],rfl,(by show 1<=15;decide),?_⟩
 have s1:aK H (bI (bI H be (.dK [])) be (.dK (rJ [] [((aV (tx.length:Int):iM),V.int 1)]))):=aK.then (aK.upd Iu) Iu
 obtain⟨nbe,fbe⟩:=h.new Iu
 have ve:=Zu (H:=H) (p:=be) (aY tx.length)
 have h1:=h.same s1
 generalize bI (bI H be (.dK [])) be (.dK (rJ [] [((aV (tx.length:Int):iM),V.int 1)]))=H1 at*
 obtain⟨js,hW,LC⟩:=ve
 have f1:aK F0 (bI F0 be (.dK (sQ (Tw.oR tx.length) js))):=aK.upd fbe
 have h2:=h1.grow f1 (fun a o z=>by
  by_cases e:a=be
  .rw[e,aC]at z;cases z;rw[e];exact LC
  .rw[aH e]at z;exact h1.sub _ _ z) (fun m hm=>by rw[aH (fun z=>nbe (by rw[<-z];exact hm))];exact h1.fr m hm)
 have eu:Tw.oR tx.length=fun e=>iL g tx (Tw.bh g (([]:List PA).map (·.l))) e tx.length:=by
  funext e;show _=iL g tx [] e tx.length;rw[Tw.Sm];unfold Tw.oR;by_cases q:e=tx.length
  .rw[if_pos q,if_pos ⟨q,by lia⟩]
  .rw[if_neg q,if_neg fun z=>q z.1]
 have aaS:DW tx.length (bI F0 be (.dK (sQ (Tw.oR tx.length) js))) be (fun e=>iL g tx (Tw.bh g (([]:List PA).map (·.l))) e tx.length):=by rw[<-eu];exact⟨js,hW,.inl aC⟩
 generalize bI F0 be (.dK (sQ (Tw.oR tx.length) js))=F1 at*
 refine⟨g,tx,F1,W,x,0,[],[],start,be,cE,rfl,wk,h2,Wh,cI _,Uw,by simp,by simp,aaS,AU,fun F2 H2 x2 k r T f2 ek el vd h3 LD p7=>?_⟩
 have l9:R4 g tx start cE x2 0 [k] [T]:=by
  refine⟨?_,?_⟩
  .rw[vd];exact Tw.LW.open (S:=[]) (bW:=[]) wf ⟨rfl,rfl,rfl⟩ Wh ek el (cI _)
  .show Tw.At g tx cE x2 0 [k] (Tw.row g (T.l::([]:List PA).map (·.l)));rw[vd,Tw.Tr ek];exact LD
 refine⟨fun m σ H'=>σ=[some (.ref W.w),some (.int start),some (.int most)]/\∃F' x' p' bW lU,aK F1 F'/\WH g tx CW CP F' H' W x' p' bW lU/\x'<=x/\R4 g tx start cE x' p' bW lU/\bW.length<=200000/\m=HX g cE bW lU,⟨_,rfl,F2,x2,0,[k],[T],f2,h3,p7,l9,by simp,rfl⟩,?_⟩
 rintro m σ H' ⟨rfl,F',x',p',bW,lU,f',h',oe,lg,uM,rfl⟩
 refine⟨_,rfl,W.w,CW,W.dx,_,_,rfl,h'.wo,C.cw,C.parts,rfl,!((lU.reverse.map fun P=>V.ref P.a).isEmpty),.inl ⟨_,iY.of h'.pa,rfl⟩,?_⟩
 have fin:(bW=cE∨(most<bW.length/\bW.length<=cE.length))->Jm (gq K (fC 0) "told") ⟨fun x H'=>Q V.iU H',Q,fun _ _=>False,fun _ _=>False⟩ [some (.ref W.w),some (.int start),some (.int most)] H':=fun z=>⟨_,rfl,W.w,CW,W.dx,_,_,rfl,h'.wo,C.cw,C.bW,rfl,kk H' bW ((f1.trans f').trans h'.sub) h'.tl z uM⟩
 cases lU with
 |nil=>exact qF (qF (fin (.inl lg)))
 |cons T S=>
  refine gB (by simp) ?_;refine⟨_,rfl,W.w,CW,W.dx,_,_,rfl,h'.wo,C.cw,C.bW,rfl,W.tl,_,rfl,.inl (iY.of h'.tl),_,rfl,_,_,rfl,rfl,_,rfl,?_⟩;by_cases q:bW.length<=most
  .refine gB (bB (by rw[fO];lia)) ⟨_,fun σ' rW z=>z,?_⟩;have vc:=h'.pa;rw[jX,aQ]at vc;refine⟨_,rfl,W.w,W.dx,_,rfl,h'.wo,rfl,_,rfl,W.w,CW,W.dx,_,_,rfl,h'.wo,C.cw,C.parts,rfl,_,rfl,W.pa,_,-1,V.ref T.a,rfl,rfl,iY.of vc,Ny _ _,?_⟩;refine⟨g,tx,F',W,x',p',bW,T,S,start,cE,rfl,wk,h',bV oe Uw,by lia,lg,fun F3 H3 x3 p3 vp Y3 f3 h3 hx3 ahV lg3 hf=>?_⟩;refine⟨_,hf,rfl,F3,x3,p3,vp,Y3,f'.trans f3,h3,bK hx3 oe,lg3,by lia,rfl⟩
  .refine eE (bH (by rw[fO];lia)) (fin (.inr ⟨by lia,lg.2.rest⟩))
def Dc(a b c d e:V):List (Str×V):=[("start",a),("rules",b),("shortest",c),("text",d),("table",e)]
structure GC(K:aX)(CG:Addr):Prop where
 cg:AX K CG
 start:iK K CG "start"
 rules:iK K CG "rules"
 shortest:iK K CG "shortest"
 text:iK K CG "text"
 table:iK K CG "table"
def Dct(o:HO):Prop:=(∃kvs,o=.dK kvs)∨(∃kvs,o=.dT kvs)∨(∃q kvs,o=.kN q (.dK kvs))∨∃q kvs,o=.kN q (.dT kvs)
open Classical in
noncomputable def ext(F H H':Hp)(gr:Addr):Hp:=fun a=>if F a≠none then F a else if a=gr then none else if H a=none∨(∃o,H' a=some o/\Dct o)then H' a else none
structure Di(F H F' H':Hp)(gr:Addr):Prop where
 ff:aK F F'
 fk:∀a o,H a=some o->¬Dct o->F a=none->F' a=none
 sx:SX [gr] H H'
 fg:F' gr=none
theorem Di.of{F:Hp}(s:aK H H')(g:F gr=none):Di F H F H' gr:=⟨fun _ _ z=>z,fun _ _ _ _ z=>z,SX.of s,g⟩
theorem Di.trans{F F1 F2:Hp}(a:Di F H F1 H1 gr)(b:Di F1 H1 F2 H2 gr):Di F H F2 H2 gr:=by
 refine⟨fun x o z=>b.ff _ _ (a.ff _ _ z),fun x o h nd z=>?_,a.sx.trans b.sx,b.fg⟩;by_cases e:x=gr
 .rw[e];exact b.fg
 .exact b.fk x o (a.sx _ _ h (by simp[e])) nd (a.fk x o h nd z)
theorem Di.then{F F1:Hp}(a:Di F H F1 H1 gr)(s:aK H1 H2):Di F H F1 H2 gr:=a.trans (Di.of s a.fg)
section
variable {F H H':Hp} {gr:Addr}
theorem ZT(h:F a=some o):ext F H H' gr a=some o:=by unfold ext;rw[if_pos (by rw[h];intro z;cases z)];exact h
theorem TF(h:F gr=none):ext F H H' gr gr=none:=by unfold ext;rw[if_neg (by rw[h];simp),if_pos rfl]
theorem Ke(sF:aK F H)(sx:SX [gr] H H')(g:F gr=none):aK (ext F H H' gr) H':=fun a o z=>by
 unfold ext at z;split at z
 .rename_i q;have ne:a≠gr:=fun e=>q (by rw[e];exact g);exact sx _ _ (sF _ _ z) (by simp[ne])
 .split at z
  .cases z
  .split at z
   .exact z
   .cases z
theorem Bg(sF:aK F H)(h:H a=none)(n:a≠gr):ext F H H' gr a=H' a:=by have f:F a=none:=aK.free sF h;unfold ext;rw[if_neg (by rw[f];simp),if_neg n,if_pos (.inl h)]
theorem Kf(sF:aK F H)(sx:SX [gr] H H')(h:H' a=some o)(d:Dct o)(n:a≠gr):ext F H H' gr a=some o:=by
 unfold ext;cases e:F a with
 |none=>rw[if_neg (by simp),if_neg n,if_pos (.inr ⟨o,h,d⟩)];exact h
 |some u=>have:=sx _ _ (sF _ _ e) (by simp[n]);rw[h]at this;rw[if_pos (fun z=>by cases z)];exact this.symm
theorem Fp(sF:aK F H)(sx:SX [gr] H H')(g:F gr=none):Di F H (ext F H H' gr) H' gr:=by
 refine⟨fun a o z=>ZT z,fun a o h nd f=>?_,sx,TF g⟩;unfold ext;rw[if_neg (by rw[f];simp)];by_cases e:a=gr
 .rw[if_pos e]
 .rw[if_neg e,if_neg];rintro(z|⟨u,z,d⟩)
  .rw[h]at z;cases z
  .have:=sx _ _ h (by simp[e]);rw[z]at this;cases this;exact nd d
theorem HY(sF:aK F H)(sx:SX [gr] H H'){C:Addr}(hg:H' gr=some (.ins C dx fs))(h:Rd H' a (.dK kvs)):Rd (ext F H H' gr) a (.dK kvs):=by
 have n:a≠gr:=fun e=>by rcases h with h|⟨o,h⟩<;>rw[e,hg]at h<;>cases h
 rcases h with h|⟨o,h⟩
 .exact .inl (Kf sF sx h (.inl ⟨_,rfl⟩) n)
 .exact .inr ⟨o,Kf sF sx h (.inr (.inr (.inl ⟨_,_,rfl⟩))) n⟩
theorem ZS(sF:aK F H)(sx:SX [gr] H H'){C:Addr}(hg:H' gr=some (.ins C dx fs)){kvs:List (List iM×V)}(h:Rd H' a (.dT kvs)):Rd (ext F H H' gr) a (.dT kvs):=by
 have n:a≠gr:=fun e=>by rcases h with h|⟨o,h⟩<;>rw[e,hg]at h<;>cases h
 rcases h with h|⟨o,h⟩
 .exact .inl (Kf sF sx h (.inr (.inl ⟨_,rfl⟩)) n)
 .exact .inr ⟨o,Kf sF sx h (.inr (.inr (.inr ⟨_,_,rfl⟩))) n⟩
theorem ZR(sF:aK F H)(sx:SX [gr] H H'){C:Addr}(hg:H' gr=some (.ins C dx fs))(h:nS n H' a c):nS n (ext F H H' gr) a c:=by
 obtain⟨kvs,h1,h2⟩:=h;refine⟨kvs,ZS sF sx hg h1,fun s i=>?_⟩;rcases h2 s i with q|⟨d,q1,js,q2,q3⟩
 .exact .inl q
 .exact .inr ⟨d,q1,js,q2,HY sF sx hg q3⟩
end
def LR(F:Hp)(d:Addr)(g:Lr):Prop:=∃kvs,Rd F d (.dK kvs)/\∀(s n:Nat) (L:Nat->Option Nat),qR g L->s<512->L s=some n->n<=65536->
 ∃b y,eO kvs (aV (s:Int))=some (.ref b)/\F b=some (.lst (Ib y))/\y.length=n/\(s<256->sY g s y)/\(256<=s->y=[eA (s-256)])
theorem LR.same{F F':Hp}(h:LR F d g)(s:aK F F'):LR F' d g:=by obtain⟨kvs,h1,h2⟩:=h;refine⟨kvs,aK.le s _ _ qV h1,fun x n L hL hx hn hb=>?_⟩;obtain⟨b,y,z1,z2,z3⟩:=h2 x n L hL hx hn hb;exact⟨b,y,z1,s _ _ z2,z3⟩
structure GH(CG:Addr)(F H:Hp)(gr dx ru tx:Addr)(tb sh:V)(s:jD):Prop where
 sub:aK F H
 fg:F gr=none
 ob:H gr=some (.ins CG dx (Dc (.int (s.start:Int)) (.ref ru) sh (.ref tx) tb))
 Ux:fZ F ru s.rules
 ka:∃xs,F ru=some (.lst xs)
 AQ:Rd F tx (.lst (Ib s.text))
 og:tb=.iU∨∃a,tb=.ref a/\nS s.text.length F a (fun x i j=>iL s.rules s.text [x] i j)
 um:sh=.iU∨∃a,sh=.ref a/\LR F a s.rules
def sJ(CG:Addr)(F H:Hp)(gr:Addr)(s:jD):Prop:=∃dx ru tx tb sh,GH CG F H gr dx ru tx tb sh s
section
variable {CG:Addr} {F F' H H':Hp} {gr dx ru tx:Addr} {tb sh:V} {s:jD}
theorem GH.grow(h:GH CG F H gr dx ru tx tb sh s)(g:Di F H F' H' gr)(s2:aK F' H')(ob:H' gr=some (.ins CG dx (Dc (.int (s.start:Int)) (.ref ru) sh (.ref tx) tb))):GH CG F' H' gr dx ru tx tb sh s:=by refine⟨s2,g.fg,ob,h.Ux.le (aK.le g.ff),?_,aK.le g.ff _ _ iP h.AQ,h.og.imp id fun⟨a,e,z⟩=>⟨a,e,z.le (aK.le g.ff)⟩,h.um.imp id fun⟨a,e,z⟩=>⟨a,e,z.same g.ff⟩⟩;obtain⟨xs,z⟩:=h.ka;exact⟨xs,g.ff _ _ z⟩
theorem GH.same(h:GH CG F H gr dx ru tx tb sh s)(e:aK H H'):GH CG F H' gr dx ru tx tb sh s:=
 ⟨fun a o z=>e _ _ (h.sub _ _ z),h.fg,e _ _ h.ob,h.Ux,h.ka,h.AQ,h.og,h.um⟩
theorem sJ.same(h:sJ CG F H gr s)(e:aK H H'):sJ CG F H' gr s:=let ⟨_,_,_,_,_,z⟩:=h;⟨_,_,_,_,_,z.same e⟩
theorem CD(a b c d e e':V):iG "table" e' (Dc a b c d e)=Dc a b c d e':=by rfl
theorem Pd(a b c d e c':V):iG "shortest" c' (Dc a b c d e)=Dc a b c' d e:=by rfl
theorem CF(a b c d e a':V):iG "start" a' (Dc a b c d e)=Dc a' b c d e:=by rfl
theorem zU(f:Str)(v:V):∀fs:List (Str×V),(iG f v fs).length<=fs.length+1
 |[]=>aY _
 |(g,x)::r=>by
  unfold iG;split
  .exact Nat.le_succ _
  .have:=zU f v r;rw[cV,cV];lia
end
inductive FY(CG:Addr):Sp|mk {vs H Q Z} (F:Hp) (gr:Addr) (s:jD):vs=[.ref gr]->Wk s.rules s.text->sJ CG F H gr s->(∀F' H' dx ru tx ta sh,Di F H F' H' gr->GH CG F' H' gr dx ru tx (.ref ta) sh s->nS s.text.length F' ta (fun x i j=>iL s.rules s.text [x] i j)->Q (.ref ta) H')->FY CG vs H Q Z
abbrev ju:Stmt:=iH (st 80) 13
theorem wj:cB ["self"] ["self"] (bF ju):=oP
theorem kq(F:lY K "whole_table" "Grammar.whole_table" ju f fd)(C:GC K CG)(hTT:mW P w K mg aT 7 "tree_table" ["rules","text"] iq):eN P w K mg aT lM 8 f fd ["self"] (FY CG):=by
 refine oB F wj fun H Q hr h=>?_
 obtain⟨F0,gr,s,rfl,wk,⟨dx,ru,tx,tb,sh,h⟩,kk⟩:=h
 refine⟨_,aJ (gN (eM QF (cT (pv 0) rfl) Tz (fU _)) (aU (iV (pv 0) (dW hTT hr (aB (cT (pv 0) rfl) (aB (cT (pv 0) rfl) aP))) rfl)) dX)
  (aU (cO (cT (pv 0) rfl))),?_⟩
 refine⟨_,rfl,gr,CG,dx,_,_,rfl,h.ob,C.cg,C.table,rfl,rfl,_,rfl,?_⟩
 rcases h.og with e|⟨ta,e,hta⟩
 .subst e;refine gB (bB rfl) ?_;refine⟨_,rfl,gr,CG,dx,_,_,rfl,h.ob,C.cg,C.rules,rfl,_,rfl,gr,CG,dx,_,_,rfl,h.ob,C.cg,C.text,rfl,s.rules,s.text,ru,tx,rfl,wk.1,by have:=wk.2.1;lia,by have:=wk.2.2.2;lia,h.Ux.le (aK.le h.sub),aK.le h.sub _ _ iP h.AQ,fun H1 r s1 fr ht=>?_⟩;have h1:=h.same s1;refine⟨_,rfl,gr,CG,dx,_,rfl,h1.ob,C.cg,C.table,(by show 5<1000;decide),?_⟩;rw[CD];have U2:r≠gr:=fun z=>by rw[z,h.ob]at fr;cases fr
  have sx:SX [gr] H (bI H1 gr (.ins CG dx (Dc (.int s.start) (.ref ru) sh (.ref tx) (.ref r)))):=(SX.of s1).trans (SX.upd (by simp));have tu:bI H1 gr (.ins CG dx (Dc (.int s.start) (.ref ru) sh (.ref tx) (.ref r))) gr=some (.ins CG dx (Dc (.int s.start) (.ref ru) sh (.ref tx) (.ref r))):=aC
  have ht2:nS s.text.length (bI H1 gr (.ins CG dx (Dc (.int s.start) (.ref ru) sh (.ref tx) (.ref r)))) r (fun x i j=>iL s.rules s.text [x] i j):=by
   obtain⟨kvs,t1,t2⟩:=ht
   have key:∀{a:Addr} {u:HO},sg u->(∀C dx fs,u≠.ins C dx fs)->Rd H1 a u->Rd (bI H1 gr (.ins CG dx (Dc (.int s.start) (.ref ru) sh (.ref tx) (.ref r)))) a u:=by
    intro a u nf ni z
    have n:a≠gr:=fun e=>by
     rcases z with z|⟨o,z⟩<;>rw[e,h1.ob]at z
     .exact ni _ _ _ (bC z).symm
     .cases z
    rcases z with z|⟨o,z⟩
    .exact .inl (by rw[aH n];exact z)
    .exact .inr ⟨o,by rw[aH n];exact z⟩
   refine⟨kvs,key Ex (fun _ _ _ z=>nomatch z) t1,fun x i=>?_⟩;rcases t2 x i with q|⟨d,q1,js,q2,q3⟩
   .exact .inl q
   .exact .inr ⟨d,q1,js,q2,key qV (fun _ _ _ z=>nomatch z) q3⟩
  generalize bI H1 gr (.ins CG dx (Dc (.int s.start) (.ref ru) sh (.ref tx) (.ref r)))=H2 at*;refine⟨_,rfl,gr,CG,dx,_,_,rfl,tu,C.cg,C.table,rfl,?_⟩;have g:=Fp h.sub sx h.fg;have t3:=ZR h.sub sx tu ht2;refine kk _ H2 dx ru tx r sh g ⟨Ke h.sub sx h.fg,g.fg,tu,h.Ux.le (aK.le g.ff),?_,aK.le g.ff _ _ iP h.AQ,.inr ⟨r,rfl,t3⟩,h.um.imp id fun⟨a,e,z⟩=>⟨a,e,z.same g.ff⟩⟩ t3;obtain⟨xs,z⟩:=h.ka;exact⟨xs,g.ff _ _ z⟩
 .subst e;refine eE (bH (fun z=>nomatch z)) ?_;exact⟨_,rfl,gr,CG,dx,_,_,rfl,h.ob,C.cg,C.table,rfl,kk F0 H dx ru tx ta sh (Di.of (fun _ _ z=>z) h.fg) h hta⟩
inductive Xg(CG:Addr):Sp|mk {vs H Q Z} (F:Hp) (gr:Addr) (s:jD) (x i:Nat):vs=[.ref gr,.int (x:Int),.int (i:Int)]->Wk s.rules s.text->sJ CG F H gr s->(∀F' H' dx ru tx ta sh d,Di F H F' H' gr->GH CG F' H' gr dx ru tx (.ref ta) sh s->nS s.text.length F' ta (fun x i j=>iL s.rules s.text [x] i j)->DW s.text.length H' d (fun j=>iL s.rules s.text [x] i j)->Q (.ref d) H')->Xg CG vs H Q Z
abbrev jv:Stmt:=iH (st 80) 12
theorem wt:cB ["self","symbol","place"] ["self","symbol","place"] (bF jv):=oP
theorem lb(F:lY K "trees_by_end" "Grammar.trees_by_end" jv f fd)(C:GC K CG)(M9:oG P w K mg aT 8 CG "whole_table" ["self"] (FY CG)):eN P w K mg aT lM 9 f fd ["self","symbol","place"] (Xg CG):=by
 refine oB F wt fun H Q hr h=>?_;obtain⟨F0,gr,s,x,i,rfl,wk,hg,kk⟩:=h;have hu:=jV hr;obtain⟨dx0,ru0,tx0,tb0,sh0,h0⟩:=id hg;refine⟨_,aU (cO (kR hu (Cr (pv 0) C.cg M9 hr) (oX (aB (pv 1) (aB (pv 2) aP))) mB ⟨rfl,rfl,rfl,rfl⟩)),?_⟩;refine⟨_,rfl,gr,dx0,_,rfl,h0.ob,rfl,F0,gr,s,rfl,wk,hg,fun F1 H1 dx ru tx ta sh g1 h1 ht=>?_⟩;obtain⟨kvs,t1,t2⟩:=id ht;have t1':=aK.le h1.sub _ _ Ex t1;refine⟨ta,rfl,sV t1',_,rfl,_,rfl,z2,fun b hb d hd=>?_⟩;have s1:aK H1 (bI (bI H1 b (.tup [.int x,.int i])) d (.dK [])):=(aK.upd hb).trans (aK.upd hd);have hbb:bI (bI H1 b (.tup [.int x,.int i])) d (.dK []) b=some (.tup [.int x,.int i]):=by rw[aH (cK (by exact aC) hd)];exact aC
 have ZH:bI (bI H1 b (.tup [.int x,.int i])) d (.dK []) d=some (.dK []):=aC;generalize bI (bI H1 b (.tup [.int x,.int i])) d (.dK [])=H2 at*;have t3:=aK.le s1 _ _ Ex t1';have gg:=Fu t3 (s:=x) (i:=i) hbb;refine⟨_,gg,?_⟩;rcases t2 x i with ⟨q1,q2⟩|⟨e,q1,q2⟩
 .rw[q1];refine kk F1 H2 dx ru tx ta sh d (g1.then s1) (h1.same s1) ht ?_;have:(fun j=>iL s.rules s.text [x] i j)=fun _=>some 0:=by funext j;exact q2 j
  rw[this];exact⟨[],.nil,.inl ZH⟩
 .rw[q1];exact kk F1 H2 dx ru tx ta sh e (g1.then s1) (h1.same s1) ht (q2.le (aK.le (fun a o z=>s1 _ _ (h1.sub _ _ z))))
def LS(s:jD):Prop:=Tw.EW s/\∀r∈s.rules,r.right.length<=16
theorem LS.wk(h:LS s):Wk s.rules s.text:=⟨h.1.small.wf,by have:=h.1.small.gl;lia,h.2,by have:=h.1.tl;lia⟩
def Hu(CG:Addr)(F H:Hp)(gr:Addr)(s:jD)(c:kT)(Q:VK):Prop:=∀F' H' r,Di F H F' H' gr->sJ CG F' H' gr (bZ s c).1->H r=none->H' r=some (.lst ((Tw.Js (bZ s c).2).map V.int))->(Tw.Js (bZ s c).2).length<=70000->Q (.ref r) H'
theorem Hu.pO{F F1:Hp}{r:Addr}{c:kT}(h:Hu CG F H gr s c Q)(e:(bZ s c).1=s)(g:Di F H F1 H1 gr)(a:sJ CG F1 H1 gr s)(hr:H1 r=none){l:List Int}(el:Tw.Js (bZ s c).2=l)(hl:l.length<=70000):Q (.ref r) (bI H1 r (.lst (l.map V.int))):=by
 refine h F1 _ r (g.then (aK.upd hr)) ?_ ?_ ?_ (by rw[el];exact hl)
 .rw[e];exact a.same (aK.upd hr)
 .cases z:H r with
  |none=>rfl
  |some o=>
   by_cases q:r=gr
   .obtain⟨_,_,_,_,_,w⟩:=a;rw[q,w.ob]at hr;cases hr
   .rw[g.sx _ _ z (by simp[q])]at hr;cases hr
 .rw[el];exact aC
theorem SX.Zf{r:Addr}(s:SX [gr] H H')(g:H' gr=some o)(h:H' r=none):H r=none:=by
 cases z:H r with
 |none=>rfl
 |some u=>
  by_cases q:r=gr
  .rw[q,g]at h;cases h
  .rw[s _ _ z (by simp[q])]at h;cases h
inductive XH(CG:Addr):Sp|mk {vs H Q Z} (gr dx tx:Addr) (fs:List (Str×V)):vs=[.ref gr,.ref tx]->H gr=some (.ins CG dx fs)->fs.length<=900->Q .iU (bI H gr (.ins CG dx (iG "table" .iU (iG "text" (.ref tx) fs))))->XH CG vs H Q Z
abbrev i3:Stmt:=iH (st 80) 3
theorem Z3:cB ["self","text"] ["self","text"] (bF i3):=oP
theorem B7(F:lY K "change_text" "Grammar.change_text" i3 f fd)(C:GC K CG):eN P w K mg aT lM 1 f fd ["self","text"] (XH CG):=by refine oB F Z3 fun H Q hr h=>?_;obtain⟨gr,dx,tx,fs,rfl,ob,hl,kk⟩:=h;refine⟨_,aJ (iV (pv 0) (pv 1) rfl) (aU (iV (pv 0) Tz rfl)),?_⟩;refine⟨_,rfl,_,rfl,gr,CG,dx,_,rfl,ob,C.cg,C.text,by lia,?_⟩;refine⟨_,rfl,gr,CG,dx,_,rfl,aC,C.cg,C.table,by have:=zU "text" (.ref tx) fs;lia,?_⟩;rw[nH];exact kk
inductive XI(CG:Addr):Sp|mk {vs H Q Z} (gr dx ru:Addr) (fs:List (Str×V)):vs=[.ref gr,.ref ru]->H gr=some (.ins CG dx fs)->fs.length<=800->fs.lookup ("change_text":Str)=none->(∀H' tx,SX [gr] H H'->H tx=none->H' tx=some (.lst [])->H' gr=some (.ins CG dx (iG "table" .iU (iG "text" (.ref tx) (iG "shortest" .iU (iG "rules" (.ref ru) fs)))))->Q .iU H')->XI CG vs H Q Z
abbrev i4:Stmt:=iH (st 80) 2
theorem Z4:cB ["self","rules"] ["self","rules"] (bF i4):=oP
theorem B8(F:lY K "change_rules" "Grammar.change_rules" i4 f fd)(C:GC K CG)(hCT:oG P w K mg aT 1 CG "change_text" ["self","text"] (XH CG)):eN P w K mg aT lM 2 f fd ["self","rules"] (XI CG):=by
 refine oB F Z4 fun H Q hr h=>?_;obtain⟨gr,dx,ru,fs,rfl,ob,hl,hk,kk⟩:=h;refine⟨_,aJ (iV (pv 0) (pv 1) rfl) (aJ (iV (pv 0) Tz rfl) (aU (fM (nL (pv 0) C.cg hCT hr (aB (fE aP) aP))))),?_⟩;have l1:=zU "rules" (.ref ru) fs;have l2:=zU "shortest" .iU (iG "rules" (.ref ru) fs);refine⟨_,rfl,_,rfl,gr,CG,dx,_,rfl,ob,C.cg,C.rules,by lia,?_⟩;refine⟨_,rfl,gr,CG,dx,_,rfl,aC,C.cg,C.shortest,by lia,?_⟩;rw[nH];refine⟨_,rfl,gr,dx,_,rfl,aC,(by rw[pY,if_neg (by decide),pY,if_neg (by decide)];exact hk),z0,fun tx AQ=>?_⟩;have n1:tx≠gr:=fun z=>by rw[z,aC]at AQ;cases AQ
 have f1:H tx=none:=by rw[aH n1]at AQ;exact AQ
 refine⟨gr,dx,tx,_,rfl,by rw[aH (Ne.symm n1)];exact aC,by lia,?_⟩;refine kk _ tx ?_ f1 ?_ aC
 .exact((SX.upd (by simp)).then f1).trans (SX.upd (by simp))
 .rw[aH n1];exact aC
inductive XJ(CG:Addr):Sp|mk {vs H Q Z} (gr dx:Addr) (fs:List (Str×V)):vs=[.ref gr]->H gr=some (.ins CG dx fs)->fs.length<=700->fs.lookup ("change_text":Str)=none->fs.lookup ("change_rules":Str)=none->(∀H' ru tx r,SX [gr] H H'->H ru=none->H tx=none->H r=none->H' ru=some (.lst [])->H' tx=some (.lst [])->H' r=some (.lst [.int 0])->H' gr=some (.ins CG dx (iG "table" .iU (iG "text" (.ref tx) (iG "shortest" .iU (iG "rules" (.ref ru) (iG "start" (.int 0) fs))))))->Q (.ref r) H')->XJ CG vs H Q Z
abbrev i6:Stmt:=iH (st 80) 1
theorem Z5:cB ["self"] ["self"] (bF i6):=oP
theorem C5(F:lY K "begin" "Grammar.begin" i6 f fd)(C:GC K CG)(hCR:oG P w K mg aT 2 CG "change_rules" ["self","rules"] (XI CG)):eN P w K mg aT lM 3 f fd ["self"] (XJ CG):=by
 refine oB F Z5 fun H Q hr h=>?_;obtain⟨gr,dx,fs,rfl,ob,hl,dr,Ir,kk⟩:=h;refine⟨_,aJ (iV (pv 0) cH rfl) (aJ (fM (nL (pv 0) C.cg hCR hr (aB (fE aP) aP))) (aU (cO (fE (aB cH aP))))),?_⟩;have l1:=zU "start" (.int 0) fs;refine⟨_,rfl,gr,CG,dx,_,rfl,ob,C.cg,C.start,by lia,?_⟩;refine⟨_,rfl,gr,dx,_,rfl,aC,(by rw[pY,if_neg (by decide)];exact Ir),z0,fun ru Ux=>?_⟩;have n1:ru≠gr:=fun z=>by rw[z,aC]at Ux;cases Ux
 have f1:H ru=none:=by rw[aH n1]at Ux;exact Ux
 have wa:SX [gr] H (bI (bI H gr (.ins CG dx (iG "start" (.int 0) fs))) ru (.lst [])):=(SX.upd (by simp)).then f1;have S5:bI (bI H gr (.ins CG dx (iG "start" (.int 0) fs))) ru (.lst []) gr=some (.ins CG dx (iG "start" (.int 0) fs)):=by rw[aH (Ne.symm n1)];exact aC
 have yJ:bI (bI H gr (.ins CG dx (iG "start" (.int 0) fs))) ru (.lst []) ru=some (.lst []):=aC;generalize bI (bI H gr (.ins CG dx (iG "start" (.int 0) fs))) ru (.lst [])=H1 at*;refine⟨gr,dx,ru,_,rfl,S5,by lia,(by rw[pY,if_neg (by decide)];exact dr),fun H2 tx sx AQ e1 e2=>?_⟩;refine⟨z1,fun r Uy=>?_⟩;have tF:=wa.trans sx;have f3:=SX.Zf tF e2 Uy;refine kk _ ru tx r (tF.then f3) f1 (SX.Zf wa S5 AQ) f3 ?_ ?_ aC ?_
 .rw[aH (cK (sx _ _ yJ (by simp[n1])) Uy)];exact sx _ _ yJ (by simp[n1])
 .rw[aH (cK e1 Uy)];exact e1
 .rw[aH (cK e2 Uy)];exact e2
inductive jh(CG:Addr):Sp|mk {vs H Q Z} (gr dx:Addr):vs=[.ref gr]->H gr=some (.ins CG dx [])->(∀H' ru tx,SX [gr] H H'->H ru=none->H tx=none->H' ru=some (.lst [])->H' tx=some (.lst [])->H' gr=some (.ins CG dx (Dc (.int 0) (.ref ru) .iU (.ref tx) .iU))->Q .iU H')->jh CG vs H Q Z
abbrev f9:Stmt:=iH (st 80) 0
theorem Z2:cB ["self"] ["self"] (bF f9):=oP
theorem B4(F:lY K "__init__" "Grammar.__init__" f9 f fd)(C:GC K CG)(hBe:oG P w K mg aT 3 CG "begin" ["self"] (XJ CG)):eN P w K mg aT lM 4 f fd ["self"] (jh CG):=by refine oB F Z2 fun H Q hr h=>?_;obtain⟨gr,dx,rfl,ob,kk⟩:=h;refine⟨_,aU (fM (Cr (pv 0) C.cg hBe hr)),?_⟩;exact⟨_,rfl,gr,dx,_,rfl,ob,rfl,gr,dx,_,rfl,ob,(by show 0<=700;decide),rfl,rfl,fun H' ru tx r sx f1 f2 f3 e1 e2 e3 e4=>kk H' ru tx sx f1 f2 e1 e2 e4⟩
theorem PU(a b c d e a' b' d':V):iG "table" .iU (iG "text" d' (iG "shortest" .iU (iG "rules" b' (iG "start" a' (Dc a b c d e)))))=Dc a' b' .iU d' .iU:=by rfl
theorem XX(a b c d e b' d':V):iG "table" .iU (iG "text" d' (iG "shortest" .iU (iG "rules" b' (Dc a b c d e))))=Dc a b' .iU d' .iU:=by rfl
theorem XW(a b c d e d':V):iG "table" .iU (iG "text" d' (Dc a b c d e))=Dc a b c d' .iU:=by rfl
theorem SS{F:Hp}{ru tx:Addr}(sF:aK F H)(fg:F gr=none)(sx:SX [gr] H H')(f1:H ru=none)(f2:H tx=none)(e1:H' ru=some (.lst []))(e2:H' tx=some (.lst []))(e:H' gr=some (.ins CG dx (Dc (.int 0) (.ref ru) .iU (.ref tx) .iU))):GH CG (ext F H H' gr) H' gr dx ru tx .iU .iU {}:=by
 have n1:ru≠gr:=fun z=>by rw[z,e]at e1;cases e1
 have n2:tx≠gr:=fun z=>by rw[z,e]at e2;cases e2
 have a1:ext F H H' gr ru=some (.lst []):=by rw[Bg sF f1 n1];exact e1
 have a2:ext F H H' gr tx=some (.lst []):=by rw[Bg sF f2 n2];exact e2
 exact⟨Ke sF sx fg,TF fg,e,⟨[],.inl a1,.nil⟩,⟨_,a1⟩,.inl a2,.inl rfl,.inl rfl⟩
theorem ab9{X:Cx}(hK:X.K=K):Sl X (.builtin "len") (fun xs H Q=>E2 fun p ys=>A3 (xs=[V.ref p]) (iY K H p ys∨Wj K H p ys) (Q (.int (ys.length:Int)) H)):=by subst hK;exact eB
theorem YS{v1 v2:Nat}(f:Rule->Int)(hv:vs=[v1,v2])
  (uM:∀R:VK,R (.ref a) H->tl σ H R) (hG:fZ H a g) (hl:g.length<=1000)
  (he:∀(r:Rule) (q:Addr) (H':Hp),r∈g->aK H H'->oU H q r.right->∀R:VK,R (.int (f r)) H'->te (((jW σ [v1,v2]).set v1 (some (.int r.left))).set v2 (some (.ref q))) H' R)
  (k:∀D H',H D=none->aK H H'->H' D=some (.lst ((g.map f).map V.int))->Q (.ref D) H'):JH (My K tl) (g2 K v1 v2) Tf te vs σ H Q:=by
 subst hv
 obtain⟨ps,uA,vO⟩:=hG
 have hlen:ps.length=g.length:=dC vO
 refine uM _ ⟨a,rfl,⟨_,cY uA⟩,fun D hD=>?_⟩
 refine Ff (K:=K) (a:=a) (xs:=ps.map V.ref) (Qd:=Q (.ref D)) (fun i H'=>aK H H'/\H' D=some (.lst (((g.take i).map f).map V.int))) ⟨aK.upd hD,aC⟩ (fun i H' _ h=>cY (aK.le h.1 _ _ iP uA)) ?_ fun H' h=>?_
 .rintro i x H' HL ⟨s1,SQ⟩;obtain⟨p0,e0,rfl⟩:=mQ HL;obtain⟨r,er,q,Cz,yR⟩:=gI vO e0;have hi:i<g.length:=(aL.mp er).1;refine Bx (nE (aK.le s1 _ _ Ew Cz)) ⟨?_,?_⟩
  .show((((((σ.set v2 none).set v1 none).set v1 _).set v2 _).set v2 none).set v1 none)=(σ.set v2 none).set v1 none;apply Hy;intro j;simp only[vS,tD];repeat' split
   all_goals first|rfl|lia
  .refine he r q H' (aG er) s1 yR _ ⟨_,SQ,?_,aK.then s1 hD,?_⟩
   .rw[aA,aA,dB];exact cA (show min i g.length<1001 by lia) (by decide)
   .rw[dM er,aQ,aQ];exact aC
 .rw[aA,hlen,bX]at h;exact k D H' hD h.1 h.2
inductive OM(CG:Addr):Sp|mk {vs H Q Z} (F:Hp) (gr:Addr) (s:jD):vs=[.ref gr]->Wk s.rules s.text->sJ CG F H gr s->(∀H',aK H H'->Q (.int (vQ s.rules:Int)) H')->OM CG vs H Q Z
abbrev XO:Stmt:=iH (st 80) 5
theorem cc:cB ["self","left","right"] ["self"] (bF XO):=oP
theorem OA(g:Lr):(g.map fun r=>(r.right.length:Int)).sum=(vQ g:Int):=by
 unfold vQ;induction g with
 |nil=>rfl
 |cons r g ih=>rw[bL,bL,iC,iC,ih];lia
theorem mf(F:lY K "length_of_rights" "Grammar.length_of_rights" XO f fd)(C:GC K CG)(Tp:uO mg):eN P w K mg aT lM 1 f fd ["self"] (OM CG):=by
 refine oB F cc fun H Q hr h=>?_;obtain⟨F0,gr,s,rfl,wk,⟨dx,ru,tx,tb,sh,h⟩,kk⟩:=h;have nd:=cc.nd;refine⟨_,aU (cO (eT (UE rfl) (by rfl) Tp.sum Wm (aB (sO (own:=[("left",1),("right",2)]) rfl nd (gT (cT (pv 0) rfl)) (iR (by show vK ["self","left","right"] (bF XO) _ _=true;decide+kernel)) (fun _ _ _ _ _=>S4 (a:=1) (b:=2) rfl nd rfl rfl rfl rfl rfl) (fun _ _ _ _ _=>oK) (fun _ _ _ _ _=>eT (ab9 rfl) (by rfl) Tp.len dO (aB (pv 2) aP))) aP))),?_⟩;refine YS (K:=K) (σ:=[some (.ref gr),none,none]) (Q:=fun x H1=>ke K [x] H1 Q) (fun r=>(r.right.length:Int)) (by rfl) (fun R z=>⟨_,rfl,gr,CG,dx,_,_,rfl,h.ob,C.cg,C.rules,rfl,z⟩) (h.Ux.le (aK.le h.sub)) (by have:=wk.2.1;lia) ?_ ?_
 .intro r q H' hr s1 hq R hR;refine⟨_,rfl,q,_,rfl,.inl (cY (hq.le (aK.le s1))),?_⟩;rw[fO];exact hR
 .intro D H' hD s1 h1;refine⟨D,_,rfl,iY.of h1,?_⟩;rw[OA];exact kk H' s1
theorem tG(l:Int):kP l=decide (0<=l/\l<=255):=by unfold kP;rw[WN];congr 1;exact decide_eq_decide.mpr (by lia)
theorem lH(l:Int):dZ l=decide (0<=l/\l<=511):=by unfold dZ;rw[WN];congr 1;exact decide_eq_decide.mpr (by lia)
theorem Vq(ns:List Int):(ns.any fun x=>!dZ x)= !(ns.all fun n=>decide (0<=n/\n<=511)):=by rw[List.not_all_eq_any_not];congr 1;funext x;rw[lH]
theorem Rj:∀{ns:List Int},(∀n∈ns,0<=n)->kL (ns.map Dn)=ns.map V.int
 |[],_=>rfl
 |n::ns,h=>by have ih:=Rj (ns:=ns) fun m hm=>h m (aD _ hm);unfold kL at*;rw[bL,bL,bL,ih];congr 1;have:=h n aF;rw[fI this]
theorem nR{b:Bool}(h:¬b=true):b=false:=by cases b<;>simp_all
inductive OQ(CG:Addr):Sp|mk {vs H Q Z} (F:Hp) (gr q:Addr) (s:jD) (l:Int) (ns:List Int):vs=[.ref gr,.int l,.ref q]->LS s->ns.length<=16->sJ CG F H gr s->Rd F q (.lst (ns.map V.int))->Hu CG F H gr s (.rule l ns (ns.length:Int)) Q->OQ CG vs H Q Z
abbrev jz:Stmt:=iH (st 80) 4
theorem xk:cB ["self","left","right"] ["self","left","right"] (bF jz):=oP
theorem EH{l:Int}{n:Int}(h:kP l=false∨n<0∨16<n∨(ns.any fun x=>!dZ x)=true):bZ s (.rule l ns n)=(s,lO):=by unfold bZ;dsimp only;rw[if_pos h]
theorem EG{l:Int}{n:Int}(h:¬(kP l=false∨n<0∨16<n∨(ns.any fun x=>!dZ x)=true))(k:Rc14.RULES<=s.rules.length∨Rc14.RIGHTS<vQ s.rules+ns.length):bZ s (.rule l ns n)=(s,{value:= -2}):=by unfold bZ;dsimp only;rw[if_neg h,if_pos k]
theorem EF{l:Int}{n:Int}(h:¬(kP l=false∨n<0∨16<n∨(ns.any fun x=>!dZ x)=true))(k:¬(Rc14.RULES<=s.rules.length∨Rc14.RIGHTS<vQ s.rules+ns.length)):bZ s (.rule l ns n)=({s with rules:=s.rules++[⟨l.toNat,ns.map Dn⟩],text:=[]},{value:=(s.rules.length:Nat)}):=by unfold bZ;dsimp only;rw[if_neg h,if_neg k]
theorem mq(F:lY K "add_rule" "Grammar.add_rule" jz f fd)(C:GC K CG)(Tp:uO mg)(hIN:mW P w K mg aT 1 "is_name" ["number"] Ea)(hAS:mW P w K mg aT 2 "all_symbols" ["numbers"] jt)(aa6:oG P w K mg aT 1 CG "length_of_rights" ["self"] (OM CG))(hCR:oG P w K mg aT 2 CG "change_rules" ["self","rules"] (XI CG)):eN P w K mg aT lM 3 f fd ["self","left","right"] (OQ CG):=by
 refine oB F xk fun H Q hr h=>?_
 obtain⟨F0,gr,q,s,l,ns,rfl,so,hn,hg,hq,kk⟩:=h
 have yJ:=hr.mono (show 1<=2 by decide)
 refine⟨_,aJ (gN (zT (Cq (nF (dW hIN yJ (aB (pv 1) aP)))) (zT (eM Ya (eT eB (by rfl) Tp.len dO (aB (pv 2) aP)) (fB Tp.KG) (fU _)) (vI (Cq (nF (dW hAS hr (aB (pv 2) aP))))))).pt (aU (cO (fE (aB (fB Tp.outOfRange) aP)))) dX)
  (aJ (gN (zT (eM cu (eT eB (by rfl) Tp.len dO (aB (cT (pv 0) rfl) aP)) (fB Tp.KD) (fU _)) (vI (eM Ya (jY nY (Cr (pv 0) C.cg aa6 yJ) (eT eB (by rfl) Tp.len dO (aB (pv 2) aP))) (fB Tp.CK) (fU _)))).pt (aU (cO (fE (aB (fB Tp.Ui) aP)))) dX)
  (aJ (fM (nL (pv 0) C.cg hCR hr (aB (jY Hc (cT (pv 0) rfl) (fE (aB (oX (aB (pv 1) (aB (pv 2) aP))) aP))) aP)))
  (aU (cO (fE (aB (jY Mb (eT eB (by rfl) Tp.len dO (aB (cT (pv 0) rfl) aP)) cH) aP)))))),?_⟩
 obtain⟨dx,ru,tx,tb,sh,h⟩:=id hg
 have K0:=aK.le h.sub _ _ iP hq
 have bad:∀H1,aK H H1->(kP l=false∨(ns.length:Int)<0∨16<(ns.length:Int)∨(ns.any fun x=>!dZ x)=true)->Jm (Ky (gS (tC (.int (-1))) oW)) ⟨fun x H'=>Q V.iU H',Q,fun _ _=>False,fun _ _=>False⟩ [some (.ref gr),some (.int l),some (.ref q)] H1:=fun H1 s1 b=>by refine⟨z1,fun r hr=>?_⟩;have e:=EH (s:=s) b;exact kk.pO (by rw[e]) (Di.of s1 h.fg) (hg.same s1) hr (l:=[-1]) (by rw[e];rfl) (by decide)
 refine⟨_,rfl,l,rfl,_,rfl,?_⟩
 by_cases q1:kP l=true
 rotate_left
 .exact gB (by rw[<-tG,nR q1];rfl) (oZ (bad H (fun _ _ z=>z) (.inl (nR q1))))
 refine eE (by rw[<-tG,q1];rfl) ?_
 refine⟨_,rfl,q,_,rfl,.inl (cY K0),_,_,rfl,rfl,_,rfl,eE (bH (by rw[aA];lia)) ?_⟩
 refine⟨_,rfl,ns,q,rfl,K0,by lia,fun H1 s1=>⟨_,rfl,?_⟩⟩
 by_cases q2:(ns.any fun x=>!dZ x)=true
 .exact gB (by rw[<-Vq];exact q2) (bad H1 s1 (.inr (.inr (.inr q2))))
 refine eE (by rw[<-Vq];exact nR q2) ?_
 have h1:=h.same s1
 have Cz:=aK.le s1 _ _ iP K0
 obtain⟨ps,uA,vO⟩:=id h.Ux
 obtain⟨xs,oa⟩:=id h.ka
 have exs:xs=ps.map V.ref:=by
  rcases uA with z|⟨o,z⟩
  .rw[oa]at z;cases z;rfl
  .rw[oa]at z;cases z
 subst exs
 have lg:ps.length=s.rules.length:=dC vO
 have g8:=so.1.small.gl
 have nb:¬(kP l=false∨(ns.length:Int)<0∨16<(ns.length:Int)∨(ns.any fun x=>!dZ x)=true):=by
  rintro(z|z|z|z)
  .rw[q1]at z;cases z
  .lia
  .lia
  .exact q2 z
 refine⟨_,rfl,gr,CG,dx,_,_,rfl,h1.ob,C.cg,C.rules,rfl,ru,_,rfl,.inl (iY.of (h1.sub _ _ oa)),_,_,rfl,rfl,_,rfl,eE (bH (by rw[aA,lg];lia)) ?_⟩
 refine⟨_,rfl,gr,dx,_,rfl,h1.ob,rfl,F0,gr,s,rfl,so.wk,⟨_,_,_,_,_,h1⟩,fun H2 s2=>?_⟩
 have h2:=h1.same s2
 refine⟨_,rfl,q,_,rfl,.inl (cY (aK.le s2 _ _ iP Cz)),_,_,rfl,rfl,_,_,rfl,rfl,_,rfl,?_⟩
 by_cases q3:512<vQ s.rules+ns.length
 .refine gB (bB (by rw[aA];lia)) ?_;refine⟨z1,fun r hr=>?_⟩;have e:=EG (s:=s) nb (.inr q3);exact kk.pO (by rw[e]) (Di.of (s1.trans s2) h.fg) ⟨_,_,_,_,_,h2⟩ hr (l:=[-2]) (by rw[e];rfl) (by decide)
 refine eE (bH (by rw[aA];lia)) ?_
 have oj:=h2.sub _ _ oa
 refine⟨_,rfl,gr,dx,_,rfl,h2.ob,rfl,_,rfl,gr,CG,dx,_,_,rfl,h2.ob,C.cg,C.rules,rfl,_,rfl,_,rfl,z2,fun t ht=>⟨z1,fun l1 DL=>⟨ru,l1,ps.map V.ref,[.ref t],rfl,rfl,?_,aC,?_,fun MD SA=>?_⟩⟩⟩
 .rw[aH (cK (aK.upd ht _ _ oj) DL),aH (cK oj ht)];exact oj
 .rw[aA,lg];exact bK (show s.rules.length+1<=9 by lia) (by decide)
 have s3:aK H2 (bI (bI (bI H2 t (.tup [.int l,.ref q])) l1 (.lst [.ref t])) MD (.lst (ps.map V.ref++[.ref t]))):=((aK.upd ht).trans (aK.upd DL)).trans (aK.upd SA)
 have ft:H t=none:=aK.free (s1.trans s2) ht
 have O6:H MD=none:=aK.free (((s1.trans s2).trans (aK.upd ht)).trans (aK.upd DL)) SA
 have at_:bI (bI (bI H2 t (.tup [.int l,.ref q])) l1 (.lst [.ref t])) MD (.lst (ps.map V.ref++[.ref t])) t=some (.tup [.int l,.ref q]):=by
  have z:bI (bI H2 t (.tup [.int l,.ref q])) l1 (.lst [.ref t]) t=some (.tup [.int l,.ref q]):=by rw[aH (cK (by exact aC) DL)];exact aC
  rw[aH (cK z SA)];exact z
 have ar:bI (bI (bI H2 t (.tup [.int l,.ref q])) l1 (.lst [.ref t])) MD (.lst (ps.map V.ref++[.ref t])) MD=some (.lst (ps.map V.ref++[.ref t])):=aC
 have h3:=h2.same s3
 generalize bI (bI (bI H2 t (.tup [.int l,.ref q])) l1 (.lst [.ref t])) MD (.lst (ps.map V.ref++[.ref t]))=H3 at*
 refine⟨gr,dx,MD,_,rfl,h3.ob,(by show 5<=800;decide),rfl,fun H4 tx4 Gw f4 e4 D0=>?_⟩
 rw[XX]at D0
 have n1:t≠gr:=fun z=>by rw[z,h.ob]at ft;cases ft
 have n2:MD≠gr:=fun z=>by rw[z,h.ob]at O6;cases O6
 have ar4:=Gw _ _ ar (by simp[n2])
 have at4:=Gw _ _ at_ (by simp[n1])
 have sx:SX [gr] H H4:=(SX.of ((s1.trans s2).trans s3)).trans Gw
 refine⟨_,rfl,gr,CG,dx,_,_,rfl,D0,C.cg,C.rules,rfl,MD,_,rfl,.inl (iY.of ar4),_,_,rfl,rfl,z1,fun r hr=>?_⟩
 have g:=Fp h.sub sx h.fg
 have e:=EF (s:=s) nb (by
  rintro(z|z)
  .have z:128<=s.rules.length:=z
   lia
  .exact q3 z)
 have nn:∀n∈ns,0<=n:=fun n hn=>by have:=nR q2;rw[Vq,Bool.not_eq_false']at this;exact(aR (cX.mp this n hn)).1
 have l0:0<=l:=by rw[tG]at q1;exact(aR q1).1
 have bt:ext F0 H H4 gr t=some (.tup [.int l,.ref q]):=by rw[Bg h.sub ft n1];exact at4
 have br:ext F0 H H4 gr MD=some (.lst ((ps++[t]).map V.ref)):=by rw[Bg h.sub O6 n2,aQ];exact ar4
 have gh:GH CG (ext F0 H H4 gr) H4 gr dx MD tx4 .iU .iU {s with rules:=s.rules++[⟨l.toNat,ns.map Dn⟩],text:=[]}:=by
  refine⟨Ke h.sub sx h.fg,g.fg,D0,⟨ps++[t],.inl br,?_⟩,⟨_,br⟩,.inl ?_,.inl rfl,.inl rfl⟩
  .refine Qp (Paired.qE vO fun _ _ z=>z.le (aK.le g.ff)) ⟨q,.inl ?_,?_⟩
   .show ext F0 H H4 gr t=some (.tup [.int (l.toNat:Int),.ref q]);rw[fI l0];exact bt
   .show Rd _ q (.lst (kL (ns.map Dn)));rw[Rj nn];exact aK.le g.ff _ _ iP hq
  .have n4:tx4≠gr:=fun z=>by rw[z,D0]at e4;cases e4
   rw[Bg h.sub (aK.free ((s1.trans s2).trans s3) f4) n4];exact e4
 refine kk _ _ r (g.then (aK.upd hr)) ?_ (SX.Zf sx D0 hr) ?_ ?_
 .rw[e];exact⟨_,_,_,_,_,gh.same (aK.upd hr)⟩
 .rw[e,aC];have:((ps.map V.ref++[V.ref t]).length:Int)-1=(s.rules.length:Nat):=by rw[bA,aA,lg];simp
  show some (HO.lst [V.int (((ps.map V.ref++[V.ref t]).length:Int)-1)])=_;rw[this];rfl
 .rw[e];show 1<=70000;decide
inductive OF(CG:Addr):Sp|mk {vs H Q Z} (F:Hp) (gr q:Addr) (s:jD) (st:Int) (b:T):vs=[.ref gr,.int st,.ref q]->LS s->b.length<=6->sJ CG F H gr s->Rd F q (.lst (Ib b))->Hu CG F H gr s (.text st b (b.length:Int)) Q->OF CG vs H Q Z
abbrev jw:Stmt:=iH (st 80) 6
theorem wx:cB ["self","start","text"] ["self","start","text"] (bF jw):=oP
theorem EE{l:Int}{b:T}{n:Int}(h:kP l=false∨n<0∨64<n):bZ s (.text l b n)=(s,lO):=by unfold bZ;dsimp only;rw[if_pos h]
theorem ED{l:Int}{b:T}{n:Int}(h:¬(kP l=false∨n<0∨64<n)):bZ s (.text l b n)=({s with start:=l.toNat,text:=b},{value:=if (lQ s.rules b).contains (l.toNat,0,b.length)=true then 1 else 0}):=by unfold bZ;dsimp only;rw[if_neg h]
theorem xG(t:T):(Ib t).length=t.length:=by unfold Ib;rw[aA]
theorem lh(F:lY K "set_text" "Grammar.set_text" jw f fd)(C:GC K CG)(Tp:uO mg)(hIN:mW P w K mg aT 1 "is_name" ["number"] Ea)(hCT:oG P w K mg aT 1 CG "change_text" ["self","text"] (XH CG))(N2:oG P w K mg aT 9 CG "trees_by_end" ["self","symbol","place"] (Xg CG)):eN P w K mg aT lM 10 f fd ["self","start","text"] (OF CG):=by
 refine oB F wx fun H Q hr h=>?_
 obtain⟨F0,gr,q,s,st,b,rfl,so,hb,hg,hq,kk⟩:=h
 have yJ:=hr.mono (show 1<=9 by decide)
 have hu:=jV hr
 refine⟨_,aJ (gN (zT (Cq (nF (dW hIN yJ (aB (pv 1) aP)))) (vI (eM Ya (eT eB (by rfl) Tp.len dO (aB (pv 2) aP)) (fB Tp.QS) (fU _)))).pt (aU (cO (fE (aB (fB Tp.outOfRange) aP)))) dX)
  (aJ (iV (pv 0) (pv 1) rfl)
  (aJ (fM (nL (pv 0) C.cg hCT yJ (aB (pv 2) aP)))
  (aU (cO (fE (aB (Lz (sG (Hb hu (eT eB (by rfl) Tp.len dO (aB (pv 2) aP)) (nL (pv 0) C.cg N2 hr (aB (pv 1) (aB cH aP)))) (by with_unfolding_all rfl)) cH cH) aP)))))),?_⟩
 obtain⟨dx,ru,tx,tb,sh,h⟩:=id hg
 have K0:=aK.le h.sub _ _ iP hq
 refine⟨_,rfl,st,rfl,_,rfl,?_⟩
 by_cases q1:kP st=true
 rotate_left
 .refine gB (by rw[<-tG,nR q1];rfl) (oZ ⟨z1,fun r hr=>?_⟩);have e:=EE (s:=s) (b:=b) (n:=(b.length:Int)) (.inl (nR q1));exact kk.pO (by rw[e]) (Di.of (fun _ _ z=>z) h.fg) hg hr (l:=[-1]) (by rw[e];rfl) (by decide)
 refine eE (by rw[<-tG,q1];rfl) ?_
 refine⟨_,rfl,q,_,rfl,.inl (cY K0),_,_,rfl,rfl,_,rfl,eE (bH (by rw[xG];lia)) ?_⟩
 have nb:¬(kP st=false∨(b.length:Int)<0∨64<(b.length:Int)):=by
  rintro(z|z|z)
  .rw[q1]at z;cases z
  .lia
  .lia
 have e:=ED (s:=s) (b:=b) nb
 have q2:=q1
 rw[tG]at q2
 obtain⟨l0,l1⟩:=aR q2
 obtain⟨n,rfl⟩:∃n:Nat,st=(n:Int):=⟨st.toNat,(fI l0).symm⟩
 rw[gE]at e
 refine⟨_,rfl,_,rfl,gr,CG,dx,_,rfl,h.ob,C.cg,C.start,(by show 5<1000;decide),?_⟩
 rw[CF]
 refine⟨_,rfl,gr,dx,_,rfl,aC,rfl,_,rfl,gr,dx,q,_,rfl,aC,(by show 5<=900;decide),?_⟩
 rw[XW,nH]
 have sx:SX [gr] H (bI H gr (.ins CG dx (Dc (.int n) (.ref ru) sh (.ref q) .iU))):=SX.upd (by simp)
 have tu:bI H gr (.ins CG dx (Dc (.int n) (.ref ru) sh (.ref q) .iU)) gr=some (.ins CG dx (Dc (.int n) (.ref ru) sh (.ref q) .iU)):=aC
 generalize bI H gr (.ins CG dx (Dc (.int n) (.ref ru) sh (.ref q) .iU))=H2 at*
 have g0:Di F0 H F0 H2 gr:=⟨fun _ _ z=>z,fun _ _ _ _ z=>z,sx,h.fg⟩
 have sF:aK F0 H2:=fun a o z=>sx _ _ (h.sub _ _ z) (by
  simp;intro e;rw[e,h.fg]at z;cases z)
 have gh:GH CG F0 H2 gr dx ru q .iU sh {s with start:=n,text:=b}:=⟨sF,h.fg,tu,h.Ux,h.ka,hq,.inl rfl,h.um⟩
 have sm:Tw.jS s.rules b:=⟨so.1.small.wf,so.1.small.gl,by lia⟩
 refine⟨_,rfl,q,_,rfl,.inl (cY (aK.le sF _ _ iP hq)),?_⟩
 refine⟨_,rfl,gr,dx,_,rfl,tu,rfl,_,rfl,F0,gr,{s with start:=n,text:=b},n,0,rfl,⟨sm.wf,so.wk.2.1,so.2,by show b.length<=64;lia⟩,⟨_,_,_,_,_,gh⟩,fun F3 H3 TV tm gm X1 sh3 d g3 h3 ui hd=>?_⟩
 obtain⟨js,hW,hd⟩:=hd
 have hW:Tw.iL s.rules b [n] 0=Tw.iL s.rules b [n] 0/\Wy b.length (fun j=>iL s.rules b [n] 0 j) js:=⟨rfl,hW⟩
 have gg:=kS hd (aV (b.length:Int))
 have gv:=hW.2.val b.length
 refine⟨d,_,rfl,by rw[xG];exact gg,_,rfl,?_⟩
 have L4:(lQ s.rules b).contains (n,0,b.length)=true↔iL s.rules b [n] 0 b.length≠some 0:=by rw[bP,Tw.mO sm,Ne,Tw.kC,qC];exact⟨fun z=>z.2,fun z=>⟨by lia,z⟩⟩
 have fin:∀(v:Int),(bZ s (.text (n:Int) b (b.length:Int))).2={value:=v}->Ky (fun σ H Q=>Q [V.int v] H) [some (.ref gr),some (.int n),some (.ref q)] H3 Q:=fun v ev=>by
  refine⟨z1,fun r hr=>?_⟩;refine kk F3 _ r ((g0.trans g3).then (aK.upd hr)) ?_ (SX.Zf (g0.trans g3).sx h3.ob hr) ?_ ?_
  .rw[e];exact⟨_,_,_,_,_,h3.same (aK.upd hr)⟩
  .rw[ev];exact aC
  .rw[ev];show 1<=70000;decide
 by_cases q3:iL s.rules b [n] 0 b.length=some 0
 .rw[if_neg (by rw[qC];exact q3)]at gv;refine eE ?_ ?_
  .show WJ (eO _ _)=false;rw[gv];rfl
  .exact fin 0 (by rw[e];show WD _ _=_;rw[if_neg (fun z=>L4.mp z q3)])
 .rw[if_pos q3]at gv;refine gB ?_ ?_
  .show WJ (eO _ _)=true;rw[gv];rfl
  .exact fin 1 (by rw[e];show WD _ _=_;rw[if_pos (L4.mpr q3)])
theorem Ag{x:Nat}(sm:Tw.jS g t)(Bq:i<=j)(hj:j<=t.length):pA g (lQ g (gO t i j)) (gO t i j) (x,0,(gO t i j).length)=true↔iL g t [x] i j=none:=by
 rw[Tw.Jr sm Bq hj,Tw.qJ];by_cases h:x<256
 .rw[Tw.sU sm.wf h];exact⟨fun z=>z.2,fun z=>⟨h,z⟩⟩
 .exact⟨fun z=>absurd z.1 h,fun z=>absurd (Tw.RA.byte (by lia)) z⟩
theorem IG{x:Nat}(wf:WF g)(e:iL g t [x] i j=some n):256<=x∨Acc (Tw.nB g t) (x,i,j):=by
 by_cases h:x<256
 .exact .inr ((Tw.sU wf h).mp (Tw.kD.mp e).1)
 .exact .inl (by lia)
theorem IF{x:Nat}(sm:Tw.jS g t)(Bq:i<=j)(hj:j<=t.length)(e:iL g t [x] i j=some n):(uG g (gO t i j) x).length=n:=
 Tw.Yf sm Bq hj (Tw.kD.mp e).2 (IG sm.wf e)
theorem ZX(n:Nat):((n % 2^64:Nat):Int)=enc (some n) % 18446744073709551616:=by show _=qI (n:Int) % 18446744073709551616;rw[Fb];lia
theorem uU(t:T):gO t 0 t.length=t:=by unfold gO;rw[bX,qZ]
theorem Zt{i j:Int}(h:dZ x=false∨i<0∨j<i∨(s.text.length:Int)<j):bZ s (.count x i j)=(s,lO):=by unfold bZ;dsimp only;rw[if_pos h]
theorem Zs{i j:Int}(h:¬(dZ x=false∨i<0∨j<i∨(s.text.length:Int)<j))(k:pA s.rules (lQ s.rules (gO s.text i.toNat j.toNat)) (gO s.text i.toNat j.toNat) (x.toNat,0,(gO s.text i.toNat j.toNat).length)=true):bZ s (.count x i j)=(s,{value:=1}):=by unfold bZ;dsimp only;rw[if_neg h,if_pos k]
theorem Zr{i j:Int}(h:¬(dZ x=false∨i<0∨j<i∨(s.text.length:Int)<j))(k:¬pA s.rules (lQ s.rules (gO s.text i.toNat j.toNat)) (gO s.text i.toNat j.toNat) (x.toNat,0,(gO s.text i.toNat j.toNat).length)=true):bZ s (.count x i j)=(s,{value:=0,numbers:=[(uG s.rules (gO s.text i.toNat j.toNat) x.toNat).length % 2^64]}):=by unfold bZ;dsimp only;rw[if_neg h,if_neg k]
inductive jk(CG:Addr):Sp|mk {vs H Q Z} (F:Hp) (gr:Addr) (s:jD) (x i j:Int):vs=[.ref gr,.int x,.int i,.int j]->LS s->sJ CG F H gr s->Hu CG F H gr s (.count x i j) Q->jk CG vs H Q Z
abbrev g9:Stmt:=iH (st 80) 7
theorem xh:cB ["self","symbol","i","j","trees"] ["self","symbol","i","j"] (bF g9):=oP
theorem C1(F:lY K "count_trees" "Grammar.count_trees" g9 f fd)(C:GC K CG)(Tp:uO mg)(hIS:mW P w K mg aT 1 "is_symbol" ["number"] rG)(N2:oG P w K mg aT 9 CG "trees_by_end" ["self","symbol","place"] (Xg CG)):eN P w K mg aT lM 10 f fd ["self","symbol","i","j"] (jk CG):=by
 refine oB F xh fun H Q hr h=>?_
 obtain⟨F0,gr,s,x,i,j,rfl,so,hg,kk⟩:=h
 have yJ:=hr.mono (show 1<=9 by decide)
 have hu:=jV hr
 have nd:=xh.nd
 refine⟨_,aJ (gN (zT (Cq (nF (dW hIS yJ (aB (pv 1) aP)))) (vI (Cq (JS tU tU tU cH (pv 2) (pv 3) (eT eB (by rfl) Tp.len dO (aB (cT (pv 0) rfl) aP)))))).pt (aU (cO (fE (aB (fB Tp.outOfRange) aP)))) dX)
  (aJ (sv (i:=4) nd (kR hu (nL (pv 0) C.cg N2 hr (aB (pv 1) (aB (pv 2) aP))) (pv 3) cH ⟨rfl,rfl,rfl,rfl⟩))
  (aJ (gN (eM pF (pv 4) (fB Tp.endless) (fU _)) (aU (cO (fE (aB cH aP)))) dX)
  (aU (cO (fE (aB cH (aB (jY QE (pv 4) (fB Tp.Jz)) aP))))))),?_⟩
 obtain⟨dx,ru,tx,tb,sh,h⟩:=id hg
 have w6:=aK.le h.sub _ _ iP h.AQ
 have bad:(dZ x=false∨i<0∨j<i∨(s.text.length:Int)<j)->Jm (Ky (gS (tC (.int (-1))) oW)) ⟨fun x H'=>Q V.iU H',Q,fun _ _=>False,fun _ _=>False⟩ [some (.ref gr),some (.int x),some (.int i),some (.int j),none] H:=fun b=>by refine⟨z1,fun r hr=>?_⟩;have e:=Zt (s:=s) b;exact kk.pO (by rw[e]) (Di.of (fun _ _ z=>z) h.fg) hg hr (l:=[-1]) (by rw[e];rfl) (by decide)
 refine⟨_,rfl,x,rfl,_,rfl,?_⟩
 by_cases q1:dZ x=true
 rotate_left
 .exact gB (by rw[<-lH,nR q1];rfl) (oZ (bad (.inl (nR q1))))
 refine eE (by rw[<-lH,q1];rfl) ?_
 refine⟨_,rfl,_,_,rfl,rfl,_,rfl,?_⟩
 by_cases q2:0<=i
 rotate_left
 .exact eE (bH q2) (oZ (bad (.inr (.inl (by lia)))))
 refine gB (bB q2) ⟨_,rfl,_,_,rfl,rfl,_,rfl,?_⟩
 by_cases q3:i<=j
 rotate_left
 .exact eE (bH q3) (oZ (bad (.inr (.inr (.inl (by lia))))))
 refine gB (bB q3) ⟨_,rfl,gr,CG,dx,_,_,rfl,h.ob,C.cg,C.text,rfl,tx,_,rfl,.inl (cY w6),_,_,rfl,rfl,_,rfl,?_⟩
 rw[xG]
 by_cases q4:j<=(s.text.length:Int)
 rotate_left
 .exact gB (by rw[bH q4];rfl) (bad (.inr (.inr (.inr (by lia)))))
 refine eE (by rw[bB q4];rfl) ?_
 have nb:¬(dZ x=false∨i<0∨j<i∨(s.text.length:Int)<j):=by
  rintro(z|z|z|z)
  .rw[q1]at z;cases z
  .lia
  .lia
  .lia
 have q5:=q1
 rw[lH]at q5
 obtain⟨x0,x1⟩:=aR q5
 obtain⟨x,rfl⟩:∃n:Nat,x=(n:Int):=⟨x.toNat,(fI x0).symm⟩
 obtain⟨i,rfl⟩:∃n:Nat,i=(n:Int):=⟨i.toNat,(fI q2).symm⟩
 obtain⟨j,rfl⟩:∃n:Nat,j=(n:Int):=⟨j.toNat,(fI (by lia)).symm⟩
 have d2:=Zs (s:=s) nb
 have d3:=Zr (s:=s) nb
 rw[gE,gE,gE]at d2 d3
 have Bq:i<=j:=by lia
 have hj:j<=s.text.length:=by lia
 clear nb q5 x0 x1 q2 q3 q4 bad
 refine⟨_,rfl,gr,dx,_,rfl,h.ob,rfl,_,rfl,_,rfl,F0,gr,s,x,i,rfl,so.wk,hg,fun F3 H3 TV tm gm X1 sh3 d g3 h3 ui hd=>?_⟩
 obtain⟨js,hW,hd⟩:=hd
 have gg:=kS hd (aV (j:Int))
 have gv:=hW.getD j
 refine⟨d,rfl,tY hd,_,rfl,_,gg,?_⟩
 rw[gv]
 cases ec:iL s.rules s.text [x] i j with
 |none=>refine⟨_,rfl,rfl,_,rfl,gB (bB rfl) ⟨z1,fun r hr=>?_⟩⟩;have e:=d2 ((Ag so.1.small Bq hj).mpr ec);exact kk.pO (by rw[e]) g3 ⟨_,_,_,_,_,h3⟩ hr (l:=[1]) (by rw[e];rfl) (by decide)
 |some n=>
  have e:=d3 (fun z=>by rw[Ag so.1.small Bq hj,ec]at z;cases z);rw[IF so.1.small Bq hj ec]at e;have em:=ZX n;have ne:¬enc (some n)= -1:=fun z=>by rw[xS]at z;cases z
  generalize enc (some n)=N at*;refine⟨_,rfl,rfl,_,rfl,eE (bH (by intro z;injection z with z;exact ne z)) ?_⟩;refine⟨_,rfl,_,_,rfl,rfl,(by show(0:Int)<18446744073709551616;decide),z2,fun r hr=>?_⟩;exact kk.pO (by rw[e]) g3 ⟨_,_,_,_,_,h3⟩ hr (l:=[0,N % 18446744073709551616]) (by rw[e,<-em];rfl) (by show 2<=70000;decide)
theorem EC(h:pA s.rules (lQ s.rules s.text) s.text (s.start,0,s.text.length)=true):bZ s (.tree k m)=(s,lO):=by unfold bZ;dsimp only;rw[if_pos h]
theorem EB(h:¬pA s.rules (lQ s.rules s.text) s.text (s.start,0,s.text.length)=true)(e:(uG s.rules s.text s.start)[k]? =none):bZ s (.tree k m)=(s,lO):=by unfold bZ;dsimp only;rw[if_neg h,e]
theorem EA(h:¬pA s.rules (lQ s.rules s.text) s.text (s.start,0,s.text.length)=true)(e:(uG s.rules s.text s.start)[k]? =some l)(q:kX m<l.length):bZ s (.tree k m)=(s,{value:= -2}):=by unfold bZ;dsimp only;rw[if_neg h,e];dsimp only;rw[if_pos q]
theorem DZ(h:¬pA s.rules (lQ s.rules s.text) s.text (s.start,0,s.text.length)=true)(e:(uG s.rules s.text s.start)[k]? =some l)(q:¬kX m<l.length):bZ s (.tree k m)=(s,{value:=(l.length:Nat),numbers:=l}):=by unfold bZ;dsimp only;rw[if_neg h,e];dsimp only;rw[if_neg q]
theorem HG(l:Ln):kL l=(l.map fun(b:Nat)=>(b:Int)).map V.int:=by unfold kL;rw[dG];rfl
theorem ZY(h:k<18446744073709551616):enc (some n)<=(k:Int)↔n<=k:=by rw[TK (by lia) (by lia)];lia
theorem gd{rW:Hp}{A:WA}{x:Nat}(ru:fZ H A.ru g)(ta:nS tx.length H A.ta (fun s i j=>iL g tx [s] i j))(s0:aK H H')(fw:H A.w=none)(sx:SX [A.w] H' rW)(wo:rW A.w=some (.ins CW A.dx (Oi A tx.length x 0)))(va:H' A.tl=none)(fpa:H' A.pa=none)(DT:H' A.rs=none)(fkp:H' A.kp=none)
  (tl:rW A.tl=some (.lst [])) (pa:rW A.pa=some (.lst [])) (rs:rW A.rs=some (.dK [])) (kp:rW A.kp=some (.dT [])) (ne:A.tl≠A.pa):WH g tx CW CP H rW A x 0 [] []:=by
 refine⟨fun a o z=>sx _ _ (s0 _ _ z) (by simp;intro e;rw[e,fw]at z;cases z),ru,ta,wo,tl,pa,⟨[],rs,by simp,by simp⟩,⟨[],kp,by simp,by simp,by simp⟩,by simp,ne,by simp,by simp,by simp,by simp,?_⟩
 intro m hm
 unfold oY at hm
 simp only[aW,List.flatMap_nil,pB,or_false]at hm
 rcases hm with rfl|rfl|rfl|rfl|rfl
 .exact fw
 .exact aK.free s0 va
 .exact aK.free s0 fpa
 .exact aK.free s0 DT
 .exact aK.free s0 fkp
inductive jc(CG:Addr):Sp|mk {vs H Q Z} (F:Hp) (gr:Addr) (s:jD) (k:Nat) (m:Int):vs=[.ref gr,.int (k:Int),.int m]->LS s->k<18446744073709551616->sJ CG F H gr s->Hu CG F H gr s (.tree k m) Q->jc CG vs H Q Z
abbrev d7:Stmt:=iH (st 80) 8
theorem xa:cB ["self","k","most","trees","numbers"] ["self","k","most"] (bF d7):=oP
theorem zx(F:lY K "pick_tree" "Grammar.pick_tree" d7 f fd)(C:GC K CG)(W:WC K CW CP)(Tp:uO mg)(N2:oG P w K mg aT 9 CG "trees_by_end" ["self","symbol","place"] (Xg CG))(hWI:FA P w K mg aT 1 "Walk" CW ["self","rules","table","size","skipped"] (il CW))(hUT:oG P w K mg aT 10 CW "rules_up_to" ["self","start","most"] (ip CW CP)):eN P w K mg aT lM 11 f fd ["self","k","most"] (jc CG):=by
 refine oB F xa fun H Q hr h=>?_
 obtain⟨F0,gr,s,k,m,rfl,so,hk,hg,kk⟩:=h
 have x9:=hr.mono (show 9<=10 by decide)
 have Uy:=hr.mono (show 2<=10 by decide)
 have hu:=jV hr
 have nd:=xa.nd
 refine⟨_,aJ (sv (i:=3) nd (kR hu (nL (pv 0) C.cg N2 x9 (aB (cT (pv 0) rfl) (aB cH aP))) (eT eB (by rfl) Tp.len dO (aB (cT (pv 0) rfl) aP)) cH ⟨rfl,rfl,rfl,rfl⟩))
  (aJ (gN (zT (eM pF (pv 3) (fB Tp.endless) (fU _)) (vI (eM tU (pv 3) (pv 1) (fU _)))).pt (aU (cO (fE (aB (fB Tp.Rb) aP)))) dX)
  (aJ (gN (Cq (El tU tU cH (pv 2) (fB Tp.Mg))) (aU (cO (fE (aB (fB Tp.Ui) aP)))) dX)
  (aJ (sv (i:=4) nd (nL (cq hWI Uy (aB (cT (pv 0) rfl) (aB (cT (pv 0) rfl) (aB (eT eB (by rfl) Tp.len dO (aB (cT (pv 0) rfl) aP)) (aB (pv 1) aP))))) W.cw hUT hr (aB (cT (pv 0) rfl) (aB (pv 2) aP))))
  (aJ (gN (eM Ya (eT eB (by rfl) Tp.len dO (aB (pv 4) aP)) (pv 2) (fU _)) (aU (cO (fE (aB (fB Tp.Ui) aP)))) dX)
  (aU (cO (jY Hc (fE (aB (eT eB (by rfl) Tp.len dO (aB (pv 4) aP)) aP)) (pv 4)))))))),?_⟩
 obtain⟨dx,ru,tx,tb,sh,h⟩:=id hg
 have sm:=so.1.small
 refine⟨_,rfl,gr,dx,_,rfl,h.ob,rfl,_,rfl,gr,CG,dx,_,_,rfl,h.ob,C.cg,C.start,rfl,F0,gr,s,s.start,0,rfl,so.wk,hg,fun F3 H3 TV tm gm X1 sh3 d g3 h3 ui hd=>?_⟩
 obtain⟨js,hW,hd⟩:=hd
 have gg:=kS hd (aV (s.text.length:Int))
 have gv:=hW.getD s.text.length
 have G6:=aK.le h3.sub _ _ iP h3.AQ
 refine⟨d,rfl,tY hd,_,rfl,gr,CG,TV,_,_,rfl,h3.ob,C.cg,C.text,rfl,gm,_,rfl,.inl (cY G6),_,by rw[xG];exact gg,?_⟩
 rw[gv]
 have he:=Ag (x:=s.start) sm (cI s.text.length) (aY _)
 rw[uU]at he
 have ref:bZ s (.tree k m)=(s,lO)->Jm (Ky (gS (tC (.int (-1))) oW)) ⟨fun x H'=>Q V.iU H',Q,fun _ _=>False,fun _ _=>False⟩ [some (.ref gr),some (.int k),some (.int m),some (.int (enc (iL s.rules s.text [s.start] 0 s.text.length))),none] H3:=fun e=>by refine⟨z1,fun r hr=>?_⟩;exact kk.pO (by rw[e]) g3 ⟨_,_,_,_,_,h3⟩ hr (l:=[-1]) (by rw[e];rfl) (by decide)
 cases ec:iL s.rules s.text [s.start] 0 s.text.length with
 |none=>rw[ec]at ref;exact⟨_,rfl,rfl,_,rfl,gB (bB rfl) (oZ (ref (EC (he.mpr ec))))⟩
 |some n=>
  have k9:¬pA s.rules (lQ s.rules s.text) s.text (s.start,0,s.text.length)=true:=fun z=>by rw[he,ec]at z;cases z
  have oy:=IF sm (cI s.text.length) (aY _) ec;rw[uU]at oy;have qb:=IG sm.wf ec;have Rn:=(Tw.kD.mp ec).1;have hle:=ZY (k:=k) (n:=n) hk;have ne:¬enc (some n)= -1:=fun z=>by rw[xS]at z;cases z
  have sW:=Tw.Wx sm qb;rw[ec]at ref;clear gv gg;generalize enc (some n)=N at*;refine⟨_,rfl,rfl,_,rfl,eE (bH (by intro z;injection z with z;exact ne z)) ⟨_,rfl,_,rfl,_,_,rfl,rfl,_,rfl,?_⟩⟩;by_cases q1:n<=k
  .exact gB (bB (hle.mpr q1)) (ref (EB k9 (Av (by rw[oy];exact q1))))
  refine eE (bH (fun z=>q1 (hle.mp z))) ?_;obtain⟨l,el⟩:∃l,(uG s.rules s.text s.start)[k]? =some l:=⟨_,bM (by rw[oy];exact Nat.lt_of_not_le q1)⟩;have dl:=(sW.1 l).mp (aG el);have E1:0<l.length:=by obtain⟨a,r,rs,e,_⟩:=(Tw.Fq so.1.st).mp dl;rw[e];simp
  have S7:kX m<l.length->∀H4 v4,aK H3 H4->Jm (Ky (gS (tC (.int (-2))) oW)) ⟨fun x H'=>Q V.iU H',Q,fun _ _=>False,fun _ _=>False⟩ [some (.ref gr),some (.int k),some (.int m),some (.int N),v4] H4:=fun z H4 v4 s4=>by refine⟨z1,fun r hr=>?_⟩;have e:=EA k9 el z;exact kk.pO (by rw[e]) (g3.then s4) ⟨_,_,_,_,_,h3.same s4⟩ hr (l:=[-2]) (by rw[e];rfl) (by decide)
  refine⟨_,rfl,_,_,rfl,rfl,_,rfl,?_⟩;by_cases q2:1<=m;rotate_left
  .refine eE (bH q2) ⟨_,rfl,gB rfl (S7 (by unfold kX;rw[if_neg (fun z=>q2 z.1)];exact E1) H3 _ (fun _ _ z=>z))⟩
  refine gB (bB q2) ⟨_,_,rfl,rfl,_,rfl,?_⟩;by_cases q3:m<=65536;rotate_left
  .exact gB (by rw[bH q3];rfl) (S7 (by unfold kX;rw[if_neg (fun z=>q3 z.2)];exact E1) H3 _ (fun _ _ z=>z))
  refine eE (by rw[bB q3];rfl) ?_;obtain⟨m,rfl⟩:∃n:Nat,m=(n:Int):=⟨m.toNat,(fI (by lia)).symm⟩;have dh:kX (m:Int)=m:=by unfold kX;rw[if_pos ⟨q2,q3⟩];exact gE m
  rw[dh]at S7;refine⟨_,rfl,gr,CG,TV,_,_,rfl,h3.ob,C.cg,C.rules,rfl,_,rfl,gr,CG,TV,_,_,rfl,h3.ob,C.cg,C.table,rfl,_,rfl,gr,CG,TV,_,_,rfl,h3.ob,C.cg,C.text,rfl,gm,_,rfl,.inl (cY G6),_,rfl,fun o V9 ho L8 Iq=>?_⟩;have fo1:bI H3 V9 (.own o) o=none:=by rw[aH (Ne.symm Iq)];exact ho
  have s4:aK H3 (bI (bI H3 V9 (.own o)) o (.ins CW V9 [])):=(aK.upd L8).trans (aK.upd fo1);refine⟨s.text.length,k,o,V9,tm,X1,by rw[xG],aC,fun H5 A e1 e2 e3 e4 sx wo va fpa DT fkp atl apa ars akp k8=>⟨rfl,?_⟩⟩;subst e1 e2
  have wh:WH s.rules s.text CW CP H3 H5 A k 0 [] []:=by
   refine gd (H':=bI (bI H3 A.dx (.own A.w)) A.w (.ins CW A.dx [])) ?_ ?_ s4 ho sx wo va fpa DT fkp atl apa ars akp k8
   .rw[e3];exact h3.Ux.le (aK.le h3.sub)
   .rw[e4];exact ui.le (aK.le h3.sub)
  have h5:=h3.same wh.sub;refine⟨A.w,A.dx,_,rfl,wo,rfl,_,rfl,gr,CG,TV,_,_,rfl,h5.ob,C.cg,C.start,rfl,_,rfl,s.rules,s.text,H3,A,k,s.start,m,l,rfl,so.wk,wh,hk,so.1.st,by lia,⟨Rn,_,l,sW,el,rfl⟩,fun H6 bW s6 uM hor hlen=>?_⟩;have g6:=g3.then s6;have h6:=h3.same s6;refine⟨_,rfl,A.tl,_,rfl,.inl (iY.of uM),_,rfl,_,_,rfl,rfl,_,rfl,?_⟩;rw[fO];by_cases q4:m<bW.length
  .refine gB (bB (by lia)) (S7 ?_ H6 _ s6);rcases hor with z|⟨_,z⟩
   .rw[<-z];exact q4
   .lia
  .refine eE (bH (by lia)) ?_
   have et:bW=l:=by
    rcases hor with z|⟨z,_⟩
    .exact z
    .exact absurd z q4
   subst et;have e:=DZ k9 el (by rw[dh];exact q4);refine⟨_,rfl,A.tl,_,rfl,.inl (iY.of uM),z1,fun l1 DL=>⟨_,rfl,l1,A.tl,_,kL bW,rfl,rfl,aC,?_,?_,fun r hr=>?_⟩⟩
   .rw[aH (cK uM DL)];exact uM
   .rw[fO];exact bK (show 1+bW.length<=65537 by lia) (by decide)
   .have key:=kk.pO (r:=r) (by rw[e]) (g6.then (aK.upd (o:=.lst [.int ((kL bW).length:Int)]) DL)) ⟨_,_,_,_,_,h6.same (aK.upd DL)⟩ hr (l:=(bW.length:Int)::bW.map fun(b:Nat)=>(b:Int)) (by rw[e];rfl) (by rw[cV,aA];lia);rw[bL,<-HG,<-fO]at key;exact key
theorem Lj(wf:WF g){x a:Nat}(hx:256<=x)(h:cJ (Tw.kW g) x a):a=x:=by
 induction h with
 |refl=>rfl
 |tail _ c ih=>subst ih;obtain⟨r,hr,e,_⟩:=c;have:=(wf r hr.1).1;lia
theorem Fy(p:Prop)(i:Decidable p)(a b:Nat):(if mT p=true then a else b)= @ite _ p i a b:=by
 by_cases h:p
 .rw[if_pos (gX.mpr h),if_pos h]
 .rw[if_neg (fun z=>h (gX.mp z)),if_neg h]
open Classical in
theorem YV(wf:WF g)(hl:g.length<=8){x:Nat}(hx:x<512):Mv g x=FE g x:=by
 by_cases h:x<256
 .rw[Tw.Yt wf hl h];unfold Mv;rw[Fy _ (jQ (Tw.Mk g x)),Fy _ (jQ (Tw.Em g x)),Fy _ (jQ (∃a,cJ (Tw.kW g) x a/\∃b,Tw.sZ g a b/\cJ (Tw.sZ g) b a)),Fy _ (jQ (∃a,cJ (Tw.kW g) x a/\∃b,Tw.AY g a b/\cJ (Tw.kW g) b a))]
 .unfold Mv FE;rw[if_pos (gX.mpr (Tw.Mk.byte (by lia) hx)),if_pos (show 256<=x by lia),if_neg (fun z=>by have:=(gX.mp z).lt;lia),if_neg (fun z=>?_),if_neg (fun z=>?_)]
  .obtain⟨a,ra,b,⟨r,hr,e,_⟩,_⟩:=gX.mp z;rw[Lj wf (by lia) ra]at e;have:=(wf r hr.1).1;lia
  .obtain⟨a,ra,b,⟨r,hr,e,_⟩,_⟩:=gX.mp z;rw[Lj wf (by lia) ra]at e;have:=(wf r hr.1).1;lia
theorem EJ(h:dZ x=false):bZ s (.kind x)=(s,lO):=by unfold bZ;dsimp only;rw[if_pos h]
theorem EI(h:dZ x=true):bZ s (.kind x)=(s,{value:=(FE s.rules x.toNat:Nat)}):=by unfold bZ;dsimp only;rw[if_neg (by rw[h];simp)]
inductive iu(CG:Addr):Sp|mk {vs H Q Z} (F:Hp) (gr:Addr) (s:jD) (x:Int):vs=[.ref gr,.int x]->LS s->sJ CG F H gr s->Hu CG F H gr s (.kind x) Q->iu CG vs H Q Z
abbrev c7:Stmt:=iH (st 80) 11
theorem Z0:cB ["self","symbol"] ["self","symbol"] (bF c7):=oP
theorem zm(F:lY K "tell_kind" "Grammar.tell_kind" c7 f fd)(C:GC K CG)(Tp:uO mg)(hIS:mW P w K mg aT 1 "is_symbol" ["number"] rG)(hKS:mW P w K mg aT 5 "kind_of_symbol" ["rules","symbol"] jf):eN P w K mg aT lM 6 f fd ["self","symbol"] (iu CG):=by
 refine oB F Z0 fun H Q hr h=>?_
 obtain⟨F0,gr,s,x,rfl,so,hg,kk⟩:=h
 have yJ:=hr.mono (show 1<=5 by decide)
 refine⟨_,aJ (gN (Cq (nF (dW hIS yJ (aB (pv 1) aP)))) (aU (cO (fE (aB (fB Tp.outOfRange) aP)))) dX)
  (aU (cO (fE (aB (dW hKS hr (aB (cT (pv 0) rfl) (aB (pv 1) aP))) aP)))),?_⟩
 obtain⟨dx,ru,tx,tb,sh,h⟩:=id hg
 refine⟨_,rfl,x,rfl,_,rfl,?_⟩
 by_cases q1:dZ x=true
 rotate_left
 .refine gB (by rw[<-lH,nR q1];rfl) ⟨z1,fun r hr=>?_⟩;have e:=EJ (s:=s) (nR q1);exact kk.pO (by rw[e]) (Di.of (fun _ _ z=>z) h.fg) hg hr (l:=[-1]) (by rw[e];rfl) (by decide)
 refine eE (by rw[<-lH,q1];rfl) ?_
 have e:=EI (s:=s) q1
 rw[lH]at q1
 obtain⟨x0,x1⟩:=aR q1
 obtain⟨x,rfl⟩:∃n:Nat,x=(n:Int):=⟨x.toNat,(fI x0).symm⟩
 rw[gE]at e
 have wk:=so.wk
 refine⟨_,rfl,gr,CG,dx,_,_,rfl,h.ob,C.cg,C.rules,rfl,_,rfl,s.rules,x,ru,rfl,wk.1,wk.2.1,wk.2.2.1,by lia,h.Ux.le (aK.le h.sub),fun H1 s1=>⟨z1,fun r hr=>?_⟩⟩
 exact kk.pO (by rw[e]) (Di.of s1 h.fg) (hg.same s1) hr (l:=[(Mv s.rules x:Int)]) (by rw[e,YV wk.1 so.1.small.gl (by lia)];rfl) (by show 1<=70000;decide)
theorem Ry:bZ s .next=(s,{value:=((Tw.wD s.rules s.start s.text).length:Nat),numbers:=LY fun(b:UInt8)=>(Tw.wD s.rules s.start s.text).contains b}):=rfl
theorem QO{ms:Ln}(nm:ms.Nodup)(lm:∀c∈ms,c<256)(nb:bs.Nodup)(e:∀c:UInt8,c.toNat∈ms↔c∈bs):ms.length=bs.length:=by
 have p:ms.Perm (bs.map fun c=>c.toNat):=by
  refine(kY nm ?_).mpr fun c=>?_
  .exact Qa _ (fun a b Vd z=>Vd (UU.mp z)) nb
  .rw[aE];constructor
   .intro hc;have:=lm c hc;refine⟨eA c,?_,lT this⟩;rw[<-e,lT this];exact hc
   .rintro⟨a,ha,rfl⟩;exact(e a).mpr ha
 rw[p.length_eq,aA]
theorem KC{ms:Ln}(e:∀c:UInt8,c.toNat∈ms↔c∈bs):(bD 32).map (sT ms)=LY fun(b:UInt8)=>bs.contains b:=by
 unfold LY;refine eJ fun i hi=>?_;unfold sT;congr 1;refine eJ fun k hk=>?_;have h1:=bS.mp hi;have h2:=bS.mp hk;have q:(eA (8*i+k)).toNat=8*i+k:=lT (by show 8*i+k<256;lia);have z:=e (eA (8*i+k));rw[q]at z;by_cases c:8*i+k∈ms
 .rw[if_pos c,if_pos (bP.mpr (z.mp c))]
 .rw[if_neg c,if_neg (fun y=>c (z.mpr (bP.mp y)))]
inductive je(CG:Addr):Sp|mk {vs H Q Z} (F:Hp) (gr:Addr) (s:jD):vs=[.ref gr]->LS s->sJ CG F H gr s->Hu CG F H gr s .next Q->je CG vs H Q Z
abbrev e9:Stmt:=iH (st 80) 9
theorem xc:cB ["self","numbers"] ["self"] (bF e9):=oP
theorem A2(F:lY K "next_bytes" "Grammar.next_bytes" e9 f fd)(C:GC K CG)(Tp:uO mg)(hBB:mW P w K mg aT 6 "bytes_behind" ["rules","table","start","size"] jq)(hRB:mW P w K mg aT 2 "rows_of_bits" ["numbers"] OK)(M9:oG P w K mg aT 8 CG "whole_table" ["self"] (FY CG)):eN P w K mg aT lM 9 f fd ["self"] (je CG):=by
 refine oB F xc fun H Q hr h=>?_
 obtain⟨F0,gr,s,rfl,so,hg,kk⟩:=h
 have oq:=hr.mono (show 6<=8 by decide)
 have Uy:=hr.mono (show 2<=8 by decide)
 have nd:=xc.nd
 refine⟨_,aJ (sv (i:=1) nd (dW hBB oq (aB (cT (pv 0) rfl) (aB (Cr (pv 0) C.cg M9 hr) (aB (cT (pv 0) rfl) (aB (eT eB (by rfl) Tp.len dO (aB (cT (pv 0) rfl) aP)) aP))))))
  (aU (cO (jY Hc (fE (aB (eT eB (by rfl) Tp.len dO (aB (pv 1) aP)) aP)) (dW hRB Uy (aB (pv 1) aP))))),?_⟩
 obtain⟨dx,ru,tx,tb,sh,h⟩:=id hg
 have wk:=so.wk
 refine⟨_,rfl,gr,CG,dx,_,_,rfl,h.ob,C.cg,C.rules,rfl,_,rfl,gr,dx,_,rfl,h.ob,rfl,F0,gr,s,rfl,wk,hg,fun F1 H1 dx1 ru1 tx1 ta sh1 g1 h1 ht=>?_⟩
 refine⟨_,rfl,gr,CG,dx1,_,_,rfl,h1.ob,C.cg,C.start,rfl,_,rfl,gr,CG,dx1,_,_,rfl,h1.ob,C.cg,C.text,rfl,tx1,_,rfl,.inl (cY (aK.le h1.sub _ _ iP h1.AQ)),?_⟩
 refine⟨s.rules,s.text,s.start,ru,ta,by rw[xG],wk.2.2.2,wk.1,wk.2.1,wk.2.2.1,so.1.st,(h.Ux.le (aK.le g1.ff)).le (aK.le h1.sub),ht.le (aK.le h1.sub),fun H2 r2 ms s2 f2 e2 nm lm hm=>?_⟩
 refine⟨_,rfl,r2,_,rfl,.inl (iY.of e2),z1,fun l1 DL=>?_⟩
 have e3:bI H2 l1 (.lst [.int ((kL ms).length:Int)]) r2=some (.lst (kL ms)):=by rw[aH (cK e2 DL)];exact e2
 refine⟨_,rfl,ms,r2,rfl,.inl e3,fun H4 r4 s4 f4 e4=>?_⟩
 have a4:H4 l1=some (.lst [.int ((kL ms).length:Int)]):=s4 _ _ aC
 refine⟨l1,r4,_,_,rfl,rfl,a4,e4,?_,fun r hr=>?_⟩
 .have e5:(kL ((bD 32).map (sT ms))).length=32:=by rw[fO,aA,dU]
  rw[e5];show 1+32<=sizeLine;decide
 .obtain⟨nb,hb⟩:=Tw.Pf so.1.small so.1.tl so.1.st
  have key:∀c:UInt8,c.toNat∈ms↔c∈Tw.wD s.rules s.start s.text:=fun c=>by rw[hm,hb]
  have sa:aK H1 H4:=(s2.trans (aK.upd DL)).trans s4
  have fin:=kk.pO (r:=r) (by rw[Ry]) (g1.then sa) ⟨_,_,_,_,_,h1.same sa⟩ hr (l:=(ms.length:Int)::((bD 32).map (sT ms)).map fun(b:Nat)=>(b:Int)) (by
   rw[Ry,QO nm lm nb key,KC key];rfl) (by rw[cV,aA,aA,dU];decide)
  rw[bL,<-HG,<-fO (l:=ms)]at fin
  exact fin
def Eb(g:Lr)(x:Nat):Option T:=if 256<=x then some [eA (x-256)]else Tw.look (Vx g) x
theorem Zq(h:dZ x=false):bZ s (.short x m)=(s,lO):=by unfold bZ;dsimp only;rw[if_pos h]
theorem Zp{x:Nat}(h:dZ (x:Int)=true):bZ s (.short (x:Int) m)=(s,match Eb s.rules x with|none=>lO|some y=>if kX m<y.length then {value:= -2}else {value:=(y.length:Nat),numbers:=y.map fun(c:UInt8)=>c.toNat}):=by
 unfold bZ Eb Tw.look;dsimp only;rw[if_neg (by rw[h];simp),gE];by_cases q:256<=x
 .rw[if_pos q,if_pos (show(256:Int)<=(x:Int) by lia)]
 .rw[if_neg q,if_neg (show ¬(256:Int)<=(x:Int) by lia)];cases (Vx s.rules).find? fun(y:Nat×T)=>y.1==x<;>rfl
theorem Hh(wf:WF g)(hl:g.length<=8)(lo:qR g L){x:Nat}(hx:x<512):
  (L x=none->Eb g x=none)/\∀n,L x=some n->∃y,Eb g x=some y/\y.length=n/\(x<256->sY g x y)/\(256<=x->y=[eA (x-256)]):=by
 unfold Eb
 by_cases q:256<=x
 .have:=lo.byte x q;rw[if_pos hx]at this;rw[if_pos q,this];refine⟨fun z=>(by cases z),fun n e=>?_⟩;cases e;exact⟨_,rfl,rfl,fun z=>absurd z (by lia),fun _=>rfl⟩
 .rw[if_neg q];have hq:x<256:=by lia
  obtain⟨sp1,sp2⟩:=Tw.Pc wf hl hq;have mi:=lo.Hf hx;constructor
  .intro e;rw[e]at mi;exact sp2.mpr fun z=>by have:=mi.mpr z;cases this
  .intro n e;cases el:Tw.look (Vx g) x with
   |none=>exact absurd (mi.mp (by rw[e];rfl)) (sp2.mp el)
   |some y=>have is:=(sp1 y).mp el;refine⟨y,rfl,?_,fun _=>is,fun z=>absurd z q⟩;obtain⟨w,rs,d,ew⟩:=lo.sound x n e;have h1:=(is.2 w rs d).len;obtain⟨Ig,d'⟩:=is.1;obtain⟨m,em,hm⟩:=lo.least d' (by intro s hs;rw[aO.mp hs];exact hx);have:=Tw.mN.mp em;rw[e]at this;cases this;lia
theorem RG(wf:WF g)(hl:g.length<=8){L':Nat->Option Nat}(lo:qR g L)(m5:qR g L'){x:Nat}(hx:x<512)(e:L' x=some n):L x=some n:=by
 obtain⟨a1,a2⟩:=Hh wf hl lo hx;obtain⟨y,ey,ly,_⟩:=(Hh wf hl m5 hx).2 n e;cases el:L x with
 |none=>rw[a1 el]at ey;cases ey
 |some m=>obtain⟨y',V4,ly',_⟩:=a2 m el;rw[ey]at V4;cases V4;rw[<-ly,<-ly']
theorem XR(hσ:σ[2]? =some (some (.int m)))(h:Q (.int (kX m:Int)) H):tIf (NW (BV (GJ fun i j=>.bl (decide (i<=j))) (GJ fun i j=>.bl (decide (i<=j))) (tC (.int 1)) (fC 2) (tC (.int 65536)))) (fC 2) (tC (.int 0)) σ H Q:=by
 refine⟨_,hσ,_,_,rfl,rfl,_,rfl,?_⟩;unfold kX at h;by_cases q1:1<=m
 .refine gB (bB q1) ⟨_,_,rfl,rfl,_,rfl,?_⟩;by_cases q2:m<=65536
  .rw[if_pos ⟨q1,q2⟩,fI (by lia)]at h;exact gB (bB q2) ⟨_,hσ,h⟩
  .rw[if_neg (fun z=>q2 z.2)]at h;exact eE (bH q2) h
 .rw[if_neg (fun z=>q1 z.1)]at h;exact eE (bH q1) ⟨false,rfl,qF h⟩
inductive iw(CG:Addr):Sp|mk {vs H Q Z} (F:Hp) (gr:Addr) (s:jD) (x m:Int):vs=[.ref gr,.int x,.int m]->LS s->sJ CG F H gr s->Hu CG F H gr s (.short x m) Q->iw CG vs H Q Z
abbrev c8:Stmt:=iH (st 80) 10
theorem wu:cB ["self","symbol","most","lengths"] ["self","symbol","most"] (bF c8):=oP
theorem WT(t:T):Ib t=((t.map fun(c:UInt8)=>c.toNat).map fun(b:Nat)=>(b:Int)).map V.int:=by unfold Ib;rw[dG,dG];rfl
theorem zr(F:lY K "short_text" "Grammar.short_text" c8 f fd)(C:GC K CG)(Tp:uO mg)(N4:mW P w K mg aT 3 "shortest_lengths" ["rules"] OH)(hST:mW P w K mg aT 4 "shortest_texts" ["rules","lengths","most"] iy):eN P w K mg aT lM 5 f fd ["self","symbol","most"] (iw CG):=by
 refine oB F wu fun H Q hr h=>?_
 obtain⟨F0,gr,s,x,m,rfl,so,hg,kk⟩:=h
 have Pk:=hr.mono (show 3<=4 by decide)
 have hu:=jV hr
 have nd:=wu.nd
 refine⟨_,aJ (sv (i:=3) nd (dW N4 Pk (aB (cT (pv 0) rfl) aP)))
  (aJ (gN (sG (pV hu (pv 1) (pv 3)) (by with_unfolding_all rfl)) (aU (cO (fE (aB (fB Tp.Rb) aP)))) dX)
  (aJ (gN (eM Ya (nM hu (pv 3) (pv 1) (fun _ _=>rfl)) (Lz (El tU tU cH (pv 2) (fB Tp.Mg)) (pv 2) cH) (by with_unfolding_all rfl)) (aU (cO (fE (aB (fB Tp.Ui) aP)))) dX)
  (aJ (gN (eM QF (cT (pv 0) rfl) Tz (fU _)) (aU (iV (pv 0) (dW hST hr (aB (cT (pv 0) rfl) (aB (pv 3) (aB (fB Tp.Mg) aP)))) rfl)) dX)
  (aU (cO (jY Hc (fE (aB (nM hu (pv 3) (pv 1) (fun _ _=>rfl)) aP)) (nM hu (cT (pv 0) rfl) (pv 1) (fun _ _=>rfl)))))))),?_⟩
 obtain⟨dx,ru,tx,tb,sh,h⟩:=id hg
 have wk:=so.wk
 have g8:=so.1.small.gl
 have wf:=wk.1
 have YZ:∀r∈s.rules,r.right.length<=1000:=fun r hr=>by have:=wk.2.2.1 r hr;lia
 refine⟨_,rfl,gr,CG,dx,_,_,rfl,h.ob,C.cg,C.rules,rfl,s.rules,ru,rfl,wf,YZ,h.Ux.le (aK.le h.sub),fun H1 d L kvs s1 fd ed sy ld lo=>?_⟩
 have h1:=h.same s1
 have gg:=fun k=>kS (.inl ed:Rd H1 d (.dK kvs)) k
 have ndg:d≠gr:=fun z=>by rw[z,h.ob]at fd;cases fd
 refine⟨_,rfl,_,rfl,d,_,rfl,gg (aV x),_,rfl,?_⟩
 have none_:bZ s (.short x m)=(s,lO)->Jm (Ky (gS (tC (.int (-1))) oW)) ⟨fun x H'=>Q V.iU H',Q,fun _ _=>False,fun _ _=>False⟩ [some (.ref gr),some (.int x),some (.int m),some (.ref d)] H1:=fun e=>by refine⟨z1,fun r hr=>?_⟩;exact kk.pO (by rw[e]) (Di.of s1 h.fg) ⟨_,_,_,_,_,h1⟩ hr (l:=[-1]) (by rw[e];rfl) (by decide)
 by_cases q1:dZ x=true
 rotate_left
 .refine gB ?_ (none_ (Zq (nR q1)));cases ev:eO kvs (aV x)with
  |none=>rfl
  |some v=>obtain⟨y,hy,e⟩:=sy.W2 _ (WR ev);have e:=kJ e;rw[lH,e]at q1;exact absurd (bB (by lia)) q1
 have q2:=q1
 rw[lH]at q2
 obtain⟨x0,x1⟩:=aR q2
 obtain⟨x,rfl⟩:∃n:Nat,x=(n:Int):=⟨x.toNat,(fI x0).symm⟩
 have hx:x<512:=by lia
 have dz:=Zp (s:=s) (m:=m) q1
 obtain⟨ls1,pX⟩:=Hh wf g8 lo hx
 have lx:=ld x
 cases el:L x with
 |none=>rw[el]at lx;refine gB (by rw[lx];rfl) (none_ ?_);rw[dz,ls1 el]
 |some n=>
  rw[el]at lx;refine eE (by rw[lx];rfl) ?_;obtain⟨y,ey,ly,ly1,ly2⟩:=pX n el;rw[ey]at dz;dsimp only at dz;have gx:=gg (aV (x:Int));rw[lx]at gx;refine⟨_,rfl,_,rfl,d,_,rfl,gx,XR rfl ⟨_,_,rfl,rfl,_,rfl,?_⟩⟩;by_cases q3:kX m<y.length
  .refine gB (bB (by lia)) ⟨z1,fun r hr=>?_⟩;rw[if_pos q3]at dz;exact kk.pO (by rw[dz]) (Di.of s1 h.fg) ⟨_,_,_,_,_,h1⟩ hr (l:=[-2]) (by rw[dz];rfl) (by decide)
  refine eE (bH (by lia)) ?_;rw[if_neg q3]at dz;have rm:kX m<=65536:=by unfold kX;split<;>lia
  have fin:∀F3 H3 TV tm gm tb3 a3,Di F0 H F3 H3 gr->GH CG F3 H3 gr TV tm gm tb3 (.ref a3) s->LR F3 a3 s.rules->H3 d=some (.dK kvs)->(Jm (NX yz (Ky (gS (Xa (fC 3) (fC 1)) oW)) (Xa (gq K (fC 0) "shortest") (fC 1)))) ⟨fun x H'=>Q V.iU H',Q,fun _ _=>False,fun _ _=>False⟩ [some (.ref gr),some (.int (x:Int)),some (.int m),some (.ref d)] H3:=by
   intro F3 H3 TV tm gm tb3 a3 g3 h3 sk ed3;obtain⟨kv3,r3,acJ⟩:=sk;obtain⟨b,y',v1,v2,v3,v4,v5⟩:=acJ x n L lo hx el (by lia)
   have V4:y'=y:=by
    by_cases z:x<256
    .exact(v4 z).uniq (ly1 z)
    .rw[v5 (by lia),ly2 (by lia)]
   subst V4;have g1:=kS (.inl ed3:Rd H3 d (.dK kvs)) (aV (x:Int));rw[lx]at g1;refine⟨_,rfl,_,rfl,d,_,rfl,g1,z1,fun l1 DL=>?_⟩;have s4:aK H3 (bI H3 l1 (.lst [V.int (n:Int)])):=aK.upd DL;have a4:bI H3 l1 (.lst [V.int (n:Int)]) l1=some (.lst [V.int (n:Int)]):=aC;have h4:=h3.same s4;generalize bI H3 l1 (.lst [V.int (n:Int)])=H4 at*;have g2:=kS (aK.le h4.sub _ _ qV r3) (aV (x:Int));rw[v1]at g2;refine⟨_,rfl,gr,CG,TV,_,_,rfl,h4.ob,C.cg,C.shortest,rfl,_,rfl,a3,_,rfl,g2,?_⟩;refine⟨l1,b,_,_,rfl,rfl,a4,h4.sub _ _ v2,?_,fun r hr=>?_⟩
   .rw[xG];exact bK (show 1+y'.length<=65537 by lia) (by decide)
   .have key:=kk.pO (r:=r) (by rw[dz]) (g3.then s4) ⟨_,_,_,_,_,h4⟩ hr (l:=(y'.length:Int)::(y'.map fun(c:UInt8)=>c.toNat).map fun(b:Nat)=>(b:Int)) (by rw[dz];rfl) (by rw[cV,aA,aA];lia);rw[bL,<-WT,v3]at key;exact key
  refine⟨_,rfl,gr,CG,dx,_,_,rfl,h1.ob,C.cg,C.shortest,rfl,rfl,_,rfl,?_⟩;rcases h1.um with e|⟨a,e,hsa⟩
  .subst e;refine gB (bB rfl) ?_;refine⟨_,rfl,gr,CG,dx,_,_,rfl,h1.ob,C.cg,C.rules,rfl,_,rfl,s.rules,L,kvs,ru,d,65536,rfl,aY _,wf,YZ,by lia,h1.Ux.le (aK.le h1.sub),.inl ed,ld,lo,fun H2 r X kv2 s2 fr er tx2 ts cl=>?_⟩;have h2:=h1.same s2;refine⟨_,rfl,gr,CG,dx,_,rfl,h2.ob,C.cg,C.shortest,(by show 5<1000;decide),?_⟩;rw[Pd];have nr:r≠gr:=fun z=>by rw[z,h1.ob]at fr;cases fr
   have sx:SX [gr] H (bI H2 gr (.ins CG dx (Dc (.int s.start) (.ref ru) (.ref r) (.ref tx) tb))):=(SX.of (s1.trans s2)).trans (SX.upd (by simp));have tF:SX [gr] H2 (bI H2 gr (.ins CG dx (Dc (.int s.start) (.ref ru) (.ref r) (.ref tx) tb))):=SX.upd (by simp);have ob3:bI H2 gr (.ins CG dx (Dc (.int s.start) (.ref ru) (.ref r) (.ref tx) tb)) gr=some (.ins CG dx (Dc (.int s.start) (.ref ru) (.ref r) (.ref tx) tb)):=aC;generalize bI H2 gr (.ins CG dx (Dc (.int s.start) (.ref ru) (.ref r) (.ref tx) tb))=H3 at*;have er3:=tF _ _ er (by simp[nr]);have g:=Fp h.sub sx h.fg
   have sk:LR (ext F0 H H3 gr) r s.rules:=by
    refine⟨kv2,HY h.sub sx ob3 (.inl er3),fun z k L' m5 hz ez hk=>?_⟩;have ez':=RG wf g8 lo m5 hz ez
    have key:∀y,X z=some y->∃b,eO kv2 (aV (z:Int))=some (.ref b)/\ext F0 H H3 gr b=some (.lst (Ib y)):=by
     intro y hy;rcases tx2 z with ⟨q,_⟩|⟨w,b,q1,q2,q3,q4⟩
     .rw[hy]at q;cases q
     .rw[hy]at q1;cases q1;have nb:b≠gr:=fun e=>by rw[e,h1.ob]at q4;cases q4
      exact⟨b,q2,by rw[Bg h.sub (aK.free s1 q4) nb];exact tF _ _ q3 (by simp[nb])⟩
    by_cases T3:z<256
    .obtain⟨y,y1,y2,y3⟩:=ts.short wf lo cl T3 ez' hk;obtain⟨b,b1,b2⟩:=key y y1;exact⟨b,y,b1,b2,y3,fun _=>y2,fun q=>absurd q (by lia)⟩
    .have y1:=ts.byte z (by lia);rw[if_pos hz]at y1;obtain⟨b,b1,b2⟩:=key _ y1;have:=lo.byte z (by lia);rw[if_pos hz,ez']at this;cases this;exact⟨b,_,b1,b2,rfl,fun q=>absurd q T3,fun _=>rfl⟩
   refine fin _ H3 dx ru tx tb r g ⟨Ke h.sub sx h.fg,g.fg,ob3,h.Ux.le (aK.le g.ff),?_,aK.le g.ff _ _ iP h.AQ,h.og.imp id fun⟨a,e,z⟩=>⟨a,e,z.le (aK.le g.ff)⟩,.inr ⟨r,rfl,sk⟩⟩ sk (tF _ _ (s2 _ _ ed) (by simp[ndg]));obtain⟨xs,z⟩:=h.ka;exact⟨xs,g.ff _ _ z⟩
  .subst e;refine eE (bH (fun z=>nomatch z)) ?_;exact fin F0 H1 dx ru tx tb a (Di.of s1 h.fg) h1 hsa ed
theorem Sa(l:List Int)(j:Nat):Ad (l.map V.int) (some (j:Int)) none=(l.drop j).map V.int:=by
 unfold Ad;rw[HT.Ef,HT.Aw,aA,Vz];by_cases h:j<=l.length
 .rw[lR h,eU (by rw[jK,aA];lia)]
 .rw[Kn (by lia),gP (i:=l.length) (by rw[aA];lia),gP (by rw[aA];lia)];simp
theorem UD(a b c:List Int):Ad ((a++b++c).map V.int) (some (a.length:Int)) (some ((a.length+b.length:Nat):Int))=b.map V.int:=by unfold Ad;rw[HT.Aw,HT.Aw,aA,bA,bA,lR (by lia),lR (by lia),Nat.add_sub_cancel_left,<-Vz,eV,List.drop_left,aQ,List.take_left' (aA _)]
def Jw:List (Int×Int):=[(0,0),(1,1),(2,1),(3,3),(4,2),(5,0),(6,2),(7,1)]
theorem Zn(c:kT):∃t v rest,pJ c=t::rest/\(t,v)∈Jw/\(((t=1∨t=2)/\v=1/\∃l r,rest=l::(jU r:Int)::r)∨(¬(t=1∨t=2)/\v=(rest.length:Int))):=by
 cases c with
 |init=>exact⟨0,0,[],rfl,by decide,.inr ⟨by decide,rfl⟩⟩
 |rule l r n=>exact⟨1,1,_,rfl,by decide,.inl ⟨by decide,rfl,l,r,rfl⟩⟩
 |text st b n=>exact⟨2,1,_,rfl,by decide,.inl ⟨by decide,rfl,st,b.map fun c=>(c.toNat:Int),by rw[aA]⟩⟩
 |count s i j=>exact⟨3,3,_,rfl,by decide,.inr ⟨by decide,rfl⟩⟩
 |tree k m=>exact⟨4,2,_,rfl,by decide,.inr ⟨by decide,rfl⟩⟩
 |next=>exact⟨5,0,_,rfl,by decide,.inr ⟨by decide,rfl⟩⟩
 |short s m=>exact⟨6,2,_,rfl,by decide,.inr ⟨by decide,rfl⟩⟩
 |kind s=>exact⟨7,1,_,rfl,by decide,.inr ⟨by decide,rfl⟩⟩
theorem IJ(a:List Int)(x:Int)(b:List Int){i:Int}(e:i=(a.length:Int)):ay ((a++x::b).map V.int) i=some (.int x):=by subst e;refine fY (j:=a.length) ?_;rw[bT,fJ (aY _),zJ];rfl
theorem Ci{a b:Int}(h:a≠b):decide (V.int a=V.int b)=false:=bH fun z=>h (by injection z)
theorem WQ{a b:Int}(h:a=b):decide (V.int a=V.int b)=true:=bB (by rw[h])
inductive jj(K:aX):Sp|mk {vs H Q Z} (a:Addr) (pre post:List Int) (c:kT):vs=[.ref a,.int (pre.length:Int)]->iY K H a ((pre++pJ c++post).map V.int)->Q (.int ((pre.length+(pJ c).length:Nat):Int)) H->jj K vs H Q Z
theorem xg:cB ["calls","at","number","end"] ["calls","at"] (bF (st 81)):=oP
theorem B6{pd:Addr}(F:lY K "end_of_call" "end_of_call" (st 81) f fd)(Tp:uO mg)(hm:mg "PLAIN_NUMBERS"=some (.ref pd))(hd:Sk K pd Jw):eN P w K mg aT lM 1 f fd ["calls","at"] (jj K):=by
 refine oB F xg fun H Q hr h=>?_
 obtain⟨a,pre,post,c,rfl,ha,kk⟩:=h
 have nd:=xg.nd
 refine⟨_,aJ (sv (i:=2) nd (jM gU (pv 0) (pv 1) (fun _ _=>rfl)))
  (aJ (sv (i:=3) nd (jY nY (jY nY (pv 1) cH) (YC hm hd (pv 2) (fun _ _=>rfl))))
  (aJ (gN (zT (eM pF (pv 2) (fB Tp.fb) (fU _)) (vI (eM pF (pv 2) (fB Tp.cText) (fU _)))).pt
   (aU (av (i:=3) nd (jY nY cH (jM gU (pv 0) (pv 3) (fun _ _=>rfl))) Cy)) dX)
  (aU (cO (pv 3))))),?_⟩
 obtain⟨t,v,rest,e,hv,hc⟩:=Zn c
 rw[e]at ha kk
 rw[show pre++t::rest++post=pre++t::(rest++post) by simp]at ha
 refine⟨_,rfl,_,rfl,a,_,(pre.length:Int),.int t,rfl,rfl,ha,IJ _ _ _ rfl,?_⟩
 refine⟨_,rfl,_,_,rfl,rfl,_,rfl,t,v,rfl,hv,_,_,rfl,rfl,?_⟩
 refine⟨_,rfl,rfl,_,rfl,?_⟩
 rcases hc with ⟨ht,rfl,l,r,rfl⟩|⟨ht,rfl⟩
 .have fin:JK 3 (NX (GJ fun i j=>.int (i+j)) (tC (.int 1)) (NX (PQ K) (fC 0) (fC 3))) (ue fun i j=>i+j) ⟨fun σ' H'=>Jm (fC 3) ⟨fun x H'=>Q V.iU H',Q,fun _ _=>False,fun _ _=>False⟩ σ' H',Q,fun _ _=>False,fun _ _=>False⟩ [some (.ref a),some (.int (pre.length:Int)),some (.int t),some (.int ((pre.length:Int)+1+1))] H:=by
   refine⟨_,rfl,_,rfl,_,rfl,a,_,(pre.length:Int)+1+1,.int (r.length:Int),rfl,rfl,ha,?_,_,_,rfl,rfl,_,_,rfl,rfl,_,rfl,?_⟩
   .have:=IJ (pre++[t,l]) (r.length:Int) (r++post) (i:=(pre.length:Int)+1+1) (by simp;lia);rw[show pre++[t,l]++(r.length:Int)::(r++post)=pre++t::(l::(r.length:Int)::r++post) by simp]at this;exact this
   .have e2:((pre.length+(t::l::(r.length:Int)::r).length:Nat):Int)=(pre.length:Int)+1+1+(1+(r.length:Int)):=(by simp only[cV];lia);rw[e2]at kk;exact kk
  by_cases t1:t=1
  .exact gB (WQ t1) (oZ fin)
  .refine eE (Ci t1) ⟨_,rfl,rfl,_,rfl,gB (WQ (ht.resolve_left t1)) fin⟩
 .refine eE (Ci fun z=>ht (.inl z)) ⟨_,rfl,rfl,_,rfl,eE (Ci fun z=>ht (.inr z)) ⟨_,rfl,?_⟩⟩;have e2:((pre.length+(t::rest).length:Nat):Int)=(pre.length:Int)+1+(rest.length:Int):=by simp only[cV];lia
  rw[e2]at kk;exact kk
theorem ZO{F:Hp}(sF:aK F H)(fg:F gr=none)(hq:H q=none)(n:q≠gr):Di F H (bI F q o) (bI H q o) gr:=by
 have fq:=aK.free sF hq;refine⟨aK.upd fq,fun a u h nd f=>?_,SX.of (aK.upd hq),?_⟩
 .rw[aH (cK h hq)];exact f
 .rw[aH (Ne.symm n)];exact fg
theorem sJ.new{F:Hp}(h:sJ CG F H gr s)(hq:H q=none):Di F H (bI F q o) (bI H q o) gr/\sJ CG (bI F q o) (bI H q o) gr s:=by
 obtain⟨dx,ru,tx,tb,sh,h⟩:=h;have n:q≠gr:=fun z=>by rw[z,h.ob]at hq;cases hq
 have g:=ZO (o:=o) h.sub h.fg hq n;refine⟨g,dx,ru,tx,tb,sh,h.grow g ?_ (by rw[aH (Ne.symm n)];exact h.ob)⟩;intro a u z;by_cases e:a=q
 .rw[e,aC]at z ⊢;exact z
 .rw[aH e]at z ⊢;exact h.sub _ _ z
theorem Hu.from{F F1:Hp}{c:kT}(h:Hu CG F H gr s c Q)(g:Di F H F1 H1 gr)(ob:∃o,H1 gr=some o):Hu CG F1 H1 gr s c Q:=by intro F' H' r g2 a hr hl hz;obtain⟨o,ob⟩:=ob;refine h F' H' r (g.trans g2) a (SX.Zf g.sx ob hr) hl hz
inductive jr(CG:Addr):Sp|mk {vs H Q Z} (F:Hp) (gr q:Addr) (s:jD) (c:kT):vs=[.ref gr,.ref q]->LS s->fi c->sJ CG F H gr s->H q=some (.lst ((pJ c).map V.int))->Hu CG F H gr s c Q->jr CG vs H Q Z
theorem xj:cB ["grammar","call","number"] ["grammar","call"] (bF (st 82)):=oP
theorem C9(F:lY K "answer" "answer" (st 82) f fd)(C:GC K CG)(Tp:uO mg)(hBe:oG P w K mg aT 3 CG "begin" ["self"] (XJ CG))(O0:oG P w K mg aT 3 CG "add_rule" ["self","left","right"] (OQ CG))(hSx:oG P w K mg aT 10 CG "set_text" ["self","start","text"] (OF CG))(hCo:oG P w K mg aT 10 CG "count_trees" ["self","symbol","i","j"] (jk CG))
  (hPT:oG P w K mg aT 11 CG "pick_tree" ["self","k","most"] (jc CG)) (hNB:oG P w K mg aT 9 CG "next_bytes" ["self"] (je CG)) (hSh:oG P w K mg aT 5 CG "short_text" ["self","symbol","most"] (iw CG)) (hTK:oG P w K mg aT 6 CG "tell_kind" ["self","symbol"] (iu CG)):eN P w K mg aT lM 12 f fd ["grammar","call"] (jr CG):=by
 refine oB F xj fun H Q hr h=>?_
 obtain⟨F0,gr,q,s,c,rfl,so,ok,hg,hq,kk⟩:=h
 have nd:=xj.nd
 have Pk:=hr.mono (show 3<=11 by decide)
 have y4:=hr.mono (show 5<=11 by decide)
 have oq:=hr.mono (show 6<=11 by decide)
 have x9:=hr.mono (show 9<=11 by decide)
 have J8:=hr.mono (show 10<=11 by decide)
 refine⟨_,aJ (sv (i:=2) nd (jM gU (pv 1) cH (fun _ _=>rfl)))
  (aJ (gN (eM pF (pv 2) (fB Tp.rf) (fU _)) (aU (cO (Cr (pv 0) C.cg hBe Pk))) dX)
  (aJ (gN (eM pF (pv 2) (fB Tp.fb) (fU _)) (aU (cO (nL (pv 0) C.cg O0 Pk (aB (jM gU (pv 1) cH (fun _ _=>rfl)) (aB (tT xI (pv 1) (uX cH) Az) aP))))) dX)
  (aJ (gN (eM pF (pv 2) (fB Tp.cText) (fU _)) (aU (cO (nL (pv 0) C.cg hSx J8 (aB (jM gU (pv 1) cH (fun _ _=>rfl)) (aB (tT xI (pv 1) (uX cH) Az) aP))))) dX)
  (aJ (gN (eM pF (pv 2) (fB Tp.rb) (fU _)) (aU (cO (nL (pv 0) C.cg hCo J8 (aB (jM gU (pv 1) cH (fun _ _=>rfl)) (aB (jM gU (pv 1) cH (fun _ _=>rfl)) (aB (jM gU (pv 1) cH (fun _ _=>rfl)) aP)))))) dX)
  (aJ (gN (eM pF (pv 2) (fB Tp.Q0) (fU _)) (aU (cO (nL (pv 0) C.cg hPT hr (aB (jM gU (pv 1) cH (fun _ _=>rfl)) (aB (jM gU (pv 1) cH (fun _ _=>rfl)) aP))))) dX)
  (aJ (gN (eM pF (pv 2) (fB Tp.Q1) (fU _)) (aU (cO (Cr (pv 0) C.cg hNB x9))) dX)
  (aJ (gN (eM pF (pv 2) (fB Tp.qz) (fU _)) (aU (cO (nL (pv 0) C.cg hSh y4 (aB (jM gU (pv 1) cH (fun _ _=>rfl)) (aB (jM gU (pv 1) cH (fun _ _=>rfl)) aP))))) dX)
  (aU (cO (nL (pv 0) C.cg hTK oq (aB (jM gU (pv 1) cH (fun _ _=>rfl)) aP))))))))))),?_⟩
 obtain⟨dx,ru,tx,tb,sh,h⟩:=id hg
 cases c with
 |init=>refine⟨_,rfl,q,_,0,.int 0,rfl,rfl,iY.of hq,by exact fY (j:=0) rfl,?_⟩;refine⟨_,rfl,rfl,_,rfl,gB (WQ rfl) ?_⟩;refine⟨_,rfl,gr,dx,_,rfl,h.ob,rfl,gr,dx,_,rfl,h.ob,(by show 5<=700;decide),rfl,rfl,fun H' MD tx2 r sx f1 f2 f3 e1 e2 e3 e4=>?_⟩;rw[PU]at e4;have gh:=SS (CG:=CG) h.sub h.fg sx f1 f2 e1 e2 e4;exact kk _ H' r (Fp h.sub sx h.fg) ⟨_,_,_,_,_,gh⟩ f3 e3 (by show 1<=70000;decide)
 |rule l r n=>obtain⟨rfl,YZ,_⟩:=ok;refine⟨_,rfl,q,_,0,.int 1,rfl,rfl,iY.of hq,by exact fY (j:=0) rfl,?_⟩;refine⟨_,rfl,rfl,_,rfl,eE (Ci (by decide)) ?_⟩;refine⟨_,rfl,rfl,_,rfl,gB (WQ rfl) ?_⟩;refine⟨_,rfl,gr,dx,_,rfl,h.ob,rfl,_,rfl,q,_,1,.int l,rfl,rfl,iY.of hq,by exact fY (j:=1) rfl,?_⟩;refine⟨_,rfl,3,rfl,q,_,rfl,iY.of hq,fun q2 yR=>?_⟩;have ec:Ad ((pJ (.rule l r (r.length:Int))).map V.int) (some 3) none=r.map V.int:=Sa _ 3;rw[ec];obtain⟨g1,a1⟩:=hg.new (o:=.lst (r.map V.int)) yR;obtain⟨_,_,_,_,_,z⟩:=id a1;exact⟨_,gr,q2,s,l,r,rfl,so,YZ,a1,.inl aC,kk.from g1 ⟨_,z.ob⟩⟩
 |text l b n=>
  obtain⟨rfl,ZK,_⟩:=ok;refine⟨_,rfl,q,_,0,.int 2,rfl,rfl,iY.of hq,by exact fY (j:=0) rfl,?_⟩;refine⟨_,rfl,rfl,_,rfl,eE (Ci (by decide)) ?_⟩;refine⟨_,rfl,rfl,_,rfl,eE (Ci (by decide)) ?_⟩;refine⟨_,rfl,rfl,_,rfl,gB (WQ rfl) ?_⟩;refine⟨_,rfl,gr,dx,_,rfl,h.ob,rfl,_,rfl,q,_,1,.int l,rfl,rfl,iY.of hq,by exact fY (j:=1) rfl,?_⟩;refine⟨_,rfl,3,rfl,q,_,rfl,iY.of hq,fun q2 yR=>?_⟩;have ec:Ad ((pJ (.text l b (b.length:Int))).map V.int) (some 3) none=Ib b:=by have:=Sa (pJ (.text l b (b.length:Int))) 3;unfold Ib;rw[show((3:Nat):Int)=(3:Int) from rfl]at this;rw[this];show(b.map fun c=>(c.toNat:Int)).map V.int=_;rw[dG];rfl
  rw[ec];obtain⟨g1,a1⟩:=hg.new (o:=.lst (Ib b)) yR;obtain⟨_,_,_,_,_,z⟩:=id a1;exact⟨_,gr,q2,s,l,b,rfl,so,ZK,a1,.inl aC,kk.from g1 ⟨_,z.ob⟩⟩
 |count x i j=>refine⟨_,rfl,q,_,0,.int 3,rfl,rfl,iY.of hq,by exact fY (j:=0) rfl,?_⟩;refine⟨_,rfl,rfl,_,rfl,eE (Ci (by decide)) ?_⟩;refine⟨_,rfl,rfl,_,rfl,eE (Ci (by decide)) ?_⟩;refine⟨_,rfl,rfl,_,rfl,eE (Ci (by decide)) ?_⟩;refine⟨_,rfl,rfl,_,rfl,gB (WQ rfl) ?_⟩;exact⟨_,rfl,gr,dx,_,rfl,h.ob,rfl,_,rfl,q,_,1,.int x,rfl,rfl,iY.of hq,by exact fY (j:=1) rfl,_,rfl,q,_,2,.int i,rfl,rfl,iY.of hq,by exact fY (j:=2) rfl,_,rfl,q,_,3,.int j,rfl,rfl,iY.of hq,by exact fY (j:=3) rfl,F0,gr,s,x,i,j,rfl,so,hg,kk⟩
 |tree k m=>refine⟨_,rfl,q,_,0,.int 4,rfl,rfl,iY.of hq,by exact fY (j:=0) rfl,?_⟩;refine⟨_,rfl,rfl,_,rfl,eE (Ci (by decide)) ?_⟩;refine⟨_,rfl,rfl,_,rfl,eE (Ci (by decide)) ?_⟩;refine⟨_,rfl,rfl,_,rfl,eE (Ci (by decide)) ?_⟩;refine⟨_,rfl,rfl,_,rfl,eE (Ci (by decide)) ?_⟩;refine⟨_,rfl,rfl,_,rfl,gB (WQ rfl) ?_⟩;exact⟨_,rfl,gr,dx,_,rfl,h.ob,rfl,_,rfl,q,_,1,.int k,rfl,rfl,iY.of hq,by exact fY (j:=1) rfl,_,rfl,q,_,2,.int m,rfl,rfl,iY.of hq,by exact fY (j:=2) rfl,F0,gr,s,k,m,rfl,so,ok.1,hg,kk⟩
 |next=>refine⟨_,rfl,q,_,0,.int 5,rfl,rfl,iY.of hq,by exact fY (j:=0) rfl,?_⟩;refine⟨_,rfl,rfl,_,rfl,eE (Ci (by decide)) ?_⟩;refine⟨_,rfl,rfl,_,rfl,eE (Ci (by decide)) ?_⟩;refine⟨_,rfl,rfl,_,rfl,eE (Ci (by decide)) ?_⟩;refine⟨_,rfl,rfl,_,rfl,eE (Ci (by decide)) ?_⟩;refine⟨_,rfl,rfl,_,rfl,eE (Ci (by decide)) ?_⟩;refine⟨_,rfl,rfl,_,rfl,gB (WQ rfl) ?_⟩;exact⟨_,rfl,gr,dx,_,rfl,h.ob,rfl,F0,gr,s,rfl,so,hg,kk⟩
 |short x m=>refine⟨_,rfl,q,_,0,.int 6,rfl,rfl,iY.of hq,by exact fY (j:=0) rfl,?_⟩;refine⟨_,rfl,rfl,_,rfl,eE (Ci (by decide)) ?_⟩;refine⟨_,rfl,rfl,_,rfl,eE (Ci (by decide)) ?_⟩;refine⟨_,rfl,rfl,_,rfl,eE (Ci (by decide)) ?_⟩;refine⟨_,rfl,rfl,_,rfl,eE (Ci (by decide)) ?_⟩;refine⟨_,rfl,rfl,_,rfl,eE (Ci (by decide)) ?_⟩;refine⟨_,rfl,rfl,_,rfl,eE (Ci (by decide)) ?_⟩;refine⟨_,rfl,rfl,_,rfl,gB (WQ rfl) ?_⟩;exact⟨_,rfl,gr,dx,_,rfl,h.ob,rfl,_,rfl,q,_,1,.int x,rfl,rfl,iY.of hq,by exact fY (j:=1) rfl,_,rfl,q,_,2,.int m,rfl,rfl,iY.of hq,by exact fY (j:=2) rfl,F0,gr,s,x,m,rfl,so,hg,kk⟩
 |kind x=>refine⟨_,rfl,q,_,0,.int 7,rfl,rfl,iY.of hq,by exact fY (j:=0) rfl,?_⟩;refine⟨_,rfl,rfl,_,rfl,eE (Ci (by decide)) ?_⟩;refine⟨_,rfl,rfl,_,rfl,eE (Ci (by decide)) ?_⟩;refine⟨_,rfl,rfl,_,rfl,eE (Ci (by decide)) ?_⟩;refine⟨_,rfl,rfl,_,rfl,eE (Ci (by decide)) ?_⟩;refine⟨_,rfl,rfl,_,rfl,eE (Ci (by decide)) ?_⟩;refine⟨_,rfl,rfl,_,rfl,eE (Ci (by decide)) ?_⟩;refine⟨_,rfl,rfl,_,rfl,eE (Ci (by decide)) ?_⟩;exact⟨_,rfl,gr,dx,_,rfl,h.ob,rfl,_,rfl,q,_,1,.int x,rfl,rfl,iY.of hq,by exact fY (j:=1) rfl,F0,gr,s,x,rfl,so,hg,kk⟩
theorem OV{c:kT}(h:LS s)(hn:s.rules.length+n+(if tX c=true then 1 else 0)<=8)(hc:fi c):LS (bZ s c).1/\(bZ s c).1.rules.length+n<=8:=by
 obtain⟨a,b⟩:=Tw.ag h.1 hn hc;refine⟨⟨a,?_⟩,b⟩;cases c with
 |init=>exact fun r hr=>by cases hr
 |rule l r k=>
  unfold bZ;dsimp only;split
  .exact h.2
  .split
   .exact h.2
   .intro x hx;rcases aN.mp hx with hx|hx
    .exact h.2 x hx
    .rw[aO.mp hx];show(r.map Dn).length<=16;rw[aA];exact hc.2.1
 |text st b k=>
  unfold bZ;dsimp only;split
  .exact h.2
  .exact h.2
 |count x i j=>exact h.2
 |tree k m=>exact h.2
 |next=>exact h.2
 |short x m=>exact h.2
 |kind x=>exact h.2
def after(s:jD)(cs:List kT):jD:=cs.foldl (fun s c=>(bZ s c).1) s
theorem Xl(s:jD):∀(cs:List kT) (c:kT),Tw.run s (cs++[c])=Tw.run s cs++[Js (bZ (after s cs) c).2]
 |[],c=>rfl
 |d::cs,c=>by have:=Xl (bZ s d).1 cs c;show Js (bZ s d).2::Tw.run (bZ s d).1 (cs++[c])=Js (bZ s d).2::(Tw.run (bZ s d).1 cs++_);rw[this];rfl
def tJ(cs:List kT):List Int:=(Tw.run {} cs).flatMap fun a=>(a.length:Int)::a
theorem Wz(cs:List kT)(c:kT):tJ (cs++[c])=tJ cs++[((Js (bZ (after {} cs) c).2).length:Int)]++Js (bZ (after {} cs) c).2:=by unfold tJ;rw[Xl,tN];simp
inductive GI(K:aX):Sp|mk {vs H Q Z} (a:Addr) (cs:List kT):vs=[.ref a]->iY K H a ((cs.flatMap pJ).map V.int)->(∀c∈cs,fi c)->cs.length<=60->(cs.filter tX).length<=8->(∀H' p,H' p=some (.lst ((tJ cs).map V.int))->Q (.ref p) H')->GI K vs H Q Z
theorem cj:cB ["calls","grammar","told","at","end","numbers"] ["calls"] (bF (st 83)):=oP
theorem TQ(c:kT):0<(pJ c).length:=by obtain⟨t,v,rest,e,_⟩:=Zn c;rw[e];simp
theorem Zk{α:Type}{l:List α}{x:α}(h:l[i]? =some x)(p:α->Bool):((l.drop i).filter p).length=((l.drop (i+1)).filter p).length+(if p x=true then 1 else 0):=by obtain⟨hi,e⟩:=aL.mp h;rw[cZ hi,e,fV];split<;>simp
theorem sJ.out{F:Hp}{tl:Addr}(h:sJ CG F H gr s)(ft:F tl=none)(n:tl≠gr):sJ CG F (bI H tl o) gr s:=by obtain⟨dx,ru,tx,tb,sh,h⟩:=h;refine⟨dx,ru,tx,tb,sh,fun a u z=>?_,h.fg,by rw[aH (Ne.symm n)];exact h.ob,h.Ux,h.ka,h.AQ,h.og,h.um⟩;rw[aH (fun e=>by rw[e,ft]at z;cases z)];exact h.sub _ _ z
theorem gb(F:lY K "answers" "answers" (st 83) f fd)(C:GC K CG)(Tp:uO mg)(hGI:FA P w K mg aT 4 "Grammar" CG ["self"] (jh CG))(hEC:mW P w K mg aT 1 "end_of_call" ["calls","at"] (jj K))(hAn:mW P w K mg aT 12 "answer" ["grammar","call"] (jr CG)):eN P w K mg aT lM 13 f fd ["calls"] (GI K):=by
 refine oB F cj fun H Q hr h=>?_
 obtain⟨a,cs,rfl,ha,okc,aiM,hr8,kk⟩:=h
 have nd:=cj.nd
 have yJ:=hr.mono (show 1<=12 by decide)
 have y4:=hr.mono (show 5<=12 by decide)
 refine⟨_,aJ (sv (i:=1) nd (kh hGI y4))
  (aJ (sv (i:=2) nd (fE aP))
  (aJ (sv (i:=3) nd cH)
  (aJ (wA bN (eM Xz (pv 3) (eT eB (by rfl) Tp.len dO (aB (pv 0) aP)) (fU _))
   (aJ (sv (i:=4) nd (dW hEC yJ (aB (pv 0) (aB (pv 3) aP))))
   (aJ (sv (i:=5) nd (dW hAn hr (aB (pv 1) (aB (tT xI (pv 0) (uX (pv 3)) (uX (pv 4))) aP))))
   (aJ (fM (uY cF eY eX oN (pv 2) (aB (eT eB (by rfl) Tp.len dO (aB (pv 5) aP)) aP)))
   (aJ (fM (uY cF lK lJ wF (pv 2) (aB (pv 5) aP)))
   (aU (sv (i:=3) nd (pv 4))))))))
  (aU (cO (pv 2)))))),?_⟩
 intro gr dx U2 L8 Iq
 have f1:bI H dx (.own gr) gr=none:=by rw[aH (Ne.symm Iq)];exact U2
 have s1:aK H (bI (bI H dx (.own gr)) gr (.ins CG dx [])):=(aK.upd L8).trans (aK.upd f1)
 have S5:bI (bI H dx (.own gr)) gr (.ins CG dx []) gr=some (.ins CG dx []):=aC
 generalize bI (bI H dx (.own gr)) gr (.ins CG dx [])=H1 at*
 refine⟨gr,dx,rfl,S5,fun H2 ru tx tF f2 f3 e1 e2 e3=>⟨rfl,?_⟩⟩
 have gh:=SS (CG:=CG) s1 U2 tF f2 f3 e1 e2 e3
 have g0:=Fp s1 tF U2
 have haF:iY K (ext H H1 H2 gr) a ((cs.flatMap pJ).map V.int):=aK.seq g0.ff ha
 generalize ext H H1 H2 gr=F1 at*
 refine⟨z0,fun tl uM=>?_⟩
 have j7:tl≠gr:=fun z=>by rw[z,e3]at uM;cases uM
 have va:F1 tl=none:=aK.free gh.sub uM
 refine⟨fun m σ H'=>∃i F' v4 v5,i<=cs.length/\m=cs.length-i/\σ=[some (.ref a),some (.ref gr),some (.ref tl),some (.int (((cs.take i).flatMap pJ).length:Int)),v4,v5]/\aK F1 F'/\F' tl=none/\sJ CG F' H' gr (after {} (cs.take i))/\LS (after {} (cs.take i))/\(after {} (cs.take i)).rules.length+((cs.drop i).filter tX).length<=8/\H' tl=some (.lst ((tJ (cs.take i)).map V.int))/\(tJ (cs.take i)).length<=70001*i,⟨_,0,F1,none,none,cI _,rfl,rfl,(fun _ _ z=>z),va,sJ.out ⟨_,_,_,_,_,gh⟩ va j7,⟨EW.init,fun r hr=>by cases hr⟩,by simpa[after]using hr8,aC,cI _⟩,?_⟩
 rintro m σ H' ⟨i,F',v4,v5,hi,rfl,rfl,sF,fT,hg,so,ai2,hT,hlen⟩
 obtain⟨W0,ru',tx',tb',sh',gh'⟩:=id hg
 have U8:iY K H' a ((cs.flatMap pJ).map V.int):=aK.seq (fun b o z=>gh'.sub _ _ (sF _ _ z)) haF
 refine⟨_,rfl,_,rfl,a,_,rfl,.inl U8,_,_,rfl,rfl,_,rfl,?_⟩
 by_cases oT:i<cs.length
 .obtain⟨c,ec⟩:∃c,cs[i]? =some c:=⟨_,bM oT⟩;have et:cs.take (i+1)=cs.take i++[c]:=dM ec;have edr:cs.drop i=c::cs.drop (i+1):=by obtain⟨hi',e⟩:=aL.mp ec;rw[cZ hi',e]
  have esp:cs.flatMap pJ=(cs.take i).flatMap pJ++pJ c++(cs.drop (i+1)).flatMap pJ:=by
   conv=>lhs;rw[<-jE i cs,edr]
   rw[tN,NJ,eV]
  have sI:=TQ c;refine gB (bB ?_) ⟨_,fun σ' rW z=>z,?_⟩
  .rw[aA,esp,bA,bA];lia
  rw[esp]at U8;refine⟨_,rfl,_,rfl,a,_,_,c,rfl,U8,?_⟩;refine⟨_,rfl,_,rfl,_,rfl,_,rfl,_,rfl,_,rfl,a,_,rfl,U8,fun q hq=>?_⟩;rw[UD];have s3:aK H' (bI H' q (.lst ((pJ c).map V.int))):=aK.upd hq;have T7:bI H' q (.lst ((pJ c).map V.int)) q=some (.lst ((pJ c).map V.int)):=aC;have ntq:tl≠q:=cK hT hq;have hT3:=s3 _ _ hT;have U3:=hg.same s3;generalize bI H' q (.lst ((pJ c).map V.int))=H3 at*;have hcm:=aG ec;have ZQ:=Zk ec tX;have sd:=OV (n:=((cs.drop (i+1)).filter tX).length) so (by lia) (okc c hcm);have ea:after {} (cs.take (i+1))=(bZ (after {} (cs.take i)) c).1:=by rw[et];unfold after;rw[vT];rfl
  have eto:=Wz (cs.take i) c;rw[<-et]at eto;rw[<-ea]at sd;refine⟨F',gr,q,_,c,rfl,so,okc c hcm,U3,T7,fun F4 H4 r g4 a4 fr er hlr=>?_⟩;rw[<-ea]at a4;have hT4:=g4.sx _ _ hT3 (by simp[j7]);have fT4:=g4.fk tl _ hT3 (by rintro(⟨_,z⟩|⟨_,z⟩|⟨_,_,z⟩|⟨_,_,z⟩)<;>cases z) fT;have nrt:r≠tl:=fun z=>by rw[z,hT3]at fr;cases fr
  generalize Js (bZ (after {} (cs.take i)) c).2=L at*;have b1:(tJ (cs.take i)).length+70001<=5000000:=by have:70001*i<=70001*60:=pM _ (by lia);lia
  refine⟨_,rfl,.inl ⟨rfl,_,iY.of hT4⟩,_,rfl,r,_,rfl,.inl (iY.of er),tl,_,_,rfl,rfl,hT4,?_,?_⟩
  .rw[aA];exact cA (show(tJ (cs.take i)).length<5000000 by lia) (by decide)
  have er5:bI H4 tl (.lst ((tJ (cs.take i)).map V.int++[V.int ((L.map V.int).length:Int)])) r=some (.lst (L.map V.int)):=by rw[aH nrt];exact er
  refine⟨_,rfl,.inl ⟨rfl,_,iY.of aC⟩,_,rfl,tl,r,_,_,rfl,rfl,aC,er5,?_,?_⟩
  .rw[bA,aA,aA];exact bK (show(tJ (cs.take i)).length+1+L.length<=5000000 by lia) (by decide)
  rw[nH];refine⟨_,rfl,_,by lia,i+1,F4,some (.int ((((cs.take i).flatMap pJ).length+(pJ c).length:Nat):Int)),some (.ref r),oT,rfl,?_,fun b o z=>g4.ff _ _ (sF _ _ z),fT4,sJ.out a4 fT4 j7,sd.1,sd.2,?_,?_⟩
  .have e5:(((cs.take i).flatMap pJ).length+(pJ c).length:Nat)=((cs.take (i+1)).flatMap pJ).length:=by rw[et,tN,bA];simp
   rw[<-e5];rfl
  .rw[aC,eto,aQ,aQ,aA];rfl
  .rw[eto,bA,bA];show _+1+_<=_;lia
 .have ei:i=cs.length:=by lia
  subst ei;rw[bX]at*;refine eE (bH (by rw[aA];lia)) ⟨_,rfl,kk H' tl hT⟩
def gJ(K:aX)(mg:Str->Option Value)(x:Str)(s:Stmt):Prop:=∃f fd,mg x=some (.ref f)/\lY K x x s f fd
def kH(K:aX)(C:Addr)(m q:Str)(s:Stmt):Prop:=∃f fd,MY K C m f/\lY K m q s f fd
def Hv(K:aX)(mg:Str->Option Value)(x:Str)(C:Addr)(q:Str)(s:Stmt):Prop:=∃f fd,mg x=some (.ref C)/\Mk K C f/\lY K "__init__" q s f fd
section
variable {K:aX} {mg:Str->Option Value} {x m q:Str} {s:Stmt} {C:Addr} {k:Nat} {ps:List Str} {sp:Sp}
theorem gJ.has(d:gJ K mg x s)(P:dJ)(w:World)(aT:Heap)(ok:∀f fd,lY K x x s f fd->eN P w K mg aT lM k f fd ps sp)(hb:∀(kV doc pm:Value) (an:Option Addr) (cdv ct:Value) (us:Lu),us.length=ps.length->BD (jF x x (rV s) (pH s) (bF s) .none kV doc pm an cdv ct) ⟨us,[]⟩=pure (ps.zip us):=by intro _ _ _ _ _ _ us hl;rcases us with _|⟨_,_|⟨_,_|⟨_,_|⟨_,_|⟨_,_|⟨_,_|⟨_,us⟩⟩⟩⟩⟩⟩⟩<;>first|rfl|(simp at hl)):mW P w K mg aT k x ps sp:=let ⟨f,fd,e,F⟩:=d;⟨f,fd,e,F.kp,F.binds hb,ok f fd F⟩
theorem kH.has(d:kH K C m q s)(P:dJ)(w:World)(mg:Str->Option Value)(aT:Heap)(ok:∀f fd,lY K m q s f fd->eN P w K mg aT lM k f fd ps sp)(hb:∀(kV doc pm:Value) (an:Option Addr) (cdv ct:Value) (us:Lu),us.length=ps.length->BD (jF m q (rV s) (pH s) (bF s) .none kV doc pm an cdv ct) ⟨us,[]⟩=pure (ps.zip us):=by intro _ _ _ _ _ _ us hl;rcases us with _|⟨_,_|⟨_,_|⟨_,_|⟨_,_|⟨_,_|⟨_,_|⟨_,us⟩⟩⟩⟩⟩⟩⟩<;>first|rfl|(simp at hl)):oG P w K mg aT k C m ps sp:=let ⟨f,fd,e,F⟩:=d;⟨f,fd,e,F.binds hb,ok f fd F⟩
theorem Hv.has(d:Hv K mg x C q s)(P:dJ)(w:World)(aT:Heap)(ok:∀f fd,lY K "__init__" q s f fd->eN P w K mg aT lM k f fd ps sp)(hb:∀(kV doc pm:Value) (an:Option Addr) (cdv ct:Value) (us:Lu),us.length=ps.length->BD (jF "__init__" q (rV s) (pH s) (bF s) .none kV doc pm an cdv ct) ⟨us,[]⟩=pure (ps.zip us):=by intro _ _ _ _ _ _ us hl;rcases us with _|⟨_,_|⟨_,_|⟨_,_|⟨_,_|⟨_,_|⟨_,_|⟨_,us⟩⟩⟩⟩⟩⟩⟩<;>first|rfl|(simp at hl)):FA P w K mg aT k x C ps sp:=let ⟨f,fd,e,M,F⟩:=d;⟨f,fd,e,M,F.binds hb,ok f fd F⟩
variable {h:Heap} {f:Addr} {oc:Value} {od an:Option Addr} {osl:Array (Option Value)} {kV doc pm cdv ct:Value}
theorem eQ(X:K.In h)(G:h.Ns iS mg)(a:Sw K iS x=some (some (.ref f)):=by k_is)(l:K.lookup f=some ⟨oc,od,.func (jF x x (rV s) (pH s) (bF s) .none kV doc pm an cdv ct),osl⟩:=by k_is)(c:qK K cdv x=true:=by k_is)(k:gZ K (.ref f)=true:=by k_is):gJ K mg x s:=⟨f,_,UW X G a,DS l c k⟩
theorem jI{y:Str}(X:K.In h)(eC:mg y=some (.ref C))(a:gG K (.ref C) m=some (some (.ref f)):=by k_is)(i:xF K (.ref f)=true:=by k_is)(l:K.lookup f=some ⟨oc,od,.func (jF m q (rV s) (pH s) (bF s) .none kV doc pm an cdv ct),osl⟩:=by k_is)(c:qK K cdv q=true:=by k_is)(k:gZ K (.ref f)=true:=by k_is):kH K C m q s:=⟨f,_,⟨a,i,k⟩,DS l c k⟩
theorem Uv(X:K.In h)(e:mg x=some (.ref C))(mk:Jc K C=true:=by k_is)(kc:gZ K (.ref C)=true:=by k_is)(a:gG K (.ref C) "__init__"=some (some (.ref f)):=by k_is)(i:xF K (.ref f)=true:=by k_is)(l:K.lookup f=some ⟨oc,od,.func (jF "__init__" q (rV s) (pH s) (bF s) .none kV doc pm an cdv ct),osl⟩:=by k_is)(c:qK K cdv q=true:=by k_is)(k:gZ K (.ref f)=true:=by k_is):Hv K mg x C q s:=⟨f,_,e,⟨mk,a,i,kc⟩,DS l c k⟩
theorem jA{i:Int}{t:Tok}(X:K.In h)(G:h.Ns iS mg)(a:Sw K iS x=some (some (.int i t)):=by k_is):∃t,mg x=some (.int i t):=⟨t,UW X G a⟩
theorem xM(X:K.In h)(G:h.Ns iS mg)(a:Sw K iS x=some none:=by k_is):mg x=none:=PySem.W.mg_none_of X G a
theorem ER(X:K.In h)(e:mg x=some (.ref C))(pg:rE K C Str.empty=true:=by k_is)(hd:uP K C=true:=by k_is)(po:Ds K C=true:=by k_is)(sa:gG K (.ref C) "__setattr__"=some (some (.builtin "object.__setattr__")):=by k_is):AX K C:=⟨pg,hd,po,sa⟩
theorem oS{f:Str}(X:K.In h)(e:mg x=some (.ref C))(a:gG K (.ref C) f=some none:=by k_is):iK K C f:=a
theorem F6{pd:Addr}{ep:Nat}{t0 t1 t2 t3 t4 t5 t6 t7 u0 u1 u2 u3 u4 u5 u6 u7:Tok}(X:K.In h)(e:mg x=some (.ref pd))(l:K.lookup pd=some {cls:=.type "dict",data:=.dict #[⟨yX 0,.int 0 t0,.int 0 u0⟩,⟨yX 1,.int 1 t1,.int 1 u1⟩,⟨yX 2,.int 2 t2,.int 1 u2⟩,⟨yX 3,.int 3 t3,.int 3 u3⟩,⟨yX 4,.int 4 t4,.int 2 u4⟩,⟨yX 5,.int 5 t5,.int 0 u5⟩,⟨yX 6,.int 6 t6,.int 2 u6⟩,⟨yX 7,.int 7 t7,.int 1 u7⟩] ep}:=by k_is):Sk K pd Jw:=⟨[((0,0),t0,u0),((1,1),t1,u1),((2,1),t2,u2),((3,3),t3,u3),((4,2),t4,u4),((5,0),t5,u5),((6,2),t6,u6),((7,1),t7,u7)],ep,rfl,by decide,l⟩
end
theorem rn{pd fa:Addr}(Tp:uO mg)(Wc:WC K CW CP)(Gc:GC K CG)(hP:mg "PLAIN_NUMBERS"=some (.ref pd))(hD:Sk K pd Jw)(a0:gJ K mg "is_name" (st 6))(a1:gJ K mg "is_byte" (st 7))(a2:gJ K mg "is_symbol" (st 8))(a3:gJ K mg "narrowed" (st 22))(a4:gJ K mg "plus" (st 23))(a5:gJ K mg "times" (st 24))(a6:gJ K mg "with_symbol_behind" (st 25))(a7:gJ K mg "ways_of_right" (st 26))(a8:gJ K mg "ways_of_rights" (st 27))(a9:gJ K mg "add_ways" (st 57))(a10:gJ K mg "ways_through" (st 58))(a11:gJ K mg "trees_in_all" (st 60))(a12:gJ K mg "rights_of_lefts" (st 28))(a13:gJ K mg "byte_table" (st 29))(a14:gJ K mg "find_ends" (st 30))(a15:gJ K mg "count_ends" (st 31))(a16:gJ K mg "tree_table" (st 32))(a17:gJ K mg "all_symbols" (st 9))(a18:gJ K mg "parts_known" (st 11))(a19:gJ K mg "length_of_right" (st 12))(a20:gJ K mg "least_of_each" (st 13))(a21:gJ K mg "shortest_lengths" (st 14))(a22:gJ K mg "rules_of_some_tree" (st 15))(a23:gJ K mg "shortest_rules" (st 16))(a24:gJ K mg "text_of_right" (st 17))(a25:gJ K mg "shortest_texts" (st 18))(a26:gJ K mg "all_reached" (st 1))(a27:gJ K mg "spots_of_right" (st 36))(a28:gJ K mg "edges_between_spots" (st 37))(a29:gJ K mg "bytes_behind" (st 38))(a30:gJ K mg "row_of_bits" (st 39))(a31:gJ K mg "rows_of_bits" (st 40))(a32:gJ K mg "steps_down" (st 46))(a33:gJ K mg "reach_of_steps" (st 47))(a34:gJ K mg "is_in_circle" (st 48))(a35:gJ K mg "all_make_nothing" (st 49))(a36:gJ K mg "makes_more_than_nothing" (st 50))(a37:gJ K mg "some_make_more" (st 51))(a38:gJ K mg "has_endless_trees" (st 52))(a39:gJ K mg "has_endless_texts" (st 53))(a40:gJ K mg "kind_of_symbol" (st 54))(a41:gJ K mg "ways_of_rests" (st 59))(a42:Hv K mg "Part" CP "Part.__init__" d8)(a43:kH K CW "rests_of_rule" "Walk.rests_of_rule" c9)(a44:kH K CW "put_into_last" "Walk.put_into_last" jx)(a45:kH K CW "behind_next_symbol" "Walk.behind_next_symbol" jy)(a46:kH K CW "open_name" "Walk.open_name" d9)(a47:kH K CW "close_part" "Walk.close_part" i5)(a48:kH K CW "take_name" "Walk.take_name" c5)(a49:kH K CW "go_on_with" "Walk.go_on_with" f6)(a50:Hv K mg "Walk" CW "Walk.__init__" Z9)(a51:kH K CW "rules_up_to" "Walk.rules_up_to" c4)(a52:kH K CG "whole_table" "Grammar.whole_table" ju)(a53:kH K CG "trees_by_end" "Grammar.trees_by_end" jv)(a54:kH K CG "change_text" "Grammar.change_text" i3)(a55:kH K CG "change_rules" "Grammar.change_rules" i4)(a56:kH K CG "begin" "Grammar.begin" i6)(a57:Hv K mg "Grammar" CG "Grammar.__init__" f9)(a58:kH K CG "length_of_rights" "Grammar.length_of_rights" XO)(a59:kH K CG "add_rule" "Grammar.add_rule" jz)(a60:kH K CG "set_text" "Grammar.set_text" jw)(a61:kH K CG "count_trees" "Grammar.count_trees" g9)(a62:kH K CG "pick_tree" "Grammar.pick_tree" d7)(a63:kH K CG "tell_kind" "Grammar.tell_kind" c7)(a64:kH K CG "next_bytes" "Grammar.next_bytes" e9)(a65:kH K CG "short_text" "Grammar.short_text" c8)(a66:gJ K mg "end_of_call" (st 81))(a67:gJ K mg "answer" (st 82))(F:lY K "answers" "answers" (st 83) fa fd):eN P w K mg aT lM 13 fa fd ["calls"] (GI K):=by have b0:=a0.has P w aT fun _ _ F=>JY F Tp;have b1:=a1.has P w aT fun _ _ F=>JZ F Tp;have b2:=a2.has P w aT fun _ _ F=>Yd F Tp;have b3:=a3.has P w aT fun _ _ F=>me F Tp;have b4:=a4.has P w aT fun _ _ F=>YH F Tp b3;have b5:=a5.has P w aT fun _ _ F=>QI F Tp b3;have b6:=a6.has P w aT fun _ _ F=>ku F b4 b5;have b7:=a7.has P w aT fun _ _ F=>kz F b6;have b8:=a8.has P w aT fun _ _ F=>YG F b7 b4;have b9:=a9.has P w aT fun _ _ F=>C7 F b4 b5;have b10:=a10.has P w aT fun _ _ F=>zf F b9;have b11:=a11.has P w aT fun _ _ F=>la F b4 b5;have b12:=a12.has P w aT fun _ _ F=>lz F;have b13:=a13.has P w aT fun _ _ F=>C4 F Tp;have b14:=a14.has P w aT fun _ _ F=>B5 F Tp b8;have b15:=a15.has P w aT fun _ _ F=>C2 F b8;have b16:=a16.has P w aT fun _ _ F=>zj F Tp b12 b13 b14 b15;have b17:=a17.has P w aT fun _ _ F=>C8 F Tp b2;have b18:=a18.has P w aT fun _ _ F=>zy F Tp;have b19:=a19.has P w aT fun _ _ F=>B0 F Tp;have b20:=a20.has P w aT fun _ _ F=>YJ F b18;have b21:=a21.has P w aT fun _ _ F=>zq F Tp b20 b19;have b22:=a22.has P w aT fun _ _ F=>lr F b18;have b23:=a23.has P w aT fun _ _ F=>lj F b22 b19;have b24:=a24.has P w aT fun _ _ F=>zk F;have b25:=a20.has P w aT fun _ _ F=>YI F b18;have b26:=a25.has P w aT fun _ _ F=>zo F Tp b25 b24 b23;have b27:=a26.has P w aT fun _ _ F=>mv F;have b28:=a26.has P w aT fun _ _ F=>mr F;have b29:=a27.has P w aT fun _ _ F=>ll F b6;have b30:=a28.has P w aT fun _ _ F=>ml F Tp b29;have b31:=a29.has P w aT fun _ _ F=>C6 F Tp b21 b22 b30 b28 b1;have b32:=a30.has P w aT fun _ _ F=>zw F Tp;have b33:=a31.has P w aT fun _ _ F=>ma F Tp b32;have b34:=a32.has P w aT fun _ _ F=>zt F Tp;have b35:=a33.has P w aT fun _ _ F=>lu F b27;have b36:=a34.has P w aT fun _ _ F=>B2 F;have b37:=a35.has P w aT fun _ _ F=>mw F Tp;have b38:=a36.has P w aT fun _ _ F=>A9 F Tp b1;have b39:=a37.has P w aT fun _ _ F=>zp F Tp b38;have b40:=a38.has P w aT fun _ _ F=>mj F Tp b37 b35 b36;have b41:=a39.has P w aT fun _ _ F=>mh F Tp b39 b36;have b42:=a40.has P w aT fun _ _ F=>B1 F Tp b21 b22 b34 b35 b40 b41;have b43:=a41.has P w aT fun _ _ F=>zg F Tp b10;have b44:=a42.has P w aT fun _ _ F=>A0 F Wc;have b45:=a43.has P w mg aT fun _ _ F=>zu F Wc b43;have b46:=a44.has P w mg aT fun _ _ F=>md F Wc b45 b9 b10;have b47:=a45.has P w mg aT fun _ _ F=>mn F Wc Tp b45 b11;have b48:=a46.has P w mg aT fun _ _ F=>A1 F Wc Tp b45 b11 b9 b44;have b49:=a47.has P w mg aT fun _ _ F=>B9 F Wc Tp b46;have b50:=a48.has P w mg aT fun _ _ F=>zl F Wc b46 b48 b11 b4;have b51:=a49.has P w mg aT fun _ _ F=>B3 F Wc Tp b49 b50 b47 b1;have b52:=a50.has P w aT fun _ _ F=>zh F Wc;have b53:=a51.has P w mg aT fun _ _ F=>zi F Wc Tp b48 b51;have b54:=a52.has P w mg aT fun _ _ F=>kq F Gc b16;have b55:=a53.has P w mg aT fun _ _ F=>lb F Gc b54;have b56:=a54.has P w mg aT fun _ _ F=>B7 F Gc;have b57:=a55.has P w mg aT fun _ _ F=>B8 F Gc b56;have b58:=a56.has P w mg aT fun _ _ F=>C5 F Gc b57;have b59:=a57.has P w aT fun _ _ F=>B4 F Gc b58;have b60:=a58.has P w mg aT fun _ _ F=>mf F Gc Tp;have b61:=a59.has P w mg aT fun _ _ F=>mq F Gc Tp b0 b17 b60 b57;have b62:=a60.has P w mg aT fun _ _ F=>lh F Gc Tp b0 b56 b55;have b63:=a61.has P w mg aT fun _ _ F=>C1 F Gc Tp b2 b55;have b64:=a62.has P w mg aT fun _ _ F=>zx F Gc Wc Tp b55 b52 b53;have b65:=a63.has P w mg aT fun _ _ F=>zm F Gc Tp b2 b42;have b66:=a64.has P w mg aT fun _ _ F=>A2 F Gc Tp b31 b33 b54;have b67:=a65.has P w mg aT fun _ _ F=>zr F Gc Tp b21 b26;have b68:=a66.has P w aT fun _ _ F=>B6 F Tp hP hD;have b69:=a67.has P w aT fun _ _ F=>C9 F Gc Tp b58 b61 b62 b63 b64 b66 b67 b65;exact gb F Gc Tp b59 b68 b69
end Pr
inductive PySem.W.Fast|tw10768577752242163175|tw4387470553044170112|tw7158044055068974511|tw14709626610446784758|tw13879168105900708387|tw7157724429418460041|tw433588457409641002|tw12323691319564659351|tw7958777398863414882|tw1534375275322335071|tw17077768664544227464|tw3797623958472883546|tw478559285902452549|tw15557867997789303144|tw13895654798392861034|tw12349888194590434763|tw260388617635034726|tw11110519058300301127|tw3399570772445516109|tw2293083481876343558|tw16217060211827505056|tw15438416605341549494|tw8915719982017347982|tw9021512992594432839|tw11730494778420426195|tw10444371307537716712|tw4215043943416831809|tw17974701216932410583|tw3857016305255356574|tw3435938789696758249|tw13699437115277644943|tw17198799085830661832|tw1933957323103751491|tw15877473794038922711|tw560675879809943186|tw16366779220283589042|tw14112878774955483178|tw4553411264142251686|tw4984908192690972790|tw15487200125734722604|tw5198247314203488747|tw813198528651042822|tw3217056910255486692|tw12692119702772192345|tw13546222960324336482|tw15136662673047024013|tw4322049840186057327|tw339560208717126840|tw2401710523508022475|tw9347480602341474136|tw10606832162782859993|tw6799183722162684256|tw11851514824366679599|tw12803859183360651949|tw1308288298354697844|tw1019061207109989081|tw12840778332056297107|tw3250255840466281793|tw15660671701427673597|tw18101594169171079320|tw8599404600570559864|tw3211148994491680679|tw8705357303070274660|tw11720768411502806818|tw5216969584299676155|tw14434901916915879717|tw925207071309581406|tw5655624916792929652|tw8944876543079215874|tw16721065581565280342|tw9990744979075261769|tw15066853345420138538|tw17666835583611141729|tw8856211480105123799|tw5259587860689016111|tw5132328709844710632|tw11397037688231134861|tw11860725506586868053|tw11317045350642140661|tw14247104893189123964|tw5774574155026304336|tw1817237660620227761|tw2301408545059573465|tw325818193021338395|tw18154679842229943720|tw1561131557950069606|tw8656845705728720919|tw15449963564415615817|tw17757394220719499746|tw10015493738361980503|tw6736843741057242523|tw16397417529907476852|tw9974197572999890475|tw10571651829558046165|tw10121395621262556535|tw14526073773682131681|tw4644514794328804445|tw7442765927283735077|tw17750931158671040881|tw14854251641667696159|tw6043815522967916090|tw1112269359088332587|tw7372416434036971102|tw9810851921451730424|tw10711146633388957584|tw7259181068519484526|tw10926168512285578911|tw16769827829238913233|tw9246881518606983264|tw1598444143083543729|tw12025826674413824277|tw3564311846327201304|tw6247730672651324322|tw16657645012989861441|tw3835445631887086337|tw4204105520710734855|tw17758848411136270719|tw11784968058444843632|tw6163016153117580201|tw12132125474901968333|tw14927547741298500501|tw5856697146487316199|tw2153071386333991425|tw10111816890064924582|tw15970937341843265506
open PySem PySem.W PyProof.Rows Pr
set_option maxRecDepth 100000 in
set_option maxHeartbeats 0 in
theorem PySem.Challenge.cw_treewords_s01_answers_holds : PySem.Challenge.rw_treewords_s01_answers.Holds := by
 w_on;k_headS;(case hw=>exact⟨[.list []],by decide+kernel,by decide+kernel⟩)
 k_fillS
 refine L2.BN (r:=PySem.Challenge.rw_treewords_s01_answers) (k:=13) (CX:=L2.lM) (ps:=["calls"]) (sp:=GI) (by decide+kernel) rfl rfl ⟨rfl,by decide,by decide⟩ (fun w h Y=>PySem.W.kIn_of Y) ?F ?S (fun _ _ _ _ z=>z);case F=>intro w mg fa h Y KX G hmg;have eP:=PySem.W.mg_of (n:="Part") KX G (by k_is);have eW:=PySem.W.mg_of (n:="Walk") KX G (by k_is);have eG:=PySem.W.mg_of (n:="Grammar") KX G (by k_is);have eD:=PySem.W.mg_of (n:="PLAIN_NUMBERS") KX G (by k_is);have Tp:uO mg:=⟨jA KX G,jA KX G,jA KX G,jA KX G,jA KX G,jA KX G,jA KX G,jA KX G,jA KX G,jA KX G,jA KX G,jA KX G,jA KX G,jA KX G,jA KX G,jA KX G,jA KX G,jA KX G,jA KX G,jA KX G,jA KX G,jA KX G,jA KX G,jA KX G,jA KX G,jA KX G,jA KX G,xM KX G,xM KX G,xM KX G,xM KX G,xM KX G,xM KX G,xM KX G⟩;obtain⟨f,fd,e,F⟩:=eQ (x:="answers") (s:=st 83) KX G;cases hmg.symm.trans e;refine⟨fd,?_,fun base _ _=>rn Tp ⟨ER KX eW,ER KX eP,oS KX eW,oS KX eW,oS KX eW,oS KX eW,oS KX eW,oS KX eW,oS KX eW,oS KX eW,oS KX eW,oS KX eP,oS KX eP,oS KX eP,oS KX eP,oS KX eP,oS KX eP,oS KX eP,oS KX eP⟩ ⟨ER KX eG,oS KX eG,oS KX eG,oS KX eG,oS KX eG,oS KX eG⟩ eD (F6 KX eD) (eQ KX G) (eQ KX G) (eQ KX G) (eQ KX G) (eQ KX G) (eQ KX G) (eQ KX G) (eQ KX G) (eQ KX G) (eQ KX G) (eQ KX G) (eQ KX G) (eQ KX G) (eQ KX G) (eQ KX G) (eQ KX G) (eQ KX G) (eQ KX G) (eQ KX G) (eQ KX G) (eQ KX G) (eQ KX G) (eQ KX G) (eQ KX G) (eQ KX G) (eQ KX G) (eQ KX G) (eQ KX G) (eQ KX G) (eQ KX G) (eQ KX G) (eQ KX G) (eQ KX G) (eQ KX G) (eQ KX G) (eQ KX G) (eQ KX G) (eQ KX G) (eQ KX G) (eQ KX G) (eQ KX G) (eQ KX G) (Uv KX eP) (jI KX eW) (jI KX eW) (jI KX eW) (jI KX eW) (jI KX eW) (jI KX eW) (jI KX eW) (Uv KX eW) (jI KX eW) (jI KX eG) (jI KX eG) (jI KX eG) (jI KX eG) (jI KX eG) (Uv KX eG) (jI KX eG) (jI KX eG) (jI KX eG) (jI KX eG) (jI KX eG) (jI KX eG) (jI KX eG) (jI KX eG) (eQ KX G) (eQ KX G) F⟩;obtain⟨oc,od,kV,doc,pm,an,cdv,ct,osl,rfl,lk,hcd⟩:=F.ex;exact fun s us hu=>match us,hu with|[_],_=>.of_eq rfl
 case S=>
  intro K H xs a hO hwi hask hx;cases hx with
  |cons h1 h2=>
   cases h2;cases h1 with
   |lst hs ha=>
    have e:=L2.HH a.1 _ ha;subst e;obtain⟨cs,ec,ok,h60,h8,ea⟩:=Tw.VT hask;refine⟨_,cs,rfl,?_,ok,h60,h8,fun H' p hp=>?_⟩
    .rw[<-ec];exact hs
    .have ea:PyRc14.answers a.1=tJ cs:=ea;show _;rw[<-ea]at hp;exact .lst (L2.iY.of hp) (L2.HZ _)
