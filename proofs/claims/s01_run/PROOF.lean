import PyProof.Rows.All
import Wide.All
import OpenK.AllK
import Wide.FinOn
import Open.SpecLaws
import KE.OsHead
import KE.OsGo
import Open.Tops
import PySem.Challenge.RW_handover_s01_run
import PySn24
import PyProof.EqAt
import PyProof.EqKinds
import PyProof.TupleCall
import KE.BitLaws
import PyProof.ExcBaseAll.Exception
import PyProof.ExcArgsOwn
import PyProof.ExcAttrAll.ValueError
import PyProof.RulesAs
import KE.KTryMore
set_option Elab.async false
set_option linter.all false
set_option maxRecDepth 100000
set_option genSizeOf false
set_option genInjectivity false
set_option genCtorIdx false
set_option bootstrap.genMatcherCode false
set_option maxHeartbeats 1000000
def pzZ:Nat->Lean.Syntax->Lean.Syntax|n+1,.node i k a=>if k==`null then .node i k (a.map (pzZ n)) else .node i `Lean.Parser.Tactic.rcasesPatLo #[.node i `Lean.Parser.Tactic.rcasesPatMed #[.node i `null #[if a.size=3 then .node i `Lean.Parser.Tactic.rcasesPat.tuple #[.atom i "⟨",pzZ n a[1]!,.atom i "⟩"] else .node i `Lean.Parser.Tactic.rcasesPat.ignore a]],.node i `null #[]]|_,.ident i a b c=>.node i `Lean.Parser.Tactic.rcasesPatLo #[.node i `Lean.Parser.Tactic.rcasesPatMed #[.node i `null #[.node i `Lean.Parser.Tactic.rcasesPat.one #[.ident i a b c]]],.node i `null #[]]|_,x=>x
local macro_rules|`(#[$x,*])=>do
 let y<-x.getElems.mapM fun e=>do match e with|`(9)=>return #[<-`(_),<-`(rfl)]|`(8)=>let u<-`(_);return #[u,u,u,u,u,<-`(rfl)]|`(7)=>let u<-`(_);return #[u,u]|e=>return #[⟨e⟩]
 `(⟨$[$(y.flatten)],*⟩)
open List renaming length->z9
open Option renaming some->Y,none->U
open Bool renaming true->O,false->J
theorem Z{a:α}:a=a:=rfl
open PySem renaming wpAny_bind->aY,Addr->ao,Value->aB,wpAny_pure->c0,Shared->bl,model->bJ,wpAny->bP,starEach->eN,Program->eZ,mem_of_lookup->oz,World->dM,boot_len->mD,Around->e0,wpAny_field->jM,mainGlobals->k0,wpAny_setField_rec->qV,cellsFrom->i7,Heap->df,bootBuiltins->oA,compareOp->lY,sysModules->nQ,wpAny_mono->nR,wpAny_loadPart_at->uf,wpAny_callSpecial?_slot->zv,wpAny_nextOf_list_item->zw,wpAny_holding->sX,Params->jt,backTo->jN,NameKind->nS,keywordEach->rT,attributeBase->ug,FuncData->oB,wpAny_call_entry->xH,wpAny_setField->vB,IsPair->kE,Scope->iH,wpAny_typeNameOfWhole_keyiter->Ex,rawInt->k1,wpAny_passesOwn->xI,behindInMarks->vC,wpAny_truthy_bool->zx,swapsWith->rU,wpAny_isSubtype_exc->BE,wpAny_typeNameOf_keyiter->Ey,codeAny->pg,tupleKind_room_in1->BF,codeAny_mono->xJ,backToKw->rV,wpAny_newObj_type->BG,wpAny_seqItems->zy,wpAny_nextOf_list_end->Ez,getMethod->uh,noteFrame->ui,notedBy->qW,callerA->qX,sliceBounds->xK,compEnvC->sY,codeAny_call_builtin->EA,wpAny_execs_nil->BH,pushCells->vD,compPost->uj,foldedSetIterable->EB,cLine->nT,wpAny_standAt->BI,wpAny_onRaise->BJ,tupleKind->xL,callWith->vE,wpAny_call->zz,call_meetsIn->BK,pushCells_keeps->EC,call->ph,binaryOp->xM,wpAny_updateSeq_pair->Iw,standAt->vF,holding->vG,DictEntry->zA,wpAny_attempt->ED,Paired->uk,assignEach->BL,valueAt->xN,wpAny_Call_method->Ix,wpAny_dictEntries->Iy,plainObj_wpAny_Assign_Attribute->On,pyNext->vH,PyData->vI,wpAny_pyIter_zip->Iz,sizeLine_eq->EE,subscripted->EF,wpAny_letGo->EG,Within->IA,letOwnedTupleGo->IB,wpAny_dictEpoch->IC,BindsTo->zB,getItem->zC,Keyword->zD,builtinsNs->EH,isTrue->xO,call_meets->EI,ZipApart->BM,wpAny_newTuple->ID,IsEnum->xP,wpAt_of_wpAny->Oo,PassesOwn->EJ,bindL->vJ,bindC->vK,seqIndex?->EK,atKey->vL,getAttr->BN,typeOf->zE,Builtin->BO,wpAny_isTrue_Compare1->Op,wpAny_isOneOf_keyiter->Oq,wpAt_bind->Os,wpAny_loadName_local->Ot,wpAny_alloc->IE,wpAny_pyIter_revIter->Ou,excClassObj->IF,unbindBehindTheSuite->Ov,wpAny_loadName_cell->Ow,wpAny_Name->IG,assign->BP,wpAny_Call_Name_kw->Ox,typeLookup->IH,typeIs_str->II,PlainAttrs->IJ,isInstance->IK,wpAny_rule->IL
open Nat renaming le_refl->bK,lt_of_lt_of_le->eR,le_trans->dK,ne_of_lt->eg,lt_succ_self->k2,zero_le->hQ,le_succ->iT,lt_succ_of_lt->pj,ne_of_gt->lZ,lt_irrefl->m8,not_lt_zero->p5,le_of_succ_le->rW,lt_trans->nU,le_of_eq->qY,not_lt->p6,le_of_lt->ul,le_of_not_lt->BQ,add_lt_add_left->EL,le_add_right->EM,le_total->EN,add_comm->EO,le_succ_of_le->IM,succ_le_succ->IN,min_eq_left->IP,add_sub_cancel_left->Oy,zero_add->IQ,pow_le_pow_right->Oz,one_pos->IR,eq_zero_or_pos->OA,lt_of_le_of_lt->OB,not_le->IS,pos_of_ne_zero->OC,lt_of_succ_lt->OD,lt_of_not_le->OE,min_le_right->OF,min_le_left->OG,toList_repr->OH
open PySem.W renaming Frag->b2,findIn->fJ,emptyDict->qZ,instObj->q0,makesIn->p7,keepIn->nV,kia_one->rX,looks_findIn->zF,Looks->vM,findCls->xQ,hasDictIn->zG,specialIn->zH,methodCall_KW->EP,WData->lB,plainGet->BR,typeIn->BS,lookIn->ER,InstAt->ES,kitOne->ET,plainGet_of->IT,fnOf->zI,callWith_K0->IU,callWith_K->IV,handedIn->IW,InitBack->IX,makes_of->IY,WellAll->vN,takerIn->IZ,takesIn->I0,length_le_weightAllW->OI,isFn->BU,plainOver->I1,mroIn->I2,nsIn->q1,cellsFrom_some->OJ,readsIn->I3,findObj_own->OK,codeIn->I4,set_plain->OL,make_core->OM,kitx_list->ON,kitx_dict->OO,WRecords->OP,bind_fn->OQ,WalkOS->OR,exmOne->OS,CFound->OT
open Sn24 renaming sg->a7,Bytes->br,ident1->fu,signs->fP,decimal->h2,Stmt->gW,Proc->h3,MAIN->l0,Expr->nW,binary->p8,LEVELS->q2,paren->pk,letter->mE,branches->rY,anExpr->q3,Guard->pn,chanOf->oC,MOSTCELLS->um,unary->l1,run->uo,program->zJ,FUEL->i8,wrap->rZ,tokens->q4,St->vO,ident->uq,stmts->r0,MOSTOUT->BV,step->EU,End->EV,stmt->q5,Means->vP,bool->I5,procs->xR,MOSTSTEPS->OU
open PySem.Heap renaming get?_push_of_some->fv,lt_size->dF,get?_push_size->jO,get?_update_other->r1,size_push->nX,SameBut->p9,get?_update_self->zK,size_after_update->I6
open List renaming mem_cons_of_mem->e9,mem_cons_self->fD,mem_cons->eG,length_cons->gi,mem_singleton->gX,getElem?_eq_some_iff->jP,length_drop->ho,length_map->hR,size_toArray->iU,length_append->ju,mem_append->iV,mem_of_getElem?->mF,range->gK,getElem?_eq_getElem->pq,getD_eq_getElem?_getD->q6,length_set->k3,append_assoc->m9,length_take->mG,nodup_cons->l2,getElem?_eq_none->qa,map_inj_left->oD,mem_append_right->q7,find?_cons->nY,mem_range->nc,map_cons->mH,drop_eq_getElem_cons->ur,filter_cons->pv,mem_append_left->r2,pairwise_cons->q8,filterMap_cons->r3,length_eq_zero_iff->ut,pairwise_singleton->uu,getElem?_append_left->vQ,getElem?_map->r4,mem_of_find?_eq_some->xS,map_append->r5,drop_length->sZ,takeWhile_cons->vR,contains_cons->vS,nodup_append->vT,append_nil->uv,getElem?_set_self->zL,lookup_cons->vU,not_mem_nil->vV,mem_filter->vW,getElem?_set_ne->zM,mem_map->s6,head?_drop->xT,lookup->uw,getElem_mem->zN,length_reverse->BW,getElem?_take_of_lt->EW,find?_some->zO,take_add_one->BX,all_eq_true->BY,findSome?_cons->EX,reverse_append->EY,mem_filterMap->EZ,find?_eq_none->E0,forIn_nil->BZ,isPrefixOf_iff_prefix->I7,getElem?_eq_none_iff->I8,any_cons->B0,any_eq_true->E1,take_length->E2,prefix_iff_eq_take->I9,filter_eq_nil_iff->Ja,map_nil->B1,drop_eq_nil_of_le->Jb,map_map->B2,forIn_cons->E3,length_filter_le->Jc,take_append_drop->Jd,takeWhile_prefix->Je,replicate->E4,mem_of_mem_take->Jf,map_congr_left->Jg,filter_append->Jh,length_range->Ji,foldl_append->Jj,any_eq_false->Jk,eraseIdxIfInBounds_toArray->OV,of_mem_zip->Jl,length_nil->Jm,getElem?_append_right->OW,nodup_nil->Jn,drop_zero->Jo,drop_drop->Jp,pairwise_iff_getElem->OX,cons->E5,take_of_length_le->OY,eq_nil_or_concat->OZ,concat_eq_append->O0,contains_iff_mem->O1,pairwise_append->O2,length->Jq,mem_of_mem_drop->O3,dropWhile_cons->O4,getElem_of_mem->O5,toList_toArray->O6,getElem?_drop->O7,filter_congr->O8,find?_append->O9,range_succ->Pa,foldl_cons->Pb,all_cons->Pc
open Option renaming map_eq_some_iff->iW,bind_eq_some_iff->kF,isSome_iff_exists->B3,bind_some->B4,bind_assoc->E6,isSome_map->E7,map_some->E8,none->E9,bind->Jr,isSome_some->Pd,getD_none->Pe
open Sum renaming inr->cT,inl->d2
open Ne renaming symm->c5
open Bool renaming false_ne_true->jv,noConfusion->qb,and_eq_true->vX,eq_false_iff->B5,false_eq_true->Fa,or_true->B6,eq_iff_iff->Fb,and_eq_true_iff->Js,false_and->Pf,true_and->Pg,or_false->Ph
open PySem.Value renaming ref->e3,none->ka,int->s7,type->vY,builtin->B7,str->zP,bool->Fc,float->Jt,isStrOf->Pi
open Option.some renaming inj->iX
open False renaming elim->gY
open Array renaming getElem?_eq_some_iff->q9,length_toList->zQ,getElem?_toList->Ju,toList->Jv,getElem?_eq_none->Pj,mem_toList_iff->Pk,append_assoc->Pl,forIn_toList->Pm
open PySem.Challenge renaming pw_handover_s01_run->xU,fa_handover_s01_run->B8,rw_handover_s01_run->Jw,fr_handover_s01_run->Pn,nm_handover_s01_run->XY
open True renaming intro->kb
open Sn24Neutral renaming nats->ra,whole32->zR,bytes->zS,answered->Po,asked->Pp,long->Pq
open Except renaming ok->kG,bind->zT,error->B9
open PySem.Obj renaming mapFields->rb,isFreed_of_fields->Fd,data_mapFields->Pr
open Int renaming natAbs_natCast->vZ,natAbs_neg->Fe,natCast_nonneg->Jx,toNat_natCast->Jy,toNat_of_nonneg->Ps,tmod_nonneg->Pt
open PySem.Builtin.SmallTypes renaming nextOf->Ca,ownedTupleIsFree->Jz,ownedTupleHandOut->Pu
open PySem.Calls renaming spliced_cons->xV,callWith_builtin->zU,spliced_nil->zV,evalArgs_plain->Cb,Name_function_global->Pw
open Prod.mk renaming injEq->s8
open PySem.F renaming slot_dict_keyiterator_next->Cc,plainAttrs_list->Cd,slot_dict_get->Ce,slot_list_pop->Cf,slot_enumerate_next->Ff,plainAttrs_dict->JA,entry_dict_get->JB,type_list_pop->JC,slot_zip_next->Fg,slot_dict_delitem->Px,slot_dict_getitem->Py,excBase_Exception->Pz,args_dict_keyiterator_next_1->PA,args_dict_get_2->PB,entry_dict_keyiterator_next->PC,attr_ValueError->PD,slot_dict_pop->PE,type_dict_get->PF,slot_list_append->PG,slot_list_extend->PH,args_enumerate_next_1->PI,entry_enumerate_next->PJ,args_zip_next_1->PK,entry_list_pop->PL,slot_dict_iter->PM,entry_zip_next->PN
open PySem.AutoSeq1 renaming wpAny_loadPart'->Fh
open PyProof.Rows renaming callWith_type1->Fi,envOfC->oE,AllBare->s9,callWith_builtin1->PO,subscriptTail_builtinR->PP,iadd_int->PQ,Subscript_->JD
open PySem.Str renaming ofString->ux
open PySem.W.Codec renaming encAll->xW,denoteAll->Cg,app->zW
open PySn24 renaming run_asked->Ch,run->zX
open PySem.Paired renaming length->zY,snoc->PR
open List.Pairwise renaming nil->Fj
open PySem.W.Looks renaming ld->Fk
open Classical renaming byContradiction->JE,epsilon->Fl,choice->Fm,epsilon_spec->JF
open List.cons renaming inj->Ci
open PySem.NameKind renaming free->Cj,cell->PS
open ForInStep renaming yield->Fn
open PySem.Heap.SameBut renaming update->JG
open PySem.Builtin.Dict_items renaming ownsTuple->PT
open Sum.inr renaming inj->Ck
open Sn24.Guard renaming from_->JH
open Sum.inl renaming inj->Fo
open PySem.Builtin.List renaming listTooLong->PU
open Or renaming inl->uy
open PySem.Builtin.Dict renaming showsAll->PV
open Sn24.Bad renaming name->Cm
open PySem.SeqAt.EqAt renaming int_str->PW,str_int->PX
open PySem.Around renaming under->JI
open PySem.Code renaming isFrame->JJ,quiet_builtin->PY
open PySem.Heap.Ns1 renaming of_empty->PZ
open PySem.Data renaming seq->Fp
open PySem.Value.type renaming inj->P0
open PySem.Within renaming cons->P1
open PySem.Txt renaming join->Fq
open Nat.succ renaming inj->P2
open PySem.W.WData renaming weightAll->P3
noncomputable section
section
open PySem PySem.W PyProof.Rows
set_option maxHeartbeats 0
theorem PySem.W.Fast.te13052408679150730464:True:=trivial
def PySem.W.Fast.tw11034583979728711272:eZ:=xU
theorem PySem.W.Fast.te11034583979728711272:xU=PySem.W.Fast.tw11034583979728711272:=rfl
theorem PySem.W.Fast.te16555476440528808052:True:=trivial
theorem PySem.W.Fast.te4868988410673395695:True:=trivial
theorem PySem.W.Fast.te5452508617037859911:True:=trivial
theorem PySem.W.Fast.te11152381544001756331:True:=trivial
open_shared hoTop6 for PySem.Challenge.pw_handover_s01_run leaving 0
end
namespace Ho
open PySem PySem.Spec PyProof.Rows
open PySem.W (nsIn findIn keepIn makesIn isFn findCls codeIn fnOf plainGet hasDictIn plainOver specialIn readsIn Frag)
namespace Hd
noncomputable def Fs:List Obj->Nat->b2
 |[],_=>[]
 |o::r,i=>(i,o)::Fs r (i+1)
theorem P4:∀{l:List Obj}{i a:Nat}{o:Obj},(Fs l i).lookup a=Y o->i<=a/\l[a-i]?=Y o
 |[],i,a,o,h=>nomatch h
 |u::r,i,a,o,h=>by
  have h:((i,u)::Fs r (i+1)).lookup a=Y o:=h;rw[vU]at h;by_cases e:a=i
  .subst e;rw[show(a==a)=O from beq_self_eq_true a]at h;cases h;exact#[bK _,by rw[Nat.sub_self];rfl]
  .rw[show(a==i)=J from beq_eq_false_iff_ne.mpr e]at h;obtain⟨c,b⟩:=P4 h;exact#[by lia,by rwa[show a-i=(a-(i+1))+1 from by lia]]
noncomputable def dT(o:Obj):Bool:=match o.data with
 |.freed=>J
 |_=>O
noncomputable def uz(p:jt):List Obj:=(hoTop6.tree_1828 p).list 1652
noncomputable def c7(p:jt):b2:=Fs (uz p) 0
def XZ(p:jt):(uz p).all dT=true:=by kernel_rfl
def X0{p:jt}{h:df}(e:h.objs.toList=uz p):(c7 p).In h:=λa o l=>by obtain⟨_,b⟩:=P4 l;rw[Nat.sub_zero]at b;have f:=BY.mp (XZ p) o<|mF b;rw[<-e,Ju]at b;unfold Heap.get?;rw[b];obtain⟨c,d,x,s⟩:=o;cases x<;>first|rfl|cases f
noncomputable def X1:PySem.W.Hook:=#[List Obj,λs=>s.heap.objs.toList,λw=>uz w.params,λw h=>(c7 w.params).In h,λ_ _ e=>X0 e,λ_ _ _ i k a o l=>k a o<|i a o l]
end Hd
end Ho
section
local macro_rules|`(tactic|decide +kernel)=>`(tactic|first|decide (config:={kernel:=true})|(dsimp only;decide (config:={kernel:=true})))
open PySem PySem.W PyProof.Rows
set_option maxHeartbeats 0
def Ho.aOf{P:Prop}(_:P):=PySn24.run_asked
theorem Ho.wsZq:PySem.Challenge.rw_handover_s01_run.wellSaid=true:=by decide +kernel
theorem Ho.hdZq(hc:∀(q:Program)(l:List PySem.Str)(X:(PySem.Str->Option PySem.Value)->Heap->Prop)(d:DefRec),d.name="run"->d.params.defaults=[]->WalkOS q l X Ho.Hd.X1.says PySem.Challenge.rw_handover_s01_run d [] fun f vs=>PySem.call f vs)(hs:(.mk PySem.Challenge.pw_handover_s01_run PySem.Challenge.nm_handover_s01_run PySem.Challenge.fa_handover_s01_run PySem.Challenge.fr_handover_s01_run (Ho.aOf hc) PySn24.run:OpenSpec).wellSaid=true):(.mk PySem.Challenge.pw_handover_s01_run PySem.Challenge.nm_handover_s01_run PySem.Challenge.fa_handover_s01_run PySem.Challenge.fr_handover_s01_run (Ho.aOf hc) PySn24.run:OpenSpec).Holds:=by
 w_on;o_headS Ho.Hd.X1
 case hw=>exact⟨[.int 0,.int 0,.list []],by show PySem.Challenge.rw_handover_s01_run.pre _=_;decide +kernel,by decide +kernel⟩
 case hc=>exact hc _ _ _ _ rfl rfl
end
set_option tactic.hygienic false
local macro_rules|`(tactic|let $d:letDecl)=>let s:=d.raw[0];if s.getKind==`Lean.Parser.Term.letPatDecl then `(tactic|obtain $(⟨(pzZ 99 s[0])[0]⟩):rcasesPatMed:=$(⟨s[4]⟩)) else `(tactic|have $d:letDecl)
local macro_rules|`(tactic|show $e)=>`(tactic|first|refine $e|change $e)
def aR{c:Prop}{_:Decidable c}(h:c){a b:α}:ite c a b=a:=if_pos h
def aM{c:Prop}{_:Decidable c}(h:¬c){a b:α}:ite c a b=b:=if_neg h
def a8{a:Prop}{b:Prop}(h:a)(n:¬a):b:=absurd h n
def gv{p:Prop}[Decidable p](h:p):decide p=true:=decide_eq_true h
def i9{p:Prop}[Decidable p](h:¬p):decide p=false:=decide_eq_false h
def kc{p:Prop}[Decidable p](h:decide p=O):p:=of_decide_eq_true h
def aV{p:Prop}(h:p:=by lia):p:=h
def bg{p:Prop}(h:p:=by simp):p:=h
def cn{p:Prop}(h:p:=by decide):p:=h
def eH{p:Prop}(h:p:=by decide +kernel):p:=h
def fE{a b:Nat}(h:Nat.ble (a+1) b=true:=by rfl):a<b:=Nat.le_of_ble_eq_true h
namespace Ho
open Sn24
def f5(h:eat t l=Y r):z9 l=z9 r+1:=by
 cases l with
 |nil=>cases h
 |cons u s=>
  let a:(if u=t then Y s else U)=Y r:=h;by_cases q:u=t
  .rw[aR q]at a;cases a;rfl
  .rw[aM q]at a;cases a
def qc(h:fu l=Y (x,r)):z9 l=z9 r+1:=by
 cases l with
 |nil=>cases h
 |cons u s=>
  let a:(uq u).map (λx=>(x,s))=Y (x,r):=h
  cases e:uq u with
  |none=>rw[e]at a;cases a
  |some y=>rw[e]at a;cases a;rfl
def zZ(n d p:Nat)(l:List Tok):expr (n+1) d p l=(l1 n d l).bind λx=>more n d p x.1 x.2:=by rw[expr.eq_def]
def Cn(n d p:Nat)(a:Expr)(l:List Tok):more (n+1) d p a l=match l with
  |.sign s::r=>match p8.find? λo=>o.1==s&&decide (p<=o.2.1)with
   |some o=>(expr n (d+1) (o.2.1+1) r).bind λb=>more n d p (.bin o.2.2 a b.1) b.2
   |none=>Y (a,l)
  |_=>Y (a,l):=by rw[more.eq_def];rfl
def z0(n d:Nat)(l:List Tok):l1 (n+1) d l=if q2<=d then U else match l with
  |.num k::r=>Y (.num k,r)
  |t::r=>
   if t=sg "!" then (l1 n (d+1) r).map λx=>(.not x.1,x.2)
   else if t=sg "-" then (l1 n (d+1) r).map λx=>(.minus x.1,x.2)
   else if t=sg "(" then (expr n (d+1) 1 r).bind λx=>(eat (sg ")") x.2).map λr=>(x.1,r)
   else (uq t).map λx=>(.var x,r)
  |[]=>none:=by rw[unary.eq_def];rfl
set_option tactic.hygienic true in
def P5:∀n:Nat,
  (∀d p l e r,expr n d p l=Y (e,r)->z9 r<z9 l)/\
  (∀d p a l e r,more n d p a l=Y (e,r)->z9 r<=z9 l)/\
  (∀d l e r,l1 n d l=Y (e,r)->z9 r<z9 l):=by
 intro n
 induction n with
 |zero=>
  show#[?_,?_,?_]
  .intro d p l e r h;simp[expr]at h
  .intro d p a l e r h;simp[more]at h
  .intro d l e r h;simp[l1]at h
 |succ n m=>
  let#[j,k,i]:=m;show#[?_,?_,?_]
  .intro d p l e r h
   rw[zZ]at h
   cases c:l1 n d l with
   |none=>cases c▸h
   |some x=>rw[c]at h;let v:=i d l x.1 x.2 c;let u:=k d p x.1 x.2 e r h;lia
  .intro d p a l e r h;rw[Cn]at h;split at h
   .rename_i s g;split at h
    .rename_i o w
     cases f:expr n (d+1) (o.2.1+1) g with
     |none=>cases f▸h
     |some b=>rw[f]at h;let v:=j _ _ _ b.1 b.2 f;let u:=k _ _ _ _ e r h;simp only[gi];lia
    .cases h;show bK _
   .cases h;show bK _
  .intro d l e r h;rw[z0]at h;split at h
   .cases h
   .split at h
    .cases h;simp
    .rename_i t g _;split at h
     .cases c:l1 n (d+1) g with
      |none=>cases c▸h
      |some x=>cases c▸h;have:=i _ _ x.1 x.2 c;simp only[gi];lia
     .split at h
      .cases c:l1 n (d+1) g with
       |none=>cases c▸h
       |some x=>cases c▸h;have:=i _ _ x.1 x.2 c;simp only[gi];lia
      .split at h
       .cases c:expr n (d+1) 1 g with
        |none=>cases c▸h
        |some x=>
         rw[c]at h
         simp only[B4]at h
         cases f:eat (sg ")") x.2 with
         |none=>cases f▸h
         |some q=>cases f▸h;have:=j _ _ _ x.1 x.2 c;have:=f5 f;simp only[gi];lia
       .cases ak:uq t with
        |none=>cases ak▸h
        |some x=>cases ak▸h;simp
    .cases h
def JK(h:expr n d p l=Y (e,r)):z9 r<z9 l:=(P5 n).1 d p l e r h
def P6(h:l1 n d l=Y (e,r)):z9 r<z9 l:=(P5 n).2.2 d l e r h
def gL(h:∀a,o=Y a->f a=g a):o.bind f=o.bind g:=by
 cases o with
 |none=>rfl
 |some a=>show h a Z
set_option tactic.hygienic true in
def JL:∀n:Nat,
  (∀d p l,2*z9 l+2<=n->expr n d p l=expr (n+1) d p l)/\
  (∀d p a l,2*z9 l+1<=n->more n d p a l=more (n+1) d p a l)/\
  (∀d l,2*z9 l+1<=n->l1 n d l=l1 (n+1) d l):=by
 intro n
 induction n with
 |zero=>show#[λd p l h=>?_,λd p a l h=>?_,λd l h=>?_]<;>lia
 |succ n g=>
  let#[c,e,f]:=g;show#[λd p l h=>?_,λd p a l h=>?_,λd l h=>?_]
  .rw[zZ,zZ,<-f d l aV];show gL λx b=>?_;have:=P6 b;show e _ _ _ _ aV
  .rw[Cn,Cn];split
   .rename_i s r;split
    .rename_i o i;simp only[gi]at h;rw[<-c (d+1) (o.2.1+1) r aV];show gL λx b=>?_;have:=JK b;show e _ _ _ _ aV
    .rfl
   .rfl
  .rw[z0,z0];split
   .rfl
   .split
    .rfl
    .rename_i t r _;simp only[gi]at h;rw[<-f (d+1) r aV,<-c (d+1) 1 r aV]
    .rfl
def P7(h:2*z9 l+2<=n)(hm:n<=m):expr m d p l=expr n d p l:=by
 induction hm with
 |refl=>rfl
 |step hm a=>rwa[<- (JL _).1 d p l (dK h hm)]
def P8(h:2*z9 l+1<=n)(hm:n<=m):more m d p a l=more n d p a l:=by
 induction hm with
 |refl=>rfl
 |step hm b=>rwa[<- (JL _).2.1 d p a l (dK h hm)]
def P9(h:2*z9 l+1<=n)(hm:n<=m):l1 m d l=l1 n d l:=by
 induction hm with
 |refl=>rfl
 |step hm a=>rwa[<- (JL _).2.2 d l (dK h hm)]
noncomputable def gj(d p:Nat)(l:List Tok):Option (Expr×List Tok):=expr (2*z9 l+4) d p l
def tb(d p:Nat)(a:Expr)(l:List Tok):Option (Expr×List Tok):=more (2*z9 l+4) d p a l
def qd(d:Nat)(l:List Tok):Option (Expr×List Tok):=l1 (2*z9 l+4) d l
def Ft(h:gj d p l=Y (e,r)):z9 r<z9 l:=JK h
def X2(h:qd d l=Y (e,r)):z9 r<z9 l:=P6 h
def Qa(h:2*z9 l+2<=n):expr n d p l=gj d p l:=by
 obtain q|q:=EN n (2*z9 l+4)
 .show(P7 h q).symm
 .show P7 aV q
def Qb(h:2*z9 l+1<=n):more n d p a l=tb d p a l:=by
 obtain q|q:=EN n (2*z9 l+4)
 .show(P8 h q).symm
 .show P8 aV q
def Qc(h:2*z9 l+1<=n):l1 n d l=qd d l:=by
 obtain q|q:=EN n (2*z9 l+4)
 .show(P9 h q).symm
 .show P9 aV q
def X3(d p:Nat)(l:List Tok):gj d p l=(qd d l).bind λx=>tb d p x.1 x.2:=by show expr (2*z9 l+4) d p l=_;rw[show 2*z9 l+4=(2*z9 l+3)+1 from Z,zZ,Qc aV];show gL λx a=>?_;have:=X2 a;show Qb aV
set_option tactic.hygienic true in
def Qd(d p:Nat)(a:Expr)(l:List Tok):tb d p a l=match l with
  |.sign s::r=>match p8.find? λo=>o.1==s&&decide (p<=o.2.1)with
   |some o=>(gj (d+1) (o.2.1+1) r).bind λb=>tb d p (.bin o.2.2 a b.1) b.2
   |none=>Y (a,l)
  |_=>Y (a,l):=by
 show more (2*z9 l+4) d p a l=_
 rw[show 2*z9 l+4=(2*z9 l+3)+1 from Z,Cn]
 split
 .rename_i s r;split
  .rename_i o e;simp only[gi];rw[Qa aV];show gL λx c=>?_;have:=Ft c;show Qb aV
  .rfl
 .rfl
set_option tactic.hygienic true in
def JM(d:Nat)(l:List Tok):qd d l=if q2<=d then U else match l with
  |.num k::r=>Y (.num k,r)
  |t::r=>
   if t=sg "!" then (qd (d+1) r).map λx=>(.not x.1,x.2)
   else if t=sg "-" then (qd (d+1) r).map λx=>(.minus x.1,x.2)
   else if t=sg "(" then (gj (d+1) 1 r).bind λx=>(eat (sg ")") x.2).map λr=>(x.1,r)
   else (uq t).map λx=>(.var x,r)
  |[]=>none:=by
 show l1 (2*z9 l+4) d l=_
 rw[show 2*z9 l+4=(2*z9 l+3)+1 from Z,z0]
 split
 .rfl
 .split
  .rfl
  .rename_i t r a;simp only[gi];rw[Qc aV,Qa aV]
  .rfl
def xX{l r:List Tok}{e:Expr}(h:q3 l=Y (e,r)):z9 r<z9 l:=JK h
def Co(h:pk l=Y (e,r)):z9 r<z9 l:=by
 unfold pk at h
 cases b:eat (sg "(") l with
 |none=>cases b▸h
 |some d=>
  rw[b]at h;simp only[B4]at h
  cases c:q3 d with
  |none=>cases c▸h
  |some x=>
   rw[c]at h;simp only[B4]at h
   cases a:eat (sg ")") x.2 with
   |none=>cases a▸h
   |some f=>cases a▸h;let g:=f5 b;let i:=xX c;let j:=f5 a;lia
def JN(n:Nat)(first:Bool)(l:List Tok):args (n+1) first l=match (if first=O then eat (sg ")") l else U)with
  |some r=>Y ([],r)
  |none=>(q3 l).bind λx=>match eat (sg ")") x.2 with
   |some r=>Y ([x.1],r)
   |none=>(eat (sg ",") x.2).bind λr=>(args n J r).map λy=>(x.1::y.1,y.2):=by rw[args.eq_def];rfl
theorem Qe:∀(n:Nat) (first:Bool) (l:List Tok),z9 l+1<=n->args n first l=args (n+1) first l
 |0,_,l,h=>by lia
 |n+1,first,l,h=>by
  rw[JN,JN];split
  .rfl
  .show gL λx b=>?_;have:=xX b;split
   .rfl
   .show gL λr a=>?_;have:=f5 a;rw[Qe n J r aV]
def X4{first:Bool}{l:List Tok}(h:z9 l+1<=n)(hm:n<=m):args m first l=args n first l:=by
 induction hm with
 |refl=>rfl
 |step hm a=>rwa[<-Qe _ first l (dK h hm)]
noncomputable def l3(first:Bool)(l:List Tok):Option (List Expr×List Tok):=args (z9 l+1) first l
def X5{n:Nat}{first:Bool}{l:List Tok}(h:z9 l+1<=n):args n first l=l3 first l:=X4 (bK _) h
def Fu(first:Bool)(l:List Tok):l3 first l=match (if first=O then eat (sg ")") l else U)with
  |some r=>Y ([],r)
  |none=>(q3 l).bind λx=>match eat (sg ")") x.2 with
   |some r=>Y ([x.1],r)
   |none=>(eat (sg ",") x.2).bind λr=>(l3 J r).map λy=>(x.1::y.1,y.2):=by
 unfold l3
 rw[JN]
 split
 .rfl
 .show gL λx b=>?_;have:=xX b;split
  .rfl
  .show gL λr a=>?_;have:=f5 a;rw[X5 aV];rfl
set_option tactic.hygienic true in
theorem Qf:∀{k:Nat}{first:Bool}{l r:List Tok}{as:List Expr},z9 l<=k->l3 first l=Y (as,r)->z9 r<z9 l
 |0,first,l,r,as,e,h=>by have:l=[]:=ut.mp aV;subst this;rw[Fu]at h;cases first<;>simp[eat,q3,zZ,z0]at h
 |k+1,first,l,r,as,e,h=>by
  rw[Fu]at h;split at h
  .rename_i q a
   cases h
   cases first with
   |true=>have:=f5 a;lia
   |false=>cases a
  .cases d:q3 l with
   |none=>cases d▸h
   |some x=>
    rw[d]at h;simp only[B4]at h;let f:=xX d;split at h
    .rename_i q a;cases h;have:=f5 a;lia
    .cases b:eat (sg ",") x.2 with
     |none=>cases b▸h
     |some q=>
      rw[b]at h;simp only[B4]at h
      let g:=f5 b
      cases c:l3 J q with
      |none=>cases c▸h
      |some y=>cases c▸h;have:=Qf (k:=k) aV c;lia
def JO(n:Nat)(first:Bool)(l:List Tok):params (n+1) first l=match (if first=O then eat (sg ")") l else U)with
  |some r=>Y ([],r)
  |none=>
   (match eat (kw "chan") l with
    |some r=>Y (O,r)
    |none=>(eat (kw "int") l).map λr=>(J,r)).bind λk=>(fu k.2).bind λx=>match eat (sg ")") x.2 with
    |some r=>Y ([(k.1,x.1)],r)
    |none=>(eat (sg ",") x.2).bind λr=>(params n J r).map λ(y:List (Bool×br)×List Tok)=>((k.1,x.1)::y.1,y.2):=by rw[params.eq_def];rfl
set_option tactic.hygienic true in
def JP (h:(match eat (kw "chan") l with
    |some r=>Y (O,r)
    |none=>(eat (kw "int") l).map λr=>(J,r))=Y k):z9 l=z9 k.2+1:=by
 split at h
 .rename_i r b;cases h;show f5 b
 .cases a:eat (kw "int") l with
  |none=>cases a▸h
  |some r=>cases a▸h;show f5 a
theorem Qg:∀(n:Nat) (first:Bool) (l:List Tok),z9 l+1<=n->params n first l=params (n+1) first l
 |0,_,l,h=>by lia
 |n+1,first,l,h=>by
  rw[JO,JO];split
  .rfl
  .show gL λk a=>?_;have:=JP a;show gL λx c=>?_;have:=qc c;split
   .rfl
   .show gL λr b=>?_;have:=f5 b;rw[Qg n J r aV]
def X6{first:Bool}{l:List Tok}(h:z9 l+1<=n)(hm:n<=m):params m first l=params n first l:=by
 induction hm with
 |refl=>rfl
 |step hm a=>rwa[<-Qg _ first l (dK h hm)]
def kd(first:Bool)(l:List Tok):Option (List (Bool×br)×List Tok):=params (z9 l+1) first l
def X7{n:Nat}{first:Bool}{l:List Tok}(h:z9 l+1<=n):params n first l=kd first l:=X6 (bK _) h
def Cp(first:Bool)(l:List Tok):kd first l=match (if first=O then eat (sg ")") l else U)with
  |some r=>Y ([],r)
  |none=>
   (match eat (kw "chan") l with
    |some r=>Y (O,r)
    |none=>(eat (kw "int") l).map λr=>(J,r)).bind λk=>(fu k.2).bind λx=>match eat (sg ")") x.2 with
    |some r=>Y ([(k.1,x.1)],r)
    |none=>(eat (sg ",") x.2).bind λr=>(kd J r).map λ(y:List (Bool×br)×List Tok)=>((k.1,x.1)::y.1,y.2):=by
 unfold kd
 rw[JO]
 split
 .rfl
 .show gL λk a=>?_;have:=JP a;show gL λx c=>?_;have:=qc c;split
  .rfl
  .show gL λr b=>?_;have:=f5 b;rw[X7 aV];rfl
set_option tactic.hygienic true in
theorem JQ:∀{k:Nat}{first:Bool}{l r:List Tok}{as:List (Bool×br)},z9 l<=k->kd first l=Y (as,r)->z9 r<z9 l
 |0,first,l,r,as,b,h=>by have:l=[]:=ut.mp aV;subst this;rw[Cp]at h;cases first<;>simp[eat]at h
 |k+1,first,l,r,as,b,h=>by
  rw[Cp]at h;split at h
  .rename_i q a
   cases h
   cases first with
   |true=>have:=f5 a;lia
   |false=>cases a
  .let#[x,e,h]:=kF.mp h;let i:=JP e;let#[y,d,h]:=kF.mp h;let j:=qc d;split at h
   .rename_i q a;cases h;have:=f5 a;lia
   .let#[q,f,h]:=kF.mp h;let g:=f5 f;let#[z,c,h]:=iW.mp h;cases h;have:=JQ (k:=k) aV c;lia
def Fv(n d:Nat)(l:List Tok):r0 (n+1) d l=match eat (sg "}") l with
  |some r=>Y ([],r)
  |none=>(q5 n d l).bind λx=>(r0 n d x.2).map λy=>(x.1::y.1,y.2):=by rw[stmts.eq_def];rfl
noncomputable def uA(l:List Tok):Option (Option Expr×List Tok):=match eat (sg "(") l with
 |some _=>(pk l).bind λc=>(eat (sg "&") c.2).map λr=>(Y c.1,r)
 |none=>Y (U,l)
noncomputable def rd(l:List Tok):Option (pn×List Tok):=match eat (kw "skip") l with
 |some r=>Y (.nothing,r)
 |none=>(fu l).bind λk=>(eat (sg "?") k.2).bind λr=>(fu r).map λy=>(.from_ k.1 y.1,y.2)
def Fw(n d:Nat)(l:List Tok):rY (n+1) d l=match eat (sg "}") l with
  |some r=>Y ([],r)
  |none=>(uA l).bind λc=>(rd c.2).bind λg=>(eat (sg ":") g.2).bind λr=>(q5 n d r).bind λs=>(rY n d s.2).map λy=>((c.1,g.1,s.1)::y.1,y.2):=by
 rw[branches.eq_def];rfl
def Fx{l r:List Tok}{c:Option Expr}(h:uA l=Y (c,r)):z9 r<=z9 l:=by
 unfold uA at h;split at h
 .let#[x,a,h]:=kF.mp h;let#[q,b,h]:=iW.mp h;cases h;have:=Co a;have:=f5 b;lia
 .cases h;show bK _
set_option tactic.hygienic true in
def Fy(h:rd l=Y (g,r)):z9 r<z9 l:=by
 unfold rd at h;split at h
 .rename_i q b;cases h;have:=f5 b;lia
 .let#[x,c,h]:=kF.mp h;let#[q,d,h]:=kF.mp h;let#[y,a,h]:=iW.mp h;cases h;have:=qc c;have:=f5 d;have:=qc a;lia
noncomputable def r6(x:br):List Tok->Option (Stmt×List Tok)
 |u::r=>
  if u=sg "=" then (q3 r).bind λv=>(eat (sg ";") v.2).map λr=>(.put x v.1,r)
  else if u=sg "!" then (q3 r).bind λv=>(eat (sg ";") v.2).map λr=>(.send x v.1,r)
  else if u=sg "?" then (fu r).bind λy=>(eat (sg ";") y.2).map λr=>(.take x y.1,r)
  else U
 |[]=>U
noncomputable def uB(one:List Tok->Option (Stmt×List Tok))(d:List Tok->Option (List Stmt×List Tok))(e:List Tok->Option (List (Option Expr×pn×Stmt)×List Tok)):List Tok->Option (Stmt×List Tok)
 |[]=>U
 |t::r=>
  if t=sg "{" then (d r).map λx=>(.seq x.1,x.2)
  else if t=kw "par" then (eat (sg "{") r).bind λr=>(d r).map λx=>(.par x.1,x.2)
  else if t=kw "alt" then (eat (sg "{") r).bind λr=>(e r).map λx=>(.alt x.1,x.2)
  else if t=kw "int" then (fu r).bind λx=>(eat (sg ";") x.2).map λr=>(.int x.1,r)
  else if t=kw "chan" then (fu r).bind λx=>(eat (sg ";") x.2).map λr=>(.chan x.1,r)
  else if t=kw "skip" then (eat (sg ";") r).map λr=>(.skip,r)
  else if t=kw "stop" then (eat (sg ";") r).map λr=>(.halt_,r)
  else if t=kw "print" then (q3 r).bind λv=>(eat (sg ";") v.2).map λr=>(.print v.1,r)
  else if t=kw "if" then (pk r).bind λc=>(one c.2).bind λa=>match eat (kw "else") a.2 with
   |some r=>(one r).map λb=>(.if_ c.1 a.1 b.1,b.2)
   |none=>Y (.if_ c.1 a.1 .skip,a.2)
  else if t=kw "while" then (pk r).bind λc=>(one c.2).map λa=>(.while_ c.1 a.1,a.2)
  else if t=kw "run" then (fu r).bind λf=>(eat (sg "(") f.2).bind λr=>(l3 O r).bind λa=>(eat (sg ";") a.2).map λr=>(.run f.1 a.1,r)
  else (uq t).bind λx=>r6 x r
def JR(n d:Nat)(l:List Tok):q5 (n+1) d l=if q2<=d then U else uB (q5 n<|d+1) (r0 n<|d+1) (rY n<|d+1) l:=by
 cases l with
 |nil=>rfl
 |cons t r=>rfl
def cF{α:Type}(k:Nat)(o:Option (α×List Tok)):Prop:=∀s r,o=Y (s,r)->z9 r<k
def cF.nd{α:Type}{k:Nat}{c:Prop}[Decidable c]{a b:Option (α×List Tok)}(d:cF k a)(ae:cF k b):cF k (if c then a else b):=by split<;>assumption
def cF.tc{α:Type}{k:Nat}:cF k (U:Option (α×List Tok)):=λq q h=>nomatch h
def cF.JS(h:z9 l<k):cF k (Y (a,l)):=λq q e=>by cases e;show h
def cF.jQ{α b:Type}{k:Nat}{o:Option α}{f:α->Option (b×List Tok)}(h:∀a,o=Option.some a->cF k (f a)):cF k (o.bind f):=λs r e=>by let#[a,c,d]:=kF.mp e;show h a c s r d
def cF.v5{α b:Type}{k:Nat}{o:Option (α×List Tok)}{f:α×List Tok->b}(h:cF k o):cF k (o.map λx=>(f x,x.2)):=λs r e=>by let#[a,c,d]:=iW.mp e;cases d;show h a.1 a.2 c
def cF.uD{α:Type}{k:Nat}{t:Tok}{l:List Tok}{f:List Tok->α}(h:z9 l<=k):cF k ((eat t l).map λr=>(f r,r)):=λs r e=>by let#[a,b,c]:=iW.mp e;cases c;have:=f5 b;lia
def cF.cI{α:Type}{j k:Nat}{o:Option (α×List Tok)}(h:cF j o)(q:j<=k):cF k o:=λs r e=>eR (h s r e) q
def X8(x:br)(l:List Tok):cF (z9 l) (r6 x l):=by
 cases l with
 |nil=>show cF.tc
 |cons u l=>
  show cF.nd (cF.jQ λv h=>cF.uD ?_)<|cF.nd (cF.jQ λv h=>cF.uD ?_)<|cF.nd (cF.jQ λv h=>cF.uD ?_) cF.tc
  .have:=xX h;simp only[gi];lia
  .have:=xX h;simp only[gi];lia
  .have:=qc h;simp only[gi];lia
set_option tactic.hygienic true in
def X9{d:List Tok->Option (List (Option Expr×pn×Stmt)×List Tok)}(h1:∀l,cF (z9 l) (one l))(g:∀l,cF (z9 l) (many l))(m:∀l,cF (z9 l) (d l))(l:List Tok):cF (z9 l) (uB one many d l):=by
 cases l with
 |nil=>show cF.tc
 |cons t l=>
  let q:(t::l).length=z9 l+1:=rfl;show cF.nd ?_<|cF.nd ?_<|cF.nd ?_<|cF.nd ?_<|cF.nd ?_<|cF.nd ?_<|cF.nd ?_<|cF.nd ?_<|cF.nd ?_<|cF.nd ?_<|cF.nd ?_ ?_
  .show cF.v5<|(g l).cI aV
  .show cF.jQ λr e=>cF.v5 ((g r).cI (by have:=f5 e;lia))
  .show cF.jQ λr e=>cF.v5 ((m r).cI (by have:=f5 e;lia))
  .show cF.jQ λx e=>cF.uD (by have:=qc e;lia)
  .show cF.jQ λx e=>cF.uD (by have:=qc (x:=x.1) e;lia)
  .show cF.uD aV
  .show cF.uD aV
  .show cF.jQ λx e=>cF.uD (by have:=xX e;lia)
  .show cF.jQ λc e=>cF.jQ λa b=>?_;let k:=Co e;let n:=h1 c.2 a.1 a.2 b;split
   .rename_i r j;let i:=f5 j;show cF.v5<|(h1 r).cI aV
   .show cF.JS aV
  .show cF.jQ λc e=>cF.v5 ((h1 c.2).cI (by have:=Co e;lia))
  .show cF.jQ λf e=>cF.jQ λr b=>cF.jQ λa h=>cF.uD ?_;let k:=qc e;let n:=f5 b;let i:=Qf (bK _) h;lia
  .show cF.jQ λx w=>(X8 x l).cI aV
set_option tactic.hygienic true in
theorem xY:∀n:Nat,(∀d l,cF (z9 l) (q5 n d l))/\(∀d l,cF (z9 l) (r0 n d l))/\(∀d l,cF (z9 l) (rY n d l))
 |0=>#[λw w=>by rw[stmt.eq_def];show cF.tc,λw w=>by rw[stmts.eq_def];show cF.tc,λw w=>by rw[branches.eq_def];show cF.tc]
 |n+1=>by
  let#[b,f,h]:=xY n;show#[λd l=>?_,λd l=>?_,λd l=>?_]
  .rw[JR];show cF.nd cF.tc<|X9 (b _) (f _) (h _) l
  .rw[Fv];split
   .rename_i r a;show cF.JS (by have:=f5 a;lia)
   .show cF.jQ λx e=>cF.v5 ((f d x.2).cI (by have:=b d l x.1 x.2 e;lia))
  .rw[Fw];split
   .rename_i r a;show cF.JS (by have:=f5 a;lia)
   .show cF.jQ λc e=>cF.jQ λg j=>cF.jQ λr i=>cF.jQ λs k=>cF.v5<|(h d s.2).cI ?_;let p:=Fx e;let q:=Fy j;let o:=f5 i;let m:=b d r s.1 s.2 k;lia
def mI[Decidable c](h1:a=gw)(d:b=hE):(if c then a else b)=if c then gw else hE:=by rw[h1,d]
set_option tactic.hygienic true in
def Qh
  (ai:∀r,cF (z9 r) (one r)) (h1:∀r,z9 r<z9 l->one r=Ya r) (b:∀r,z9 r<z9 l->many r=Yb r) (g:∀r,z9 r<z9 l->uC r=Yc r):uB one many uC l=uB Ya Yb Yc l:=by
 cases l with
 |nil=>rfl
 |cons t l=>
  let q:(t::l).length=z9 l+1:=rfl;show mI ?_<|mI ?_<|mI ?_<|mI Z<|mI Z<|mI Z<|mI Z<|mI Z<|mI ?_<|mI ?_ Z
  .rw[b l aV]
  .show gL λr e=>by rw[b r (by have:=f5 e;lia)]
  .show gL λr e=>by rw[g r (by have:=f5 e;lia)]
  .show gL λc e=>?_;let i:=Co e;rw[<-h1 c.2 aV];show gL λa d=>?_;let j:=ai c.2 a.1 a.2 d;split
   .rename_i r f;let h:=f5 f;rw[h1 r aV]
   .rfl
  .show gL λc e=>by rw[h1 c.2 (by have:=Co e;lia)]
theorem FA:∀n:Nat,(∀d l,2*z9 l+1<=n->q5 n d l=q5 (n+1) d l)/\(∀d l,2*z9 l+2<=n->r0 n d l=r0 (n+1) d l)/\(∀d l,2*z9 l+2<=n->rY n d l=rY (n+1) d l)
 |0=>#[λw w h=>by lia,λw w h=>by lia,λw w h=>by lia]
 |n+1=>by
  let#[a,b,i]:=FA n;show#[λd l h=>?_,λd l h=>?_,λd l h=>?_]
  .rw[JR,JR];show mI Z<|Qh (λr=>(xY n).1 _ r) (λr f=>a _ r aV) (λr f=>b _ r aV) λr f=>i _ r aV
  .rw[Fv,Fv];split
   .rfl
   .rw[<-a d l aV];show gL λx e=>?_;have:=(xY n).1 d l x.1 x.2 e;rw[b d x.2 aV]
  .rw[Fw,Fw];split
   .rfl
   .show gL λc e=>gL λg k=>gL λr j=>?_;let q:=Fx e;let t:=Fy k;let p:=f5 j;rw[<-a d r aV];show gL λs m=>?_;let o:=(xY n).1 d r s.1 s.2 m;rw[i d s.2 aV]
def Qi(h:2*z9 l+1<=n)(hm:n<=m):q5 m d l=q5 n d l:=by
 induction hm with
 |refl=>rfl
 |step hm a=>rwa[<- (FA _).1 d l (dK h hm)]
def Yd(h:2*z9 l+2<=n)(hm:n<=m):r0 m d l=r0 n d l:=by
 induction hm with
 |refl=>rfl
 |step hm a=>rwa[<- (FA _).2.1 d l (dK h hm)]
def Ye(h:2*z9 l+2<=n)(hm:n<=m):rY m d l=rY n d l:=by
 induction hm with
 |refl=>rfl
 |step hm a=>rwa[<- (FA _).2.2 d l (dK h hm)]
noncomputable def h4(d:Nat)(l:List Tok):Option (Stmt×List Tok):=q5 (2*z9 l+2) d l
noncomputable def hS(d:Nat)(l:List Tok):Option (List Stmt×List Tok):=r0 (2*z9 l+2) d l
def rf(d:Nat)(l:List Tok):Option (List (Option Expr×pn×Stmt)×List Tok):=rY (2*z9 l+2) d l
def Cq(d:Nat)(l:List Tok):cF (z9 l) (h4 d l):=(xY _).1 d l
def Yf(d:Nat)(l:List Tok):cF (z9 l) (hS d l):=(xY _).2.1 d l
def JT(h:2*z9 l+1<=n):q5 n d l=h4 d l:=by
 obtain q|q:=EN n (2*z9 l+2)
 .show(Qi h q).symm
 .show Qi aV q
def JU(h:2*z9 l+2<=n):r0 n d l=hS d l:=Yd (bK _) h
def Qj(h:2*z9 l+2<=n):rY n d l=rf d l:=Ye (bK _) h
def FB(d:Nat)(l:List Tok):h4 d l=if q2<=d then U else uB (h4<|d+1) (hS<|d+1) (rf<|d+1) l:=by show q5 (2*z9 l+1+1) d l=_;show mI Z<|Qh (λr=>(xY _).1 _ r) (λr a=>JT aV) (λr a=>JU aV) λr a=>Qj aV
def FC(d:Nat)(l:List Tok):hS d l=match eat (sg "}") l with
  |some r=>Y ([],r)
  |none=>(h4 d l).bind λx=>(hS d x.2).map λy=>(x.1::y.1,y.2):=by
 show r0 (2*z9 l+1+1) d l=_
 rw[Fv]
 split
 .rfl
 .rw[JT aV];show gL λx e=>?_;have:=Cq d l x.1 x.2 e;rw[JU aV]
def Qk(d:Nat)(l:List Tok):rf d l=match eat (sg "}") l with
  |some r=>Y ([],r)
  |none=>(uA l).bind λc=>(rd c.2).bind λg=>(eat (sg ":") g.2).bind λr=>(h4 d r).bind λs=>(rf d s.2).map λy=>((c.1,g.1,s.1)::y.1,y.2):=by
 show rY (2*z9 l+1+1) d l=_
 rw[Fw]
 split
 .rfl
 .show gL λc e=>gL λg a=>gL λr b=>?_;let h:=Fx e;let i:=Fy a;let k:=f5 b;rw[JT aV];show gL λs f=>?_;let j:=Cq d r s.1 s.2 f;rw[Qj aV]
noncomputable def td(ps:List h3)(l:List Tok):Option (h3×List Tok):=match l with
 |[]=>U
 |t::r=>if t=kw "proc" then (fu r).bind λf=>if (ps.any λp=>p.name==f.1)=O then U else (eat (sg "(") f.2).bind λr=>(kd O r).bind λp=>(eat (sg "{") p.2).bind λr=>(hS 1 r).map λs=>(#[f.1,p.1,.seq s.1],s.2)else U
def JV(n:Nat)(ps:List h3)(l:List Tok):xR (n+1) ps l=match l with
  |[]=>Y ps
  |_::_=>(td ps l).bind λq=>xR n (ps++[q.1]) q.2:=by
 cases l with
 |nil=>rfl
 |cons t r=>
  show(if t=kw "proc" then _ else _)=Jr (if t=kw "proc" then _ else _) _;split
  .rw[E6];show gL λf e=>?_;split
   .rfl
   .rw[E6];show gL λh b=>?_;rw[E6];show gL λp a=>?_;rw[E6];show gL λc d=>?_;let j:=qc e;let k:=f5 b;let i:=JQ (bK _) a;let g:=f5 d;rw[JU (by simp only[gi];lia)];cases hS 1 c<;>rfl
  .rfl
def FD(ps:List h3)(l:List Tok):cF (z9 l) (td ps l):=by
 cases l with
 |nil=>show cF.tc
 |cons t r=>show cF.nd (cF.jQ λf e=>cF.nd cF.tc<|cF.jQ λj a=>cF.jQ λp c=>cF.jQ λb d=>cF.v5<|(Yf 1 b).cI ?_) cF.tc;let g:=qc e;let h:=f5 a;let k:=JQ (bK _) c;let i:=f5 d;simp only[gi];lia
theorem Ql:∀(n:Nat) (ps:List h3) (l:List Tok),z9 l+1<=n->xR n ps l=xR (n+1) ps l
 |0,_,_,h=>by lia
 |n+1,ps,l,h=>by
  rw[JV,JV];split
  .rfl
  .show gL λq e=>?_;have:=FD ps _ q.1 q.2 e;show Ql n _ _ aV
def Yg(h:z9 l+1<=n)(hm:n<=m):xR m ps l=xR n ps l:=by
 induction hm with
 |refl=>rfl
 |step hm a=>rwa[<-Ql _ ps l (dK h hm)]
def oG(ps:List h3)(l:List Tok):Option (List h3):=xR (z9 l+1) ps l
def FE(ps:List h3)(l:List Tok):oG ps l=match l with
  |[]=>Y ps
  |_::_=>(td ps l).bind λq=>oG (ps++[q.1]) q.2:=by
 unfold oG
 rw[JV]
 split
 .rfl
 .show gL λq e=>?_;have:=FD ps _ q.1 q.2 e;show Yg (bK _) aV
noncomputable def te(b:br):Option (Tok×Nat):=match b with
 |[]=>U
 |c::_=>
  if digit c=O then
   (if 10<(b.takeWhile digit).length\/2 ^ 31<=(b.takeWhile digit).foldl (λk x=>10*k+(x-48)) 0 then U
    else Y (.num ((b.takeWhile digit).foldl (λk x=>10*k+(x-48)) 0),(b.takeWhile digit).length))
  else if mE c=O then Y (.name (b.takeWhile λx=>mE x||digit x),(b.takeWhile λx=>mE x||digit x).length)
  else match signs.find? λs=>s.isPrefixOf b with
   |some s=>Y (.sign s,z9 s)
   |none=>U
def v7(c:Nat):Prop:=c=32\/c=9\/c=10
instance (c:Nat):Decidable (v7 c):=by unfold v7;infer_instance
def JW(n:Nat):q4 (n+1) []=Y []:=by rw[tokens.eq_def]
def JX(n c:Nat)(r:br):q4 (n+1) (c::r)=
  if v7 c then q4 n r else if c=35 then q4 n (r.dropWhile λx=>x != 10)
  else (te (c::r)).bind λt=>(q4 n<|(c::r).drop t.2).map λl=>t.1::l:=by
 show mI Z<|mI Z ?_
 show(if digit c=O then _ else _)=Jr (if digit c=O then _ else _) _
 split
 .show(if _ then U else _)=Jr (if _ then U else _) _;split<;>rfl
 .split
  .rfl
  .split
   .rename_i s ai;rw[ai];rfl
   .rename_i ai;rw[ai];rfl
def Qm(h:s∈signs):0<z9 s:=by
 have:∀s∈signs,0<z9 s:=by decide
 show this s h
set_option tactic.hygienic true in
def JY(h:te b=Y (t,k)):0<k:=by
 cases b with
 |nil=>cases h
 |cons c r=>
  unfold te at h;split at h
  .rename_i e;cases e
  .rename_i f g e;cases e;split at h
   .rename_i a;split at h
    .cases h
    .cases h;rw[vR,aR a];simp
   .split at h
    .rename_i d;cases h;rw[vR,aR (by rw[d];rfl)];simp
    .split at h
     .rename_i s ai;cases h;show Qm<|xS ai
     .cases h
theorem JZ(p:Nat->Bool):∀l:List Nat,(l.dropWhile p).length<=z9 l
 |[]=>bK _
 |a::l=>by
  rw[O4];split
  .have:=JZ p l;simp only[gi];lia
  .show bK _
theorem FF:∀(n:Nat) (b:br),z9 b+1<=n->q4 n b=q4 (n+1) b
 |0,_,h=>by lia
 |n+1,[],h=>by rw[JW,JW]
 |n+1,c::r,h=>by simp only[gi]at h;rw[JX,JX,FF n r aV,FF n (r.dropWhile λx=>x != 10) (by have:=JZ (λx=>x != 10) r;lia)];show mI Z<|mI Z<|gL λt a=>?_;have:=JY a;rw[FF n _ (by rw[ho];simp only[gi];lia)]
def Yh(h:z9 b+1<=n)(hm:n<=m):q4 m b=q4 n b:=by
 induction hm with
 |refl=>rfl
 |step hm a=>rwa[<-FF _ b (dK h hm)]
def jR(b:br):Option (List Tok):=q4 (z9 b+1) b
def J0(h:z9 b+1<=n):q4 n b=jR b:=Yh (bK _) h
def J1:jR []=Y []:=JW _
def Cr(c:Nat)(r:br):jR (c::r)=
  if v7 c then jR r else if c=35 then jR (r.dropWhile λx=>x != 10)
  else (te (c::r)).bind λt=>(jR<|(c::r).drop t.2).map λl=>t.1::l:=by
 show q4 (z9 r+1+1) (c::r)=_
 rw[JX,J0<|bK _,J0 (by have:=JZ (λx=>x != 10) r;lia)]
 show mI Z<|mI Z<|gL λt a=>?_
 have:=JY a
 rw[J0 (by rw[ho];simp only[gi];lia)]
def hT:Bool->br->Nat
 |_,[]=>0
 |rem,c::r=>if c=35 then hT O r+1 else if c=10 then hT J r+1 else if rem=J/\c≠32/\c≠9 then 0 else hT rem r+1
theorem Cs:∀(rem:Bool) (b:br),hT rem b<=z9 b
 |_,[]=>bK _
 |rem,c::r=>by
  let d:=Cs O r;let e:=Cs J r;let a:=Cs rem r;unfold hT;simp only[gi];repeat' split
  all_goals lia
theorem FG:∀(b:br),jR b=jR (b.drop<|hT J b)/\jR (b.dropWhile λx=>x != 10)=jR (b.drop<|hT O b)
 |[]=>#[Z,Z]
 |c::r=>by
  let#[d,a]:=FG r;constructor
  .unfold hT;split
   .rename_i h;subst h;rw[Cr,aM cn,aR Z,a];rfl
   .split
    .rename_i h;subst h;rw[Cr,aR cn,d];rfl
    .split
     .rfl
     .rename_i i f g;have:c=32\/c=9:=by
       by_cases q:c=32
       .show .inl q
       .by_cases e:c=9
        .show .inr e
        .show a8 #[Z,q,e] g
      rw[Cr,aR (by obtain q|q:=this<;>simp[v7,q]),d];rfl
  .unfold hT;rw[O4];split
   .rename_i h;split
    .rw[a];rfl
    .split
     .rename_i f;subst f;show a8 h cn
     .rw[aM bg,a];rfl
   .rename_i h;have:c=10:=by simpa using h
    subst this;rw[aM cn,aR Z,Cr,aR cn,d];rfl
theorem z1:∀(rem:Bool) (b:br) (c:Nat) (r:br),b.drop (hT rem b)=c::r->¬v7 c/\c≠35
 |_,[],c,r,h=>by simp[hT]at h
 |rem,a::b,c,r,h=>by
  unfold hT at h;split at h
  .show z1 O b c r h
  .split at h
   .show z1 J b c r h
   .split at h
    .rename_i e f d;cases h;show#[λq=>by obtain q|q|q:=q;show d.2.1 q;show d.2.2 q;show f q,e]
    .show z1 rem b c r h
def Qn(h:¬v7 c/\c≠35):jR (c::r)=(te (c::r)).bind λt=>(jR<|(c::r).drop t.2).map λl=>t.1::l:=by rw[Cr,aM h.1,aM h.2]
def Yi(b:br):zJ b=((jR b).bind λl=>oG [] l).bind λps=>match ps.find? λp=>p.name==l0 with
  |some p=>if p.params.isEmpty=O then Y ps else U
  |none=>none:=rfl
noncomputable def J2(o:Nat)(u v:Int):Except Bad Int:=
 if o<=1 then .ok (bool<|v != 0)
 else if o=2 then .ok (bool<|u==v)else if o=3 then .ok (bool<|u != v)else if o=4 then .ok (bool<|decide<|u<v)else if o=5 then .ok (bool<|decide<|u<=v)else if o=6 then .ok (bool<|decide<|v<u)else if o=7 then .ok (bool<|decide<|v<=u)
 else if o=8 then .ok (rZ<|u+v)else if o=9 then .ok (rZ<|u-v)else if o=10 then .ok (rZ<|u*v)
 else if v=0 then .error .zero else if o=11 then .ok (rZ<|u.tdiv v)else .ok (u.tmod v)
def nZ(o:Nat)(u:Int)(a:Except Bad Int):Except Bad Int:=
 if o=0/\u≠0 then .ok 1 else if o=1/\u=0 then .ok 0 else a.bind λv=>J2 o u v
def ev(c:br->Option Int):Expr->Except Bad Int
 |.num k=>.ok k
 |.var y=>match c y with
  |some v=>.ok v
  |none=>.error .name
 |.not a=>(ev c a).map λv=>bool<|v==0
 |.minus a=>(ev c a).map λv=>rZ<|-v
 |.bin o a b=>(ev c a).bind λu=>nZ o u<|ev c b
def hF:Expr->Nat
 |.num _=>1
 |.var _=>1
 |.not a=>hF a+1
 |.minus a=>hF a+1
 |.bin _ a b=>max (hF a) (hF b)+1
noncomputable def z2(a:List Int)(e:Env)(y:br):Option Int:=match cellOf e y with
 |.ok k=>Y<|a.getD k 0
 |.error _=>U
def Yj(h:cellOf e y=.error b):b=.name:=by
 unfold cellOf at h;split at h
 .cases h
 .cases h;rfl
theorem Ct(c:List Int)(e:Env):∀(n:Nat) (x:Expr),hF x<=n->value c e n x=ev (z2 c e) x
 |0,x,h=>by cases x<;>simp[hF]at h
 |n+1,x,h=>by
  cases x with
  |num k=>rfl
  |var y=>
   show(cellOf e y).map _=match z2 c e y with
    |some v=>.ok v
    |none=>.error .name
   unfold z2
   cases q:cellOf e y with
   |ok k=>rfl
   |error b=>rw[Yj q];rfl
  |not a=>have:=Ct c e n a (by simp only[hF]at h;lia);show(value c e n a).map _=(ev _ a).map _;rw[this]
  |minus a=>have:=Ct c e n a (by simp only[hF]at h;lia);show(value c e n a).map _=(ev _ a).map _;rw[this]
  |bin o a b=>show(value c e n a).bind _=(ev _ a).bind _;rw[(Ct c e n a (by simp only[hF]at h;lia)),(Ct c e n b (by simp only[hF]at h;lia))];rfl
def v8(a:Expr)(l:List (Nat×Expr)):Expr:=l.foldl (λx p=>.bin p.1 x p.2) a
def FH(a:br->Option Int):Except Bad Int->List (Nat×Expr)->Except Bad Int
 |r,[]=>r
 |r,p::l=>FH a (r.bind λu=>nZ p.1 u<|ev a p.2) l
theorem Qo(b:br->Option Int):∀(l:List (Nat×Expr)) (a:Expr),ev b (v8 a l)=FH b (ev b a) l
 |[],_=>rfl
 |p::l,a=>Qo b l<|.bin p.1 a p.2
set_option tactic.hygienic true in
def Yk:∀n:Nat,
  (∀d p l e r,expr n d p l=Y (e,r)->hF e+z9 r<=z9 l)/\
  (∀d p a l e r,more n d p a l=Y (e,r)->hF e+z9 r<=hF a+z9 l)/\
  (∀d l e r,l1 n d l=Y (e,r)->hF e+z9 r<=z9 l):=by
 intro n
 induction n with
 |zero=>
  show#[λd p l e r h=>?_,λd p a l e r h=>?_,λd l e r h=>?_]
  .simp[expr]at h
  .simp[more]at h
  .simp[l1]at h
 |succ n m=>
  let#[i,j,g]:=m;show#[λd p l e r h=>?_,λd p a l e r h=>?_,λd l e r h=>?_]
  .rw[zZ]at h;let#[x,f,c]:=kF.mp h;let v:=g d l x.1 x.2 f;let k:=j d p x.1 x.2 e r c;lia
  .rw[Cn]at h;split at h
   .rename_i s y;split at h
    .rename_i o z;let#[b,f,c]:=kF.mp h;let v:=i _ _ _ b.1 b.2 f;let k:=j _ _ _ _ e r c;simp only[gi,hF]at k ⊢;lia
    .cases h;show bK _
   .cases h;show bK _
  .rw[z0]at h;split at h
   .cases h
   .split at h
    .cases h;simp[hF];lia
    .rename_i t y _;split at h
     .let#[x,f,c]:=iW.mp h;cases c;have:=g _ _ x.1 x.2 f;simp only[gi,hF];lia
     .split at h
      .let#[x,f,c]:=iW.mp h;cases c;have:=g _ _ x.1 x.2 f;simp only[gi,hF];lia
      .split at h
       .let#[x,f,c]:=kF.mp h;let#[q,w,u]:=iW.mp c;cases u;have:=i _ _ _ x.1 x.2 f;have:=f5 w;simp only[gi];lia
       .let#[x,f,c]:=iW.mp h;cases c;simp only[gi,hF];lia
    .cases h
def J3(h:gj d p l=Y (e,r)):hF e+z9 r<=z9 l:=(Yk _).1 _ _ _ _ _ h
set_option genCtorIdx true in
inductive ba where
 |cA (n:Nat)|gx (s:Nat)|jS (s:Nat)|n0
 |mJ (a:ba)|n1 (a:ba)
 |k4 (first:ba) (links:List (Nat×ba))
set_option genCtorIdx true in
inductive hG where
 |d3|du (c x:Option Nat)
set_option genCtorIdx true in
mutual
inductive cJ where
 |d3|oH|qe
 |r7 (s:Nat) (e:ba)
 |h5 (c:Nat) (e:ba)|du (c x:Nat)
 |l4 (e:ba)
 |hH (f:br) (args:List ba)
 |l5 (c:ba) (a b:cJ)
 |h6 (c:ba) (a:cJ)
 |oI (l:List ja)
 |gl (l:List cJ)
 |k5 (l:List (ba×hG×cJ))
inductive ja where
 |gx (s:Nat)|aH (s:Nat)|cq (x:cJ)
end
abbrev Sc:=br->Option (Bool×Nat)
def Sc.gm(sc:Sc)(x:br)(k:Bool×Nat):Sc:=λy=>if y=x then Y k else sc y
def Sc.of(sc:Sc)(a:Bool)(x:br):Option Nat:=match sc x with
 |some (k,s)=>if k=a then Y s else U
 |none=>U
mutual
inductive ke(sc:Sc):Expr->ba->Prop where
 |cA (n:Nat):ke sc (.num n) (.cA n)
 |gx {y:br}{s:Nat}:sc.of J y=Y s->ke sc (.var y) (.gx s)
 |jS {y:br}{s:Nat}:sc.of O y=Y s->ke sc (.var y) (.jS s)
 |n0 {y:br}:sc y=U->ke sc (.var y) .n0
 |mJ {a:Expr}{x:ba}:ke sc a x->ke sc (.minus a) (.mJ x)
 |n1 {a:Expr}{x:ba}:ke sc a x->ke sc (.not a) (.n1 x)
 |k4 {a:Expr}{x:ba}{l:List (Nat×Expr)}{m:List (Nat×ba)}:ke sc a x->rg sc l m->m≠[]->ke sc (v8 a l) (.k4 x m)
inductive rg(sc:Sc):List (Nat×Expr)->List (Nat×ba)->Prop where
 |dg:rg sc [] []
 |cB {o:Nat}{a:Expr}{x:ba}{l:List (Nat×Expr)}{m:List (Nat×ba)}:ke sc a x->rg sc l m->rg sc ((o,a)::l) ((o,x)::m)
end
noncomputable def eJ:ba->Nat
 |.cA n=>if n<2147483648 then 1 else 1000
 |.gx _=>1
 |.jS _=>1
 |.n0=>1
 |.mJ a=>eJ a+1
 |.n1 a=>eJ a+1
 |.k4 f l=>max (eJ f) (qf l)+1
where
 qf:List (Nat×ba)->Nat
 |[]=>0
 |(_,a)::l=>max (eJ a+1)<|qf l
inductive qg(sc:Sc):List Expr->List ba->Prop where
 |dg:qg sc [] []
 |cB {a:Expr}{x:ba}{l:List Expr}{m:List ba}:ke sc a x->hF a<=i8/\eJ x<=201->qg sc l m->qg sc (a::l) (x::m)
def lD(sc:Sc)(e:Expr)(x:ba):Prop:=ke sc e x/\hF e<=i8/\eJ x<=201
def Cu(sc:Sc):pn->hG->Prop
 |.nothing,.d3=>True
 |.from_ c x,.du a b=>sc.of O c=a/\sc.of J x=b
 |_,_=>False
def z3:Stmt->Bool
 |.int _=>J
 |.chan _=>J
 |_=>O
mutual
inductive gM:Sc->Nat->Stmt->cJ->Nat->Prop where
 |d3 {sc n}:gM sc n .skip .d3 n
 |Qp {sc n y}:gM sc n (.int y) .d3 n
 |aH {sc n y}:gM sc n (.chan y) .d3 n
 |oH {sc n}:gM sc n .halt_ .oH n
 |gm {sc n y v s x}:sc.of J y=Y s->lD sc v x->gM sc n (.put y v) (.r7 s x) n
 |Qq {sc n y v}:sc.of J y=U->gM sc n (.put y v) .qe n
 |h5 {sc n y v s x}:sc.of O y=Y s->lD sc v x->gM sc n (.send y v) (.h5 s x) n
 |Qr {sc n y v}:sc.of O y=U->gM sc n (.send y v) .qe n
 |du {sc n y z s t}:sc.of O y=Y s->sc.of J z=Y t->gM sc n (.take y z) (.du s t) n
 |Qs {sc n y z}:(sc.of O y=U\/sc.of J z=U)->gM sc n (.take y z) .qe n
 |l4 {sc n v x}:lD sc v x->gM sc n (.print v) (.l4 x) n
 |hH {sc n f as xs}:qg sc as xs->gM sc n (.run f as) (.hH f xs) n
 |l5 {sc n cb n2 c e4 a h7 b J4}:lD sc c e4->gM sc n a h7 cb->gM sc cb b J4 n2->gM sc n (.if_ c a b) (.l5 e4 h7 J4) n2
 |h6 {sc n cb c e4 a h7}:lD sc c e4->gM sc n a h7 cb->gM sc n (.while_ c a) (.h6 e4 h7) cb
 |oI {sc n cb l cR}:mK sc n l cR cb->gM sc n (.seq l) (.oI cR) cb
 |gl {sc n cb l cR}:pw sc n l cR cb->gM sc n (.par l) (.gl cR) cb
 |k5 {sc n cb l cR}:qh sc n l cR cb->gM sc n (.alt l) (.k5 cR) cb
inductive mK:Sc->Nat->List Stmt->List ja->Nat->Prop where
 |dg {sc n}:mK sc n [] [] n
 |gx {sc n cb y l cR}:mK (sc.gm y (J,n)) (n+1) l cR cb->mK sc n (.int y::l) (.gx n::cR) cb
 |aH {sc n cb y l cR}:mK (sc.gm y (O,n)) (n+1) l cR cb->mK sc n (.chan y::l) (.aH n::cR) cb
 |cq {sc n cb n2 t x l cR}:z3 t=O->gM sc n t x cb->mK sc cb l cR n2->mK sc n (t::l) (.cq x::cR) n2
inductive pw:Sc->Nat->List Stmt->List cJ->Nat->Prop where
 |dg {sc n}:pw sc n [] [] n
 |cB {sc n cb n2 t x l cR}:gM sc n t x cb->pw sc cb l cR n2->pw sc n (t::l) (x::cR) n2
inductive qh:Sc->Nat->List (Option Expr×pn×Stmt)->List (ba×hG×cJ)->Nat->Prop where
 |dg {sc n}:qh sc n [] [] n
 |cB {sc n cb n2 c e4 g fW t x l cR}:(match c with|none=>e4=.cA 1|some e=>lD sc e e4)->Cu sc g fW->gM sc n t x cb->qh sc cb l cR n2->qh sc n ((c,g,t)::l) ((e4,fW,x)::cR) n2
end
def ew(fr:Nat->Option Int):ba->Except Bad Int
 |.cA n=>.ok n
 |.gx s=>match fr s with
  |some v=>.ok v
  |none=>.error .name
 |.jS _=>.error .name
 |.n0=>.error .name
 |.mJ a=>(ew fr a).map λv=>rZ<|-v
 |.n1 a=>(ew fr a).map λv=>bool<|v==0
 |.k4 f l=>tf fr (ew fr f) l
where
 tf (fr:Nat->Option Int):Except Bad Int->List (Nat×ba)->Except Bad Int
 |r,[]=>r
 |r,(o,a)::l=>tf fr (r.bind λu=>nZ o u<|ew fr a) l
set_option tactic.hygienic true in
def Sc.Qt{sc:Sc}(h:sc.of O y=Y s):sc y=Y (O,s):=by
 unfold Sc.of at h;split at h
 .rename_i k t e;split at h
  .rename_i q;cases h;rw[e,q]
  .cases h
 .cases h
set_option tactic.hygienic true in
def Sc.FI{sc:Sc}(h:sc.of J y=Y s):sc y=Y (J,s):=by
 unfold Sc.of at h;split at h
 .rename_i k t e;split at h
  .rename_i q;cases h;rw[e,q]
  .cases h
 .cases h
def Sc.tg{sc:Sc}(h:sc y=Y (k,s)):sc.of b y=if k=b then Y s else none:=by unfold Sc.of;rw[h]
def Sc.FJ{sc:Sc}(h:sc y=U):sc.of b y=none:=by unfold Sc.of;rw[h]
def Yl{sc:Sc}(b:∀y,g y=(sc.of J y).bind fr){e:Expr}{x:ba}(h:ke sc e x):ew fr x=ev g e:=by
 apply ke.rec (motive_1:=λe x q=>ew fr x=ev g e) (motive_2:=λl m q=>∀r,ew.tf fr r m=FH g r l) (t:=h)
 .intro n;rfl
 .intro y s h;show(match fr s with|some v=>kG v|none=>B9 Cm)=match g y with|some v=>kG v|none=>B9 Cm
  rw[b y,h];rfl
 .intro y c h;show _=match g y with|some v=>kG v|none=>B9 Cm
  rw[b y,Sc.tg<|Sc.Qt h];rfl
 .intro y h;show _=match g y with|some v=>kG v|none=>B9 Cm
  rw[b y,Sc.FJ h];rfl
 .intro a x q i;show(ew fr x).map _=(ev g a).map _;rw[i]
 .intro a x q i;show(ew fr x).map _=(ev g a).map _;rw[i]
 .intro a x l m q q q i j;show ew.tf fr (ew fr x) m=_;rw[Qo,i,j]
 .intro r;rfl
 .intro o a x l m q q i j r;show ew.tf fr (r.bind λu=>nZ o u<|ew fr x) m=FH g (r.bind λu=>nZ o u<|ev g a) l;rw[i,j]
set_option genCtorIdx true in
inductive kH where
 |cq (x:cJ)|fw (l:List ja)
structure fG where
 a6:List (kH×Nat)
 cp:Bool
 hp:Option Nat
 ey:Nat
 bI:List Nat
structure FK where
 ep:List (Nat×Int)
 dn:List (Nat×Nat×Nat×Option cJ)
set_option genCtorIdx true in
inductive oJ where
 |cA (v:Int)|aH (c:Nat)
abbrev jw:=Nat->Option oJ
structure aA where
 az:Nat
 ag:Nat->fG
 a9:Nat
 aH:Nat->FK
 a5:Nat
 a0:Nat->jw
 b5:List Nat
 d4:Nat
 c3:Nat
 cg:br
 fx:Nat
noncomputable def aF{α:Type}(f:Nat->α)(i:Nat)(v:α):Nat->α:=λk=>if k=i then v else f k
def bE(f:Nat->α)(i:Nat)(v:α):aF f i v i=v:=aR Z
def bC(f:Nat->α)(v:α)(h:k≠i):aF f i v k=f k:=aM h
structure kI where
 lE:br
 gn:List Bool
 jb:cJ
noncomputable def uE:Bad->Int
 |.name=>-11
 |.zero=>-12
 |.many=>-13
namespace aA
def dU(m:aA)(i:Nat)(t:fG):aA:={m with ag:=aF m.ag i t}
def n3(m:aA)(c:Nat)(k:FK):aA:={m with aH:=aF m.aH c k}
def hI(m:aA)(f s:Nat)(v:oJ):aA:={m with a0:=aF m.a0 f λt=>if t=s then Y v else m.a0 f t}
def eh(m:aA)(i:Nat)(j:kH×Nat):aA:=m.dU i {m.ag i with a6:=j::(m.ag i).a6}
def fK(m:aA)(i:Nat):aA:=m.dU i {m.ag i with cp:=J}
def oK(m:aA)(i:Nat):aA:={m.dU i {m.ag i with cp:=O}with b5:=m.b5++[i]}
def cA(m:aA)(f s:Nat):Option Int:=match m.a0 f s with
 |some (.cA v)=>Y v
 |_=>U
noncomputable def hU(m:aA)(f s:Nat):Nat:=match m.a0 f s with
 |some (.aH c)=>c
 |_=>0
def ev(m:aA)(f:Nat)(x:ba):Except Int Int:=match ew (m.cA f) x with
 |.ok v=>.ok v
 |.error b=>.error<|uE b
def Cv(m:aA)(j:Nat):aA:=
 {m with aH:=λc=>if c∈(m.ag j).bI then {m.aH c with dn:=(m.aH c).dn.filter λt=>t.1 != j}else m.aH c,ag:=aF m.ag j {m.ag j with bI:=[]}}
def h5(m:aA)(i c:Nat)(v:Int):aA:=match (m.aH c).dn with
 |[]=>(m.n3 c {m.aH c with ep:=(m.aH c).ep++[(i,v)]}).fK i
 |(j,f,s,st)::_=>
  let a:=(m.Cv j).hI f s<|.cA v
  let b:=match st with
   |some x=>a.eh j (.cq x,f)
   |none=>a
  b.oK j
def hJ(m:aA)(c f s:Nat):Option aA:=match (m.aH c).ep with
 |[]=>U
 |(j,v)::r=>Y<|((m.n3 c {m.aH c with ep:=r}).hI f s<|.cA v).oK j
def jc(m:aA)(i c f s:Nat)(st:Option cJ):aA:=
 let a:=m.fK i
 if (a.aH c).dn.any (λt=>t.1==i)=O then a
 else (a.n3 c {a.aH c with dn:=(a.aH c).dn++[(i,f,s,st)]}).dU i {a.ag i with bI:=(a.ag i).bI++[c]}
def nf(m:aA)(i:Nat):aA:=
 let a:={m with d4:=m.d4+1}
 match (m.ag i).hp with
 |none=>a
 |some p=>
  let t:=a.ag p
  let b:=a.dU p {t with ey:=t.ey-1}
  if t.ey-1=0 then b.oK p else b
def ih(m:aA)(f:Nat):Nat->List Bool->List ba->jw->Except Int (aA×jw)
 |k,O::b,a::as,fr=>match a with
  |.jS s=>match m.a0 f s with
   |some v=>ih m f (k+1) b as λt=>if t=k then Y v else fr t
   |none=>.error<|-11
  |_=>.error<|-11
 |k,J::b,a::as,fr=>(m.ev f a).bind λv=>if m.c3=1000000 then .error (-13)else ih {m with c3:=m.c3+1} f (k+1) b as (λt=>if t=k then Y (.cA v)else fr t)
 |_,_,_,fr=>.ok (m,fr)
def px(m:aA)(f:Nat):List (ba×hG×cJ)->Except Int (List<|ba×hG×cJ)
 |[]=>.ok []
 |b::l=>(m.ev f b.1).bind λv=>(px m f l).map λr=>if v≠0 then b::r else r
def jT:List (ba×hG×cJ)->Bool
 |[]=>O
 |(_,.du U _,_)::_=>J
 |(_,.du _ U,_)::_=>J
 |_::l=>jT l
def hV(m:aA)(f:Nat):List (ba×hG×cJ)->Option (aA×cJ)
 |[]=>U
 |(_,.d3,x)::_=>Y (m,x)
 |(_,.du (Y c)<|Y y,x)::l=>match m.hJ (m.hU f c) f y with
  |some a=>Y (a,x)
  |none=>hV m f l
 |_::l=>hV m f l
def kf(m:aA)(i f:Nat):List (ba×hG×cJ)->aA
 |[]=>m
 |(_,.du (Y c)<|Y y,x)::l=>kf (m.jc i (m.hU f c) f y<|Y x) i f l
 |_::l=>kf m i f l
noncomputable def uF(a:Nat->fG)(n i f:Nat)(l:List cJ):Nat->fG:=λk=>
 if k<n then a k else match l[k-n]? with
  |some x=>#[[(.cq x,f)],O,Y i,0,[]]
  |none=>a k
def l6(ps:List kI)(m:aA)(i:Nat)(f:Nat):cJ->Except Int aA
 |.d3=>.ok m
 |.oH=>.ok<|m.fK i
 |.qe=>.error<|-11
 |.r7 s e=>(m.ev f e).map λv=>m.hI f s<|.cA v
 |.h5 c e=>(m.ev f e).map λv=>m.h5 i (m.hU f c) v
 |.du c y=>match m.hJ (m.hU f c) f y with
  |some d=>.ok d
  |none=>.ok<|m.jc i (m.hU f c) f y U
 |.l4 e=>(m.ev f e).bind λv=>if 1048576<z9 m.cg+(h2 v++[10]).length then .error (-13)else .ok {m with cg:=m.cg++(h2 v++[10])}
 |.hH g as=>match ps.find? λp=>p.lE==g with
  |none=>.error<|-11
  |some p=>(m.ih f 0 p.gn as λq=>U).bind λr=>if z9 p.gn≠z9 as then .error (-11)
   else .ok ({r.1 with a5:=r.1.a5+1,a0:=aF r.1.a0 r.1.a5 r.2}.eh i (.cq p.jb,r.1.a5))
 |.l5 c a b=>(m.ev f c).map λv=>m.eh i (.cq (if v≠0 then a else b),f)
 |.h6 c a=>(m.ev f c).map λv=>if v≠0 then (m.eh i (.cq<|.h6 c a,f)).eh i (.cq a,f)else m
 |.oI l=>.ok<|m.eh i (.fw l,f)
 |.gl l=>if l=[]then .ok m else if 4096<m.az+z9 l then .error (-13)else
  .ok {m with az:=m.az+z9 l,b5:=m.b5++(gK (z9 l)).map (λk=>m.az+k),ag:=aF (uF m.ag m.az i f l) i {m.ag i with ey:=z9 l,cp:=J}}
 |.k5 l=>(m.px f l).bind λr=>if jT r=J then .error (-11)else match m.hV f r with
  |some (d,x)=>.ok<|d.eh i (.cq x,f)
  |none=>.ok<|(m.fK i).kf i f r
noncomputable def th(ps:List kI)(m:aA)(i:Nat):Except Int aA:=
 if 512<(m.ag i).a6.length then .error (-13)else match (m.ag i).a6 with
 |[]=>.ok m
 |(j,f)::aT=>
  let a:=m.dU i {m.ag i with a6:=aT}
  match j with
  |.fw []=>.ok a
  |.fw (.gx s::l)=>if m.c3=1000000 then .error (-13)else .ok {(a.eh i (.fw l,f)).hI f s (.cA 0)with c3:=m.c3+1}
  |.fw (.aH s::l)=>if m.a9=1000000 then .error (-13)else .ok {(a.eh i (.fw l,f)).hI f s (.aH m.a9)with a9:=m.a9+1,aH:=aF m.aH m.a9 #[[],[]]}
  |.fw (.cq x::l)=>.ok<|(a.eh i (.fw l,f)).eh i (.cq x,f)
  |.cq x=>if m.fx=0 then .error (-5)else l6 ps {a with fx:=m.fx-1} i f x
end aA
structure fh where
 f:Nat
 sc:Sc
 n:Nat
 n':Nat
def fh.kJ(p:fh)(s:Nat):Prop:=∃y k,p.sc y=Y (k,s)
def fh.pz(p:fh)(s:Nat):Prop:=p.n<=s/\s<p.n'
def ng(p q:fh):Prop:=p.f=q.f->∀s,p.pz s->¬q.kJ s
def nh(p q:fh):Prop:=p.f=q.f->∀s,(p.pz s->¬q.kJ s/\¬q.pz s)/\(q.pz s->¬p.kJ s)
def Within(q p:fh):Prop:=q.f=p.f/\p.n<=q.n/\q.n'<=p.n'/\∀s,q.kJ s->p.kJ s\/p.pz s
def Within.hW(p:fh):Within p p:=#[Z,bK _,bK _,λq h=>.inl h]
theorem Within.pz(w:Within q p)(h:q.pz s):p.pz s:=#[dK w.2.1 h.1,eR h.2 w.2.2.1]
def Within.bw(a:Within r q)(b:Within q p):Within r p:=
 #[a.1.trans b.1,dK b.2.1 a.2.1,dK a.2.2.1 b.2.2.1,λs h=>(a.2.2.2 s h).elim (λz=>b.2.2.2 s z) λz=>.inr<|b.pz z]
def ng.uG(w:Within q p)(h:ng p r):ng q r:=λe s o=>h (w.1.symm.trans e) s<|w.pz o
def nh.Cw(h:nh p q):nh q p:=λe s=>by let#[a,b]:=h e.symm s;show#[λo=>#[b o,λc=>(a c).2 o],λo=>(a o).1]
def nh.uG(w:Within q p)(h:nh p r):nh q r:=λe s=>by let#[a,b]:=h (w.1.symm.trans e) s;show#[λo=>a<|w.pz o,λo v=>(w.2.2.2 s v).elim (b o) λz=>(a z).2 o]
def nh.Qu(w:Within q p)(h:nh r p):nh r q:=(h.Cw.uG w).Cw
def nh.Cx(h:p.f≠q.f):nh p q:=λe=>a8 e h
def ng.Cx(h:p.f≠q.f):ng p q:=λe=>a8 e h
abbrev ti:=Nat->Nat->Option vP
def ha(a:ti)(e:Env)(p:fh):Prop:=
 (∀y,match e.find? λq=>q.1==y with
  |some (_,.cell k)=>∃s,p.sc y=Y (J,s)/\a p.f s=Y (.cell k)
  |some (_,.chan c)=>∃s,p.sc y=Y (O,s)/\a p.f s=Y (.chan c)
  |none=>p.sc y=U)/\∀s,p.kJ s->s<p.n
def ha.gx(h:ha ci e p)(q:p.sc.of J y=Y s):∃k,cellOf e y=.ok k/\ci p.f s=Y (.cell k):=by
 let q:=Sc.FI q;have:=h.1 y;unfold cellOf;split at this
 .rename_i k d;let#[g,a,b]:=this;cases q▸a;rw[d];show#[k,Z,b]
 .rename_i c d;let#[g,a,b]:=this;cases q▸a
 .cases q▸this
def ha.aH(h:ha ci e p)(q:p.sc.of O y=Y s):∃c,oC e y=.ok c/\ci p.f s=Y (.chan c):=by
 let q:=Sc.Qt q;have:=h.1 y;unfold oC;split at this
 .rename_i k d;let#[g,a,b]:=this;cases q▸a
 .rename_i c d;let#[g,a,b]:=this;cases q▸a;rw[d];show#[c,Z,b]
 .cases q▸this
set_option tactic.hygienic true in
def ha.FL(h:ha ci e p)(q:p.sc.of J y=U):cellOf e y=.error .name:=by
 have:=h.1 y;unfold cellOf;split at this
 .rename_i k d;let#[f,a,b]:=this;cases (Sc.tg a)▸q
 .rename_i c d;rw[d]
 .rename_i d;rw[d]
set_option tactic.hygienic true in
def ha.Cy(h:ha ci e p)(q:p.sc.of O y=U):oC e y=.error .name:=by
 have:=h.1 y;unfold oC;split at this
 .rename_i k d;rw[d]
 .rename_i c d;let#[f,a,b]:=this;cases (Sc.tg a)▸q
 .rename_i d;rw[d]
def gp(c:ti)(f s:Nat)(x:vP):ti:=λa b=>if a=f/\b=s then Y x else c a b
def Qv(a:ti)(f s:Nat)(x:vP):gp a f s x f s=Y x:=aR #[Z,Z]
def v9(h:¬ (a=f/\b=s)):gp ci f s x a b=ci a b:=aM h
set_option tactic.hygienic true in
def ha.gp(h:ha ci e p)(n:p.f=f->¬p.kJ s):ha (gp ci f s x) e p:=by
 show#[λy=>?_,h.2];have:=h.1 y;split at this
 .rename_i k c;let#[t,a,b]:=this;show#[t,a,?_];rw[v9 λz=>n z.1 #[y,_,by rwa[<-z.2]]];show b
 .rename_i k c;let#[t,a,b]:=this;show#[t,a,?_];rw[v9 λz=>n z.1 #[y,_,by rwa[<-z.2]]];show b
 .show this
def xZ:vP->Bool
 |.cell _=>J
 |.chan _=>O
theorem ha.gm(h:ha ci e p)(lt:p.n<p.n'):
  ha (Ho.gp ci p.f p.n x) ((y,x)::e) #[p.f,p.sc.gm y (xZ x,p.n),p.n+1,p.n']:=by
 show#[λz=>?_,λs ai=>?_]
 .by_cases q:z=y
  .subst q
   let i:((z,x)::e).find? (λq=>q.1==z)=Y (z,x):=by simp
   rw[i]
   cases x with
   |cell k=>show#[p.n,aR Z,Qv ..]
   |chan k=>show#[p.n,aR Z,Qv ..]
  .let i:((y,x)::e).find? (λq=>q.1==z)=e.find? λq=>q.1==z:=by rw[nY,show((y,x).1==z)=J from beq_eq_false_iff_ne.mpr<|c5 q]
   rw[i];let g:=(h.gp (f:=p.f) (x:=x) λw v=>a8 (h.2 _ v)<|m8 _).1 z;let c:(p.sc.gm y (xZ x,p.n)) z=p.sc z:=aM q;split at g
   .let#[s,a,b]:=g;show#[s,c.trans a,b]
   .let#[s,a,b]:=g;show#[s,c.trans a,b]
   .show c.trans g
 .let#[z,k,q]:=ai;let d:(if z=y then Y (xZ x,p.n)else p.sc z)=Y (k,s):=q;split at d
  .cases d;show k2 _
  .show pj<|h.2 s #[z,k,d]
def wa(a:List Int):vP->oJ
 |.cell k=>.cA<|a.getD k 0
 |.chan c=>.aH c
def Qw(b:ti)(a:List Int)(m:aA):Prop:=∀f s x,b f s=Y x->m.a0 f s=Y (wa a x)
def x1(r:Except Bad Int):Except Int Int:=match r with
 |.ok v=>.ok v
 |.error b=>.error<|uE b
def Qx(d:Qw ci cells m)(c:ha ci env p)(r:lD p.sc e x):m.ev p.f x=x1 (value cells env i8 e):=by
 rw[Ct cells env i8 e r.2.1];unfold aA.ev x1;let g:∀y,z2 cells env y=(p.sc.of J y).bind (m.cA p.f):=λy=>by
  unfold z2
  cases q:p.sc.of J y with
  |none=>rw[c.FL q];rfl
  |some s=>let#[k,a,b]:=c.gx q;rw[a];show _=m.cA p.f s;unfold aA.cA;rw[d _ _ _ b];rfl
 rw[Yl g r.1];all_goals (cases ev (z2 cells env) e<;>rfl)
inductive wb(ci:ti):Job->kH×Nat->fh->Prop where
 |cq {t:Stmt}{e:Env}{x:cJ}{p:fh}:ha ci e p->gM p.sc p.n t x p.n'->wb ci (.stmt t e) (.cq x,p.f) p
 |x2 {l:List Stmt}{e:Env}{cR:List ja}{p:fh}:ha ci e p->mK p.sc p.n l cR p.n'->wb ci (.seq l e) (.fw cR,p.f) p
inductive jd(ci:ti):List Job->List (kH×Nat)->List fh->Prop where
 |dg:jd ci [] [] []
 |cB {j:Job}{t:kH×Nat}{p:fh}{eC:List Job}{ts:List (kH×Nat)}{ps:List fh}:wb ci j t p->jd ci eC ts ps->jd ci (j::eC) (t::ts) (p::ps)
def jd.tj(h:jd ci eC ts ps):z9 eC=z9 ts:=by
 induction h with
 |dg=>rfl
 |cB _ _ a=>simp only[gi,a]
theorem wb.gp(h:wb ci j t p)(n:p.f=f->¬p.kJ s):wb (gp ci f s x) j t p:=by
 cases h with
 |cq a b=>show .cq (a.gp n) b
 |x2 a b=>show .x2 (a.gp n) b
theorem jd.gp(h:jd ci eC ts ps)(n:∀p∈ps,p.f=f->¬p.kJ s):jd (Ho.gp ci f s x) eC ts ps:=by
 induction h with
 |dg=>show .dg
 |cB a _ b=>show .cB (a.gp<|n _<|fD ..)<|b λp aC=>n p<|e9 _ aC
def gM.le(h:gM sc n t x n'):n<=n':=by apply gM.rec (motive_1:=λq n q q n' q=>n<=n') (motive_2:=λq n q q n' q=>n<=n') (motive_3:=λq n q q n' q=>n<=n') (motive_4:=λq n q q n' q=>n<=n')<;>intros<;>first|show bK _|assumption|show rW ‹_›|show dK ‹_› ‹_›
def mK.le(h:mK sc n t x n'):n<=n':=by apply mK.rec (motive_1:=λq n q q n' q=>n<=n') (motive_2:=λq n q q n' q=>n<=n') (motive_3:=λq n q q n' q=>n<=n') (motive_4:=λq n q q n' q=>n<=n')<;>intros<;>first|show bK _|assumption|show rW ‹_›|show dK ‹_› ‹_›
def pw.le(h:pw sc n t x n'):n<=n':=by apply pw.rec (motive_1:=λq n q q n' q=>n<=n') (motive_2:=λq n q q n' q=>n<=n') (motive_3:=λq n q q n' q=>n<=n') (motive_4:=λq n q q n' q=>n<=n')<;>intros<;>first|show bK _|assumption|show rW ‹_›|show dK ‹_› ‹_›
def qh.le(h:qh sc n t x n'):n<=n':=by apply qh.rec (motive_1:=λq n q q n' q=>n<=n') (motive_2:=λq n q q n' q=>n<=n') (motive_3:=λq n q q n' q=>n<=n') (motive_4:=λq n q q n' q=>n<=n')<;>intros<;>first|show bK _|assumption|show rW ‹_›|show dK ‹_› ‹_›
def ha.x3(h:ha ci e p)(l:p.n<=n):ha ci e #[p.f,p.sc,n,n']:=#[h.1,λs v=>eR (h.2 s v) l]
def x4(a:p.n<=n)(b:n'<=p.n'):Within #[p.f,p.sc,n,n'] p:=#[Z,a,b,λq h=>.inl h]
inductive je(par:Nat->Option Nat):Nat->Nat->Prop where
 |tk {i j:Nat}:par j=Y i->je par i j
 |up {i k j:Nat}:par j=Y k->je par i k->je par i j
def je.lt(h:∀j i,par j=Y i->i<j)(a:je par i j):i<j:=by
 induction a with
 |tk e=>show h _ _ e
 |up e _ b=>show nU b<|h _ _ e
structure qi(par:Nat->Option Nat)(bW:Nat->List fh):Prop where
 lt:∀j i,par j=Y i->i<j
 jU:∀i,(bW i).Pairwise ng
 x5:∀i j,i≠j->¬je par i j->¬je par j i->∀p∈bW i,∀q∈bW j,nh p q
 z4:∀i j,je par i j->∀p∈bW j,∀q∈bW i,ng p q
def qi.Cz(S:qi par bW)(no:∀j,je par i j->bW j=[])(aC:ps.Pairwise ng)
  (o:∀q∈ps,(∃p∈bW i,Within q p)\/∀j,j≠i->∀p∈bW j,q.f≠p.f):qi par (aF bW i ps):=by
 show#[S.lt,λk=>?_,λa b l n s p c q d=>?_,λa b h p c q d=>?_]
 .by_cases e:k=i
  .subst e;rw[bE];show aC
  .rw[bC _ _ e];show S.jU k
 .by_cases e:a=i
  .subst e;rw[bE]at c;rw[bC _ _<|c5 l]at d;obtain⟨r,m,w⟩|f:=o p c
   .show(S.x5 a b l n s r m q d).uG w
   .show nh.Cx<|f b (c5 l) q d
  .rw[bC _ _ e]at c;by_cases g:b=i
   .subst g;rw[bE]at d;obtain⟨r,m,w⟩|f:=o q d
    .show(S.x5 a b l n s p c r m).Qu w
    .show(nh.Cx<|f a l p c).Cw
   .rw[bC _ _ g]at d;show S.x5 a b l n s p c q d
 .by_cases e:a=i
  .subst e;let g:=c5<|eg<|h.lt S.lt;rw[bC _ _ g,no b h]at c;cases c
  .rw[bC _ _ e]at d;by_cases g:b=i
   .subst g;rw[bE]at c;obtain⟨r,m,w⟩|f:=o p c
    .show(S.z4 a b h r m q d).uG w
    .show ng.Cx<|f a e q d
   .rw[bC _ _ g]at c;show S.z4 a b h p c q d
def qi.CA(S:qi par bW)(no:∀j,je par i j->bW j=[])(h:bW i=p::ps)(o:p.pz s):
  (∀q∈ps,q.f=p.f->¬q.kJ s)/\∀j,j≠i->∀q∈bW j,q.f=p.f->¬q.kJ s:=by
 let m:p∈bW i:=by rw[h];show fD ..
 show#[λq b e=>?_,λj g q b e=>?_]
 .let a:=S.jU i;rw[h]at a;show(q8.mp a).1 q b e.symm s o
 .by_cases c:je par i j
  .cases (no j c)▸b
  .by_cases d:je par j i
   .show S.z4 j i d p m q b e.symm s o
   .show((S.x5 i j (c5 g) c d p m q b e.symm s).1 o).1
def qi.Qy(S:qi par bW)(i:Nat):qi par (aF bW i []):=by
 let sub:∀k p,p∈aF bW i [] k->p∈bW k:=λk p h=>by
  by_cases e:k=i
  .subst e;rw[bE]at h;cases h
  .rw[bC _ _ e]at h;show h
 show#[S.lt,λk=>?_,λa b g d f p aC q c=>S.x5 a b g d f p (sub a p aC) q<|sub b q c,λa b h p aC q c=>S.z4 a b h p (sub b p aC) q<|sub a q c];by_cases e:k=i
 .subst e;rw[bE];show Fj
 .rw[bC _ _ e];show S.jU k
def qi.J5(S:qi par bW){r d:List fh}(no:∀j,je par i j->bW j=[])(h:bW i=p::r)(ak:i<n)
  (X:∀j,n<=j->bW j=[]) (W:∀j,n<=j->par j=U) (t:∀j,j<n->wc j=par j) (E:∀j,n<=j->∀k,wc j=Y k->k=i/\j<n+z9 d) (L:∀j,n<=j->j<n+z9 d->wc j=Y i)
  (M:∀c∈d,Within c p) (ai:d.Pairwise nh):
  qi wc (λk=>if k=i then r else if k<n then bW k else match d[k-n]? with|some c=>[c]|none=>[]):=by
 let mp:p∈bW i:=by rw[h];show fD ..
 let V:∀q∈r,q∈bW i:=λq g=>by rw[h];show e9 _ g
 let x:∀{a b:Nat},b<n->(je wc a b↔je par a b):=λ{a b} ae=>by
  let lt':=λj k H e=>S.lt j k (by rwa[<-t j H]);constructor
  .intro z
   induction z with
   |tk e=>show .tk (by rwa[<-t _ ae])
   |up e _ F=>show .up (by rwa[<-t _ ae])<|F<|nU (lt' _ _ ae e) ae
  .intro z
   induction z with
   |tk e=>show .tk (by rwa[t _ ae])
   |up e _ F=>show .up (by rwa[t _ ae])<|F<|nU (S.lt _ _ e) ae
 let G:∀{a b:Nat},n<=b->je wc a b->a=i\/je par a i:=λ{a b} ae z=>by
  cases z with
  |tk e=>show .inl (E b ae a e).1
  |up e z=>have:=(E b ae _ e).1;subst this;show .inr<|(x ak).mp z
 let up:∀{b:Nat},n<=b->b<n+z9 d->∀{a:Nat},(a=i\/je par a i)->je wc a b:=λ{b} ae P {a} z=>by
  obtain z|z:=z
  .subst z;show .tk<|L b ae P
  .show .up (L b ae P)<|(x ak).mpr z
 let s:∀{k:Nat}{q:fh},k<n->q∈(if k=i then r else if k<n then bW k else match d[k-n]? with|some c=>[c]|none=>[])->q∈bW k:=λ{k q} I g=>by
  by_cases e:k=i
  .subst e;rw[aR Z]at g;show V q g
  .rw[aM e,aR I]at g;show g
 let u:∀{k:Nat}{q:fh},n<=k->q∈(if k=i then r else if k<n then bW k else match d[k-n]? with|some c=>[c]|none=>[])->d[k-n]?=Y q:=λ{k q} I g=>by
  let e:k≠i:=λz=>by lia
  rw[aM e,aM aV]at g
  cases z:d[k-n]? with
  |none=>cases z▸g
  |some c=>rw[z]at g;rw[gX.mp g]
 let stI:=S.jU i
 rw[h]at stI
 let#[T,Q]:=q8.mp stI
 show#[λj k e=>?_,λk=>?_,λa b R y K m l bx f=>?_,λa b z m l bx f=>?_]
 .by_cases H:j<n
  .show S.lt j k (by rwa[<-t j H])
  .have:=(E j aV k e).1;lia
 .by_cases e:k=i
  .subst e;rwa[aR Z]
  .rw[aM e];split
   .show S.jU k
   .cases d[k-n]? with
    |none=>show Fj
    |some c=>show uu ..
 .let o:∀{a b:Nat}{m bx:fh},a<n->n<=b->¬je wc a b->m∈bW a->d[b-n]?=Y bx->nh m bx:=λ{a b m bx} A ae y l f=>by
   let N:b<n+z9 d:=by have:=(jP.mp f).1;lia
   by_cases z:je par i a
   .cases (no a z)▸l
   .show(S.x5 a i (λz=>y<|up ae N<|.inl z) (λz=>y<|up ae N<|.inr z) z m l p mp).Qu<|M bx<|mF f
  by_cases A:a<n
  .by_cases ae:b<n
   .show S.x5 a b R (λz=>y<|(x ae).mpr z) (λz=>K<|(x A).mpr z) m (s A l) bx<|s ae f
   .show o A aV y (s A l)<|u aV f
  .by_cases ae:b<n
   .show(o ae aV K (s ae f)<|u aV l).Cw
   .let v:=u aV l;let D:=u aV f;let C:=(jP.mp v);let B:=(jP.mp D);let#[C,v]:=C;let#[B,D]:=B;subst v D;obtain lt|lt:=Nat.lt_or_gt_of_ne (show a-n≠b-n by lia)
    .show OX.mp ai _ _ C B lt
    .show(OX.mp ai _ _ B C lt).Cw
 .by_cases ae:b<n
  .let jV:=(x ae).mp z;show S.z4 a b jV m (s ae l) bx<|s (nU (jV.lt S.lt) ae) f
  .let v:=u aV l;let w:=M m<|mF v;obtain e|jV:=G aV z
   .subst e;rw[aR Z]at f;show(T bx f).uG w
   .show(S.z4 a i jV p mp bx<|s (nU (jV.lt S.lt) ak) f).uG w
inductive dE{α β:Type}(P:α->β->Prop):List α->List β->Prop where
 |dg:dE P [] []
 |cB {a:α}{b:β}{l:List α}{m:List β}:P a b->dE P l m->dE P (a::l) (b::m)
def dE.hK(h:dE P l m)(f:∀a b,b∈m->P a b->Q a b):dE Q l m:=by
 induction h with
 |dg=>show .dg
 |cB a _ c=>show .cB (f _ _ (fD ..) a)<|c λa b ae=>f a b<|e9 _ ae
abbrev uH:=Nat×Nat×Nat×Option cJ
def uI(c:ti)(d:List Job)(p:fh)(b:Nat×Nat×List Job)(a:uH):Prop:=
 b.1=a.1/\a.2.1=p.f/\c p.f a.2.2.1=Y (.cell b.2.1)/\p.kJ a.2.2.1/\match a.2.2.2 with
 |none=>b.2.2=d
 |some x=>∃t e q,b.2.2=.stmt t e::d/\wb c (.stmt t e) (.cq x,p.f) q/\Within q p/\∀s,q.kJ s->p.kJ s
noncomputable def uJ(l:List Nat)(c:Nat):List Nat:=if c∈l then l else l++[c]
def rh(l:List Nat):List Nat:=l.foldl uJ []
inductive mL(ci:ti)(t:Task)(x:fG)(bW:List fh)(es:List uH):Prop where
 |cp:t.now=.ready->x.cp=O->x.bI=[]->jd ci t.jobs x.a6 bW->mL ci t x bW es
 |ni {c:Nat}{v:Int}:t.now=.sends c v->x.cp=J->x.bI=[]->jd ci t.jobs x.a6 bW->mL ci t x bW es
 |bI {l:List (Nat×Nat×List Job)}{p:fh}{d5:List fh}{ii:List Job}:t.now=.takes l->x.cp=J->bW=p::d5->jd ci ii x.a6 d5->dE (uI ci ii p) l es->x.bI=rh (es.map (·.1))->mL ci t x bW es
 |k6 {n:Nat}:t.now=.waits n->x.cp=J->x.bI=[]->x.ey=n->jd ci t.jobs x.a6 bW->mL ci t x bW es
 |l7:t.now=.stuck->x.cp=J->bW=[]->mL ci t x bW es
 |d4:t.now=.over->bW=[]->mL ci t x bW es
def hb:Now->Bool
 |.over=>O
 |_=>J
def we:Now->Bool
 |.sends _ _=>O
 |.takes _=>O
 |_=>J
def gC(T:Nat->Task)(c i:Nat):Option (Nat×Int):=match (T i).now with
 |.sends k v=>if k=c then Y (i,v)else U
 |_=>U
def hg(T:Nat->Task)(es:Nat->List uH)(c i:Nat):Option (Nat×Nat×Nat×Option cJ):=match (T i).now with
 |.takes _=>((es i).find? λb=>b.1==c).map λb=>(i,b.2)
 |_=>U
structure kg where
 ci:ti
 bW:Nat->List fh
 es:Nat->List uH
def FM(a b:Nat):vP->Prop
 |.cell k=>k<a
 |.chan c=>c<b
def gZ(n:Nat)(p:Nat->Bool):Nat:=((gK n).filter p).length
structure R(g:kg)(T:Nat->Task)(s:St)(m:aA):Prop where
 az:z9 s.tasks=m.az
 a9:s.chans=m.a9
 cl:z9 s.cells=m.c3
 cg:s.out=m.cg
 st:s.steps=m.fx
 fa:m.d4=gZ m.az λi=>hb (T i).now
 gl:∀i,i<m.az->(m.ag i).hp=(T i).parent
 bB:∀i,m.az<=i->g.bW i=[]/\(T i).parent=U
 ag:∀i,i<m.az->mL g.ci (T i) (m.ag i) (g.bW i) (g.es i)
 jW:∀c,(m.aH c).ep=s.waiting.filterMap (gC T c)
 kh:∀c,(m.aH c).dn=s.waiting.filterMap (hg T g.es c)
 eT:∀c,m.a9<=c->m.aH c=#[[],[]]
 ki:Qw g.ci s.cells m
 jX:∀f a x,g.ci f a=Y x->f<m.a5/\FM (z9 s.cells) m.a9 x
 hL:∀f a fy gw k,g.ci f a=Y (.cell k)->g.ci fy gw=Y (.cell k)->f=fy/\a=gw
 kj:∀i p,p∈g.bW i->p.f<m.a5
 l8:s.waiting.Nodup
 hh:∀i,i∈s.waiting↔i<m.az/\we (T i).now=O
 gD:s.ready.Nodup
 ij:∀i,i∈s.ready->i<m.az/\(T i).now=.ready
 iI:qi (λi=>(T i).parent) g.bW
 jf:∀j,j<m.az->hb (T j).now=J->∀i,(T j).parent=Y i->∃n,(T i).now=.waits n
 jx:∀i n,i<m.az->(T i).now=.waits n->n=gZ m.az λj=>decide ((T j).parent=Y i)&&!hb (T j).now
def x7(h:∀i,i<n->p i=q i):gZ n p=gZ n q:=by unfold gZ;rw[O8 λi ak=>h i<|nc.mp ak]
def R.FN(h:R g T s m)(l:(T i).now=.ready):∀j,je (λi=>(T i).parent) i j->g.bW j=[]:=by
 let c:∀a j,je (λi=>(T i).parent) a j->j<m.az->hb (T j).now=J->∃n,(T a).now=.waits n:=by
  intro a j z
  induction z with
  |tk e=>show λb d=>h.jf _ b d _ e
  |up e z k=>intro b d;let#[n,f]:=h.jf _ b d _ e;show k (nU (h.iI.lt _ _ e) b) (by rw[f];rfl)
 intro j z;by_cases b:j<m.az
 .cases q:hb (T j).now with
  |false=>let#[n,f]:=c i j z b q;cases l▸f
  |true=>
   cases h.ag j b with
   |d4 _ e=>show e
   |cp e=>cases e▸q
   |ni e=>cases e▸q
   |bI e=>cases e▸q
   |k6 e=>cases e▸q
   |l7 e=>cases e▸q
 .show(h.bB j aV).1
def r8(s:St)(i:Nat)(t:Task)(ak:i<z9 s.tasks):(s.set i t).task=aF s.task i t:=by
 funext j
 unfold St.task St.set aF;by_cases e:j=i
 .subst e;simp[ak]
 .simp[zM<|c5 e,e]
def R.fx(h:R g T s m)(k:Nat):R g T {s with steps:=k} {m with fx:=k}:=
 #[h.az,h.a9,h.cl,h.cg,Z,h.fa,h.gl,h.bB,h.ag,h.jW,h.kh,h.eT,h.ki,h.jX,h.hL,h.kj,h.l8,h.hh,h.gD,h.ij,h.iI,h.jf,h.jx]
def R.l4(h:R g T s m)(o:br):R g T {s with out:=o} {m with cg:=o}:=
 #[h.az,h.a9,h.cl,Z,h.st,h.fa,h.gl,h.bB,h.ag,h.jW,h.kh,h.eT,h.ki,h.jX,h.hL,h.kj,h.l8,h.hh,h.gD,h.ij,h.iI,h.jf,h.jx]
def Qz(m:aA)(f a:Nat)(v:oJ)(b gw:Nat):(m.hI f a v).a0 b gw=if b=f/\gw=a then Y v else m.a0 b gw:=by
 show aF m.a0 f _ b gw=_;by_cases e:b=f
 .subst e;rw[bE];by_cases c:gw=a
  .rw[aR c,aR #[Z,c]]
  .rw[aM c,aM λz=>c z.2]
 .rw[bC _ _ e,aM λz=>e z.1]
def QA{l:List Int}(h:k<z9 l):(l.set k v).getD j 0=if j=k then v else l.getD j 0:=by
 by_cases e:j=k
 .subst e;simp[h]
 .rw[aM e,q6,q6,zM<|c5 e]
def R.gm{g:kg}(h:R g T s m)(v:Int)(e:g.ci f a=Y (.cell k)):R g T (s.put k v) (m.hI f a<|.cA v):=by
 let i:=(h.jX f a _ e).2;show#[h.az,h.a9,by show(s.cells.set k v).length=_;rw[k3];show h.cl,h.cg,h.st,h.fa,h.gl,h.bB,h.ag,h.jW,h.kh,h.eT,λb d x q=>?_,λb d x q=>?_,h.hL,h.kj,h.l8,h.hh,h.gD,h.ij,h.iI,h.jf,h.jx]
 .rw[Qz];by_cases z:b=f/\d=a
  .rw[aR z];let#[rfl,rfl]:=z;cases e▸q;show Y (oJ.cA v)=Y (oJ.cA<|(s.cells.set k v).getD k 0);rw[QA i,aR Z]
  .rw[aM z,h.ki b d x q]
   cases x with
   |chan c=>rfl
   |cell j=>show Y (oJ.cA<|s.cells.getD j 0)=Y (oJ.cA<|(s.cells.set k v).getD j 0);rw[QA i,aM λw=>z (by subst w;show h.hL _ _ _ _ _ q e)]
 .show b<m.a5/\FM (s.cells.set k v).length m.a9 x;rw[k3];show h.jX b d x q
def R.x8(h:R g T s m)(ak:i<m.az)(t:(T i).now=.ready)(D:jd g.ci eC ts ps)
  (ai:qi (λi=>(T i).parent) (aF g.bW i ps)) (B:∀p∈ps,p.f<m.a5) (es:s'={s with tasks:=s'.tasks}) (A:z9 s'.tasks=z9 s.tasks):
  R {g with bW:=aF g.bW i ps} (aF T i {T i with jobs:=eC}) s' (m.dU i {m.ag i with a6:=ts}):=by
 let o:∀j,(aF T i {T i with jobs:=eC} j).now=(T j).now:=λj=>by
  by_cases e:j=i
  .subst e;rw[bE]
  .rw[bC _ _ e]
 let jz:∀j,(aF T i {T i with jobs:=eC} j).parent=(T j).parent:=λj=>by
  by_cases e:j=i
  .subst e;rw[bE]
  .rw[bC _ _ e]
 let C:∀c,gC (aF T i {T i with jobs:=eC}) c=gC T c:=λc=>by funext j;unfold gC;rw[o]
 let E:∀c,hg (aF T i {T i with jobs:=eC}) g.es c=hg T g.es c:=λc=>by funext j;unfold hg;rw[o]
 let x9:(λj=>(aF T i {T i with jobs:=eC} j).parent)=λj=>(T j).parent:=funext jz
 let dp:s'.waiting=s.waiting:=by rw[es]
 let fz:s'.ready=s.ready:=by rw[es]
 let u:s'.cells=s.cells:=by rw[es]
 show#[A.trans h.az,by rw[es];show h.a9,by rw[u];show h.cl,by rw[es];show h.cg,by rw[es];show h.st,?_,λj l=>?_,λj l=>?_,λj l=>?_,λc=>?_,λc=>?_,h.eT,?_,λf a x q=>?_,h.hL,λj p aC=>?_,by rw[dp];show h.l8,λj=>?_,by rw[fz];show h.gD,λj l=>?_,?_,λj l w k v=>?_,λj n l y=>?_]
 .show m.d4=_;show h.fa▸(x7 λj W=>by rw[o])
 .rw[jz,<-h.gl j l];show(aF m.ag i _ j).hp=_;by_cases e:j=i
  .subst e;rw[bE]
  .rw[bC _ _ e]
 .rw[jz];show#[?_,(h.bB j l).2];let e:j≠i:=λz=>by subst z;show a8 ak (p6.mpr l)
  show aF g.bW i ps j=[];rw[bC _ _ e];show(h.bB j l).1
 .show mL g.ci (aF T i _ j) (aF m.ag i _ j) (aF g.bW i ps j) (g.es j);by_cases e:j=i
  .subst e
   rw[bE,bE,bE]
   cases h.ag j l with
   |cp a b c d=>show .cp a b c D
   |ni e=>cases t▸e
   |bI e=>cases t▸e
   |k6 e=>cases t▸e
   |l7 e=>cases t▸e
   |d4 e=>cases t▸e
  .rw[bC _ _ e,bC _ _ e,bC _ _ e];show h.ag j l
 .rw[dp,C];show h.jW c
 .rw[dp];rw[E];show h.kh c
 .rw[u];show h.ki
 .rw[u];show h.jX f a x q
 .by_cases e:j=i
  .subst e;let r:p∈aF g.bW j ps j:=aC;rw[bE]at r;show B p r
  .let r:p∈aF g.bW i ps j:=aC;rw[bC _ _ e]at r;show h.kj j p r
 .rw[dp,o];show h.hh j
 .rw[fz]at l;rw[o];show h.ij j l
 .rw[x9];show ai
 .rw[o]at w;rw[jz]at v;rw[o];show h.jf j l w k v
 .rw[o]at y;show(h.jx j n l y)▸(x7 λk W=>by rw[jz,o])
theorem CF:∀{l:List α},(∀b∈l,g b=f b)->l.filterMap g=l.filterMap f
 |[],_=>rfl
 |a::l,h=>by rw[r3,r3,h a<|fD ..,CF λb ae=>h b<|e9 _ ae]
def FO(f g:α->Option β)(l:List α)(a:α)(h:∀b∈l,g b=f b):(l++[a]).filterMap g=l.filterMap f++(g a).toList:=by rw[List.filterMap_append,CF h];cases e:g a<;>simp[e]
def FP(f g:Nat->Option β)(l:List Nat)(j:Nat)(h:∀b∈l,b≠j->g b=f b):(l.filter λk=>k != j).filterMap g=(l.filter λk=>k != j).filterMap f:=by show CF λb ae=>?_;let#[a,c]:=vW.mp ae;show h b a (by simpa using c)
theorem CG(f:Nat->Option (Nat×β))(b:∀i r,f i=Y r->r.1=i):∀(l:List Nat) (j:Nat),(l.filter λk=>k != j).filterMap f=(l.filterMap f).filter λt=>t.1 != j
 |[],_=>rfl
 |a::l,j=>by
  let c:=CG f b l j;rw[pv];by_cases e:a=j
  .subst e
   rw[aM bg,c,r3]
   cases q:f a with
   |none=>rfl
   |some r=>rw[pv,aM<|by simp[b a r q]]
  .rw[aR (by simp[e]),r3,r3,c]
   cases q:f a with
   |none=>rfl
   |some r=>rw[pv,aR<|by simp[b a r q,e]]
def wg(h:gC T c i=Y r):r.1=i:=by
 unfold gC at h;split at h
 .split at h
  .cases h;rfl
  .cases h
 .cases h
def z7(h:hg T es c i=Y r):r.1=i:=by
 unfold hg at h;split at h
 .let#[b,q,e]:=iW.mp h;cases e;rfl
 .cases h
def Yn:gZ n p<=n:=by show dK (Jc ..) bg
def J6(ak:i<n)(aC:p i=J)(f:q i=O)(h:∀j,j<n->j≠i->q j=p j):gZ n q=gZ n p+1:=by
 induction n with
 |zero=>lia
 |succ n b=>
  unfold gZ at b ⊢;rw[Pa,Jh,Jh,ju,ju];by_cases e:i=n
  .subst e;let c:(gK i).filter q=(gK i).filter p:=O8 λj a=>h j (by have:=nc.mp a;lia) (by have:=nc.mp a;lia);rw[c];simp[aC,f]
  .have:=b aV λj a d=>h j aV d;simp[pv,(h n aV<|c5 e)];lia
structure nj(T:Nat->Task)(i:Nat)(t:Task):Prop where
 gl:t.parent=(T i).parent
 fa:hb t.now=hb (T i).now
 cb:∀k,(T i).now≠.waits k
 n2:∀k,t.now≠.waits k
def nj.jz(h:nj T i t)(j:Nat):(aF T i t j).parent=(T j).parent:=by
 by_cases e:j=i
 .subst e;rw[bE];show h.gl
 .rw[bC _ _ e]
def nj.x9(h:nj T i t):(λj=>(aF T i t j).parent)=λj=>(T j).parent:=funext h.jz
def nj.J7(h:nj T i t)(j:Nat):hb (aF T i t j).now=hb (T j).now:=by
 by_cases e:j=i
 .subst e;rw[bE];show h.fa
 .rw[bC _ _ e]
theorem nj.jf(h:nj T i t)(r:R g T s m):∀j,j<m.az->hb (aF T i t j).now=J->∀k,(aF T i t j).parent=Y k->∃n,(aF T i t k).now=.waits n:=λj d a k b=>by rw[h.J7]at a;rw[h.jz]at b;let#[n,c]:=r.jf j d a k b;let e:k≠i:=λz=>h.cb n (by rwa[<-z]);show#[n,by rwa[bC _ _ e]]
theorem nj.jx(h:nj T i t)(r:R g T s m):∀j n,j<m.az->(aF T i t j).now=.waits n->n=gZ m.az λk=>decide ((aF T i t k).parent=Y j)&&!hb (aF T i t k).now:=λj n b a=>by let e:j≠i:=λz=>h.n2 n (by rwa[z,bE]at a);rw[bC _ _ e]at a;rw[r.jx j n b a];show x7 λk q=>by rw[h.jz,h.J7]
theorem nj.gZ(h:nj T i t)(r:R g T s m):m.d4=Ho.gZ m.az λj=>hb (aF T i t j).now:=by show r.fa▸(x7 λk q=>by rw[h.J7])
def R.Yo(h:R g T s m)(p:s.ready=i::row)(A:c<m.a9)(y:m.b5=row):
  R g (aF T i {T i with now:=.sends c v}) {s with tasks:=(s.set i {T i with now:=.sends c v}).tasks,ready:=row,waiting:=s.waiting++[i]} ((m.n3 c {m.aH c with ep:=(m.aH c).ep++[(i,v)]}).fK i):=by
 let#[ak,l]:=h.ij i (by rw[p];show fD ..)
 let gD:=h.gD
 rw[p]at gD
 let n:nj T i {T i with now:=.sends c v}:=#[Z,by rw[l];rfl,(λk z=>by rw[l]at z;cases z),(λk z=>by cases z)]
 let t:i∉s.waiting:=λz=>by have:=((h.hh i).mp z).2;cases l▸this
 let r:∀b∈s.waiting,b≠i:=λb ae z=>t (by rw[<-z];show ae)
 show#[by show(s.tasks.set i _).length=_;rw[k3];show h.az,h.a9,h.cl,h.cg,h.st,n.gZ (m:=m) h,λj f=>?_,λj f=>#[(h.bB j f).1,by rw[n.jz];show(h.bB j f).2],λj f=>?_,λd=>?_,λd=>?_,λd u=>?_,h.ki,h.jX,h.hL,h.kj,?_,λj=>?_,(l2.mp gD).2,λj f=>?_,?_,n.jf (m:=m) h,n.jx (m:=m) h]
 .rw[n.jz,<-h.gl j f];show(aF m.ag i _ j).hp=_;by_cases e:j=i
  .subst e;rw[bE];rfl
  .rw[bC _ _ e]
 .show mL g.ci (aF T i _ j) (aF m.ag i _ j) (g.bW j) (g.es j);by_cases e:j=i
  .subst e
   rw[bE,bE]
   cases h.ag j f with
   |cp a b c d=>show .ni Z Z c d
   |ni e=>cases l▸e
   |bI e=>cases l▸e
   |k6 e=>cases l▸e
   |l7 e=>cases l▸e
   |d4 e=>cases l▸e
  .rw[bC _ _ e,bC _ _ e];show h.ag j f
 .show(aF m.aH c _ d).ep=(s.waiting++[i]).filterMap _;rw[FO (gC T d) (gC (aF T i {T i with now:=.sends c v}) d) s.waiting i λb ae=>by unfold gC;rw[bC _ _<|r b ae]];let o:gC (aF T i {T i with now:=.sends c v}) d i=if c=d then Y (i,v)else none:=by unfold gC;rw[bE]
  rw[o,<-h.jW d];by_cases e:d=c
  .subst e;rw[bE,aR Z];rfl
  .rw[bC _ _ e,aM<|c5 e];simp
 .show(aF m.aH c _ d).dn=(s.waiting++[i]).filterMap _;rw[FO (hg T g.es d) (hg (aF T i {T i with now:=.sends c v}) g.es d) s.waiting i λb ae=>by unfold hg;rw[bC _ _<|r b ae]];let o:hg (aF T i {T i with now:=.sends c v}) g.es d i=none:=by unfold hg;rw[bE]
  rw[o,<-h.kh d];by_cases e:d=c
  .subst e;rw[bE];simp
  .rw[bC _ _ e];simp
 .show aF m.aH c _ d=_;let w:m.a9<=d:=u;rw[bC _ _<|show d≠c by lia];show h.eT d w
 .show vT.mpr #[h.l8,bg,λa x b ae z=>t (by rwa[<-gX.mp ae,<-z])]
 .show j∈s.waiting++[i]↔_;rw[iV,gX];by_cases e:j=i
  .subst e;rw[bE];show#[λW=>#[ak,Z],λW=>.inr Z]
  .show(bC _ _ e)▸#[λz=>z.elim (λz=>(h.hh j).mp z) λz=>a8 z e,λz=>.inl<|(h.hh j).mpr z]
 .let q:=f;let e:j≠i:=λz=>(l2.mp gD).1 (by rwa[<-z]);show(bC _ _ e)▸(h.ij j (by rw[p];show e9 _ q))
 .rw[n.x9];show h.iI
def uL{b:Type}{f:Nat->Option (Nat×b)}(c:∀i r,f i=Y r->r.1=i){l:List Nat}{t:Nat×b}(h:t∈l.filterMap f):t.1∈l/\f t.1=Y t:=by let#[a,d,e]:=EZ.mp h;show(c a t e)▸#[d,e]
theorem J8{b:Type}{f:Nat->Option (Nat×b)}(c:∀i r,f i=Y r->r.1=i):∀{l:List Nat}{t:Nat×b}{r:List (Nat×b)},l.Nodup->l.filterMap f=t::r->∀u∈r,u.1≠t.1
 |[],t,r,_,e=>by cases e
 |a::l,t,r,g,e=>by
  let#[d,j]:=l2.mp g
  rw[r3]at e
  cases q:f a with
  |none=>rw[q]at e;show J8 c j e
  |some x=>cases q▸e;intro u h z;have:=(uL c h).1;rw[z,c a t q]at this;show d this
theorem wh:∀{l:List α},(∀a∈l,p a=O)->l.filter p=l
 |[],_=>rfl
 |a::l,h=>by rw[pv,aR<|h a<|fD ..,wh λb ae=>h b<|e9 _ ae]
set_option tactic.hygienic true in
def R.QB(h:R g T s m){v:Int}{aT:List (Nat×Int)}(n:c<m.a9)(f:(m.aH c).ep=(j,v)::aT):j∈s.waiting/\(T j).now=.sends c v:=by
 let e:=h.jW c;rw[f]at e;let hm:(j,v)∈s.waiting.filterMap (gC T c):=by rw[<-e];show fD ..
 let#[i,l]:=uL (λq q=>wg) hm;show#[i,?_];let a:=l;unfold gC at a;split at a
 .rename_i k u b;split at a
  .rename_i d;cases a;rw[b,d]
  .cases a
 .cases a
def R.Yp(h:R g T s m){v:Int}{aT:List (Nat×Int)}(F:c<m.a9)(r:(m.aH c).ep=(j,v)::aT):
  R g (aF T j {T j with now:=.ready}) {s with tasks:=(s.set j {T j with now:=.ready}).tasks,ready:=s.ready++[j],waiting:=s.waiting.filter λk=>k != j} ((m.n3 c {m.aH c with ep:=aT}).oK j):=by
 let#[B,f]:=h.QB F r
 let E:=((h.hh j).mp B).1
 let o:nj T j {T j with now:=.ready}:=#[Z,by rw[f];rfl,(λk z=>by rw[f]at z;cases z),(λk z=>by cases z)]
 let x:j∉s.ready:=λz=>by have:=(h.ij j z).2;cases f▸this
 let t:∀b,b≠j->aF T j {T j with now:=.ready} b=T b:=λb e=>bC _ _ e
 show#[by show(s.tasks.set j _).length=_;rw[k3];show h.az,h.a9,h.cl,h.cg,h.st,o.gZ (m:=m) h,λk i=>?_,λk i=>#[(h.bB k i).1,by rw[o.jz];show(h.bB k i).2],λk i=>?_,λd=>?_,λd=>?_,λd y=>?_,h.ki,h.jX,h.hL,h.kj,h.l8.filter _,λk=>?_,?_,λk i=>?_,?_,o.jf (m:=m) h,o.jx (m:=m) h]
 .rw[o.jz,<-h.gl k i];show(aF m.ag j _ k).hp=_;by_cases e:k=j
  .subst e;rw[bE];rfl
  .rw[bC _ _ e]
 .show mL g.ci (aF T j _ k) (aF m.ag j _ k) (g.bW k) (g.es k);by_cases e:k=j
  .subst e
   rw[bE,bE]
   cases h.ag k i with
   |ni a b c d=>show .cp Z Z c d
   |cp e=>cases f▸e
   |bI e=>cases f▸e
   |k6 e=>cases f▸e
   |l7 e=>cases f▸e
   |d4 e=>cases f▸e
  .rw[bC _ _ e,bC _ _ e];show h.ag k i
 .show(aF m.aH c _ d).ep=(s.waiting.filter λk=>k != j).filterMap _;rw[FP (gC T d) _ _ j λb W q=>by unfold gC;rw[t b q],CG _ (λW W=>wg),<-h.jW d];by_cases e:d=c
  .subst e;rw[bE,r,pv,aM bg];show(wh λu n=>?_).symm;let p:=h.jW d;rw[r]at p;simpa using J8 (λW W=>wg) h.l8 p.symm u n
  .rw[bC _ _ e];show(wh λu n=>?_).symm;rw[h.jW d]at n;let#[W,l]:=uL (λW W=>wg) n;have:u.1≠j:=λz=>by rw[z]at l;unfold gC at l;rw[f]at l;simp[c5 e]at l
   simpa using this
 .show(aF m.aH c _ d).dn=(s.waiting.filter λk=>k != j).filterMap _;rw[FP (hg T g.es d) _ _ j λb W q=>by unfold hg;rw[t b q],CG _ (λW W=>z7),<-h.kh d];let p:(aF m.aH c {m.aH c with ep:=aT} d).dn=(m.aH d).dn:=by
   by_cases e:d=c
   .subst e;rw[bE]
   .rw[bC _ _ e]
  rw[p];show(wh λu n=>?_).symm;rw[h.kh d]at n;let#[W,l]:=uL (λW W=>z7) n;have:u.1≠j:=λz=>by rw[z]at l;unfold hg at l;cases f▸l
  simpa using this
 .show aF m.aH c _ d=_;let A:m.a9<=d:=y;rw[bC _ _<|show d≠c by lia];show h.eT d A
 .show k∈s.waiting.filter _↔_;rw[vW];by_cases e:k=j
  .subst e;rw[bE];show#[λz=>by simp at z,λz=>by cases z.2]
  .show(bC _ _ e)▸#[λz=>(h.hh k).mp z.1,λz=>#[(h.hh k).mpr z,by simpa using e]]
 .show vT.mpr #[h.gD,bg,λa D b ae z=>x (by rwa[<-gX.mp ae,<-z])]
 .let C:=i;obtain z|z:=iV.mp C
  .let e:k≠j:=λw=>x (by rwa[<-w]);rw[bC _ _ e];show h.ij k z
  .let e:=gX.mp z;subst e;rw[bE];show#[E,Z]
 .rw[o.x9];show h.iI
def Yq:d∈uJ l c↔d∈l\/d=c:=by
 unfold uJ;split
 .rename_i h;show#[.inl,λz=>z.elim id λe=>by rwa[e]]
 .simp
theorem QC:∀(l cK:List Nat),d∈l.foldl uJ cK↔d∈cK\/d∈l
 |[],cK=>by simp
 |c::l,cK=>by
  rw[Pb,QC l,Yq,eG];constructor
  .rintro ((h|h)|h)
   .show .inl h
   .show .inr<|.inl h
   .show .inr<|.inr h
  .rintro (h|h|h)
   .show .inl<|.inl h
   .show .inl<|.inr h
   .show .inr h
def FQ:d∈rh l↔d∈l:=by unfold rh;rw[QC];simp
def dE.ya(h:dE (uI ci ii p) l es)(c:Nat):
  (∀a,(es.find? λb=>b.1==c)=Y a->∃b,(l.find? λb=>b.1==c)=Y b/\uI ci ii p b a)/\((es.find? λb=>b.1==c)=U->(l.find? λb=>b.1==c)=U):=by
 induction h with
 |dg=>show#[λa e=>(nomatch e),λw=>rfl]
 |@cB b a l es r _ d=>
  rw[nY,nY,r.1];by_cases q:(a.1==c)=O
  .show q▸#[λg e=>by cases e;show#[b,Z,r],λe=>(nomatch e)]
  .let f:(a.1==c)=false:=by simpa using q
   show f▸d
def R.Yr(h:R g T s m)(l:∀n,(T i).now≠.waits n):∀j,je (λi=>(T i).parent) i j->g.bW j=[]:=by
 let c:∀a j,je (λi=>(T i).parent) a j->j<m.az->hb (T j).now=J->∃n,(T a).now=.waits n:=by
  intro a j z
  induction z with
  |tk e=>show λb d=>h.jf _ b d _ e
  |up e z k=>intro b d;let#[n,f]:=h.jf _ b d _ e;show k (nU (h.iI.lt _ _ e) b) (by rw[f];rfl)
 intro j z;by_cases b:j<m.az
 .cases q:hb (T j).now with
  |false=>let#[n,f]:=c i j z b q;show a8 f<|l n
  |true=>
   cases h.ag j b with
   |d4 _ e=>show e
   |cp e=>cases e▸q
   |ni e=>cases e▸q
   |bI e=>cases e▸q
   |k6 e=>cases e▸q
   |l7 e=>cases e▸q
 .show(h.bB j aV).1
def aA.lF(m:aA)(j f:Nat)(st:Option cJ):aA:=(match st with
 |some x=>(m.Cv j).eh j (.cq x,f)
 |none=>m.Cv j).oK j
set_option tactic.hygienic true in
def R.FR(h:R g T s m){st:Option cJ}{aT:List (Nat×Nat×Nat×Option cJ)}(r:c<m.a9)(o:(m.aH c).dn=(j,f,a,st)::aT):
  ∃l,j∈s.waiting/\(T j).now=.takes l/\((g.es j).find? λb=>b.1==c)=Y (c,f,a,st):=by
 let e:=h.kh c
 rw[o]at e
 let hm:(j,f,a,st)∈s.waiting.filterMap (hg T g.es c):=by rw[<-e];show fD ..
 let#[p,q]:=uL (λw w=>z7) hm
 let d:=q
 unfold hg at d
 split at d
 .rename_i l i;let#[b,ae,k]:=iW.mp d;let n:b.1=c:=by simpa using zO ae
  show#[l,p,i,?_];rw[ae,<- ((Prod.mk.inj k).2),<-n]
 .cases d
def Ys(m:aA)(j f:Nat)(st:Option cJ):(m.lF j f st).ag=aF m.ag j {m.ag j with bI:=[],cp:=O,a6:=(st.toList.map λx=>(.cq x,f))++(m.ag j).a6}:=by
 let u:∀(f:Nat->fG) (a b:fG),aF (aF f j a) j b=aF f j b:=λf a b=>funext λk=>by unfold aF;split<;>rfl
 cases st with
 |none=>show aF (aF m.ag j _) j _=_;rw[u];show aF m.ag j {(aF m.ag j _ j)with cp:=O}=_;rw[bE];rfl
 |some x=>show aF (aF (aF m.ag j _) j _) j _=_;rw[u,u];show aF m.ag j {(aF (aF m.ag j _) j _ j)with cp:=O}=_;rw[bE];show aF m.ag j {({(aF m.ag j _ j)with a6:=_::(aF m.ag j _ j).a6}:fG)with cp:=O}=_;rw[bE];rfl
def R.QD(h:R g T s m){st:Option cJ}{aT:List (Nat×Nat×Nat×Option cJ)}(hc:c<m.a9)(o:(m.aH c).dn=(j,f,a,st)::aT):
  ∃l b,j∈s.waiting/\(T j).now=.takes l/\(l.find? λb=>b.1==c)=Y b/\g.ci f a=Y (.cell b.2.1)/\∃ps,
  R {g with bW:=aF g.bW j ps} (aF T j {T j with jobs:=b.2.2,now:=.ready}) {s with tasks:=(s.set j {T j with jobs:=b.2.2,now:=.ready}).tasks,ready:=s.ready++[j],waiting:=s.waiting.filter λk=>k != j} (m.lF j f st):=by
 let#[l,W,n,hf]:=h.FR hc o
 let H:=((h.hh j).mp W).1
 cases h.ag j H with
 |cp e=>cases n▸e
 |ni e=>cases n▸e
 |k6 e=>cases n▸e
 |l7 e=>cases n▸e
 |d4 e=>cases n▸e
 |@bI fq p F ii D ar E dj fl kL=>
  cases n▸D;let#[b,ae,cW,dD,jA,z8,Q]:=(fl.ya c).1 _ hf;subst dD;let A:nj T j {T j with jobs:=b.2.2,now:=.ready}:=#[Z,by rw[n];rfl,(λk z=>by rw[n]at z;cases z),(λk z=>by cases z)];let jU:=h.iI.jU j;rw[E]at jU;let#[dW,V]:=q8.mp jU;let mp:p∈g.bW j:=by rw[E];show fD ..
  let bQ:∀q∈F,q∈g.bW j:=λq o=>by rw[E];show e9 _ o
  let K:=Ys m j p.f st;obtain⟨ps,k8,CJ,Yt⟩:∃ps,jd g.ci b.2.2 ((m.lF j p.f st).ag j).a6 ps/\(∀q∈ps,∃r∈g.bW j,Within q r)/\ps.Pairwise ng:=by
   rw[K,bE]
   cases st with
   |none=>show#[F,(show b.2.2=_ from Q)▸dj,λq o=>#[q,bQ q o,Within.hW q],V]
   |some x=>
    let#[t,e,q,fb,f7,S,_]:=Q;show#[q::F,by rw[fb];show .cB f7 dj,λI o=>?_,q8.mpr #[λr G=>(dW r G).uG S,V]];obtain z|z:=eG.mp o
    .rw[z];show#[p,mp,S]
    .show#[I,bQ I z,Within.hW I]
  show#[l,b,W,n,ae,jA,ps,?_];let CI:j∉s.ready:=λz=>by have:=(h.ij j z).2;cases n▸this
  let X:∀k,k≠j->aF T j {T j with jobs:=b.2.2,now:=.ready} k=T k:=λk e=>bC _ _ e;let QE:∀k,k≠j->(m.lF j p.f st).ag k=m.ag k:=λk e=>by rw[K,bC _ _ e]
  let P:((m.lF j p.f st).ag j).cp=O/\((m.lF j p.f st).ag j).bI=[]/\((m.lF j p.f st).ag j).hp=(m.ag j).hp:=by rw[K,bE];show#[Z,Z,Z]
  let M:∀d,(m.lF j p.f st).aH d=if d∈(m.ag j).bI then {m.aH d with dn:=(m.aH d).dn.filter λt=>t.1 != j}else m.aH d:=λd=>by cases st<;>rfl
  let Yu:(m.lF j p.f st).az=m.az/\(m.lF j p.f st).a9=m.a9/\(m.lF j p.f st).a5=m.a5/\(m.lF j p.f st).a0=m.a0/\(m.lF j p.f st).d4=m.d4/\(m.lF j p.f st).c3=m.c3/\(m.lF j p.f st).cg=m.cg/\(m.lF j p.f st).fx=m.fx:=by cases st<;>show#[Z,Z,Z,Z,Z,Z,Z,Z]
  let#[v,L,s3,s4,s5,pA,pB,CK]:=Yu;show#[by show(s.tasks.set j _).length=_;rw[k3,v];show h.az,by rw[L];show h.a9,by rw[pA];show h.cl,by rw[pB];show h.cg,by rw[CK];show h.st,by rw[s5,v];show A.gZ h,λk i=>?_,λk i=>#[?_,by rw[A.jz];show(h.bB k (by rwa[v]at i)).2],λk i=>?_,λd=>?_,λd=>?_,λd hd=>?_,?_,by rw[L,s3];show h.jX,h.hL,λk q o=>?_,h.l8.filter _,λk=>?_,?_,λk i=>?_,?_,by rw[v];show A.jf h,by rw[v];show A.jx h]
  .rw[v]at i;rw[A.jz,<-h.gl k i];by_cases e:k=j
   .subst e;show P.2.2
   .rw[QE k e]
  .rw[v]at i;let e:k≠j:=λz=>by subst z;show a8 H (p6.mpr i)
   show aF g.bW j ps k=[];rw[bC _ _ e];show(h.bB k i).1
  .rw[v]at i;show mL g.ci (aF T j _ k) _ (aF g.bW j ps k) (g.es k);by_cases e:k=j
   .subst e;rw[bE,bE];show .cp Z P.1 P.2.1 k8
   .rw[bC _ _ e,bC _ _ e,QE k e];show h.ag k i
  .show _=(s.waiting.filter λk=>k != j).filterMap _;rw[FP (gC T d) _ _ j λb _ N=>by unfold gC;rw[X b N],CG _ (λ_ _=>wg),<-h.jW d];let D:((m.lF j p.f st).aH d).ep=(m.aH d).ep:=by rw[M];split<;>rfl
   rw[D];show(wh λu C=>?_).symm;rw[h.jW d]at C;let#[_,y]:=uL (λ_ _=>wg) C;have:u.1≠j:=λz=>by rw[z]at y;unfold gC at y;cases n▸y
   simpa using this
  .show _=(s.waiting.filter λk=>k != j).filterMap _;rw[FP (hg T g.es d) _ _ j λb _ N=>by unfold hg;rw[X b N],CG _ (λ_ _=>z7),<-h.kh d,M];by_cases e:d∈(m.ag j).bI
   .rw[aR e]
   .rw[aM e];show(wh λu C=>?_).symm;rw[h.kh d]at C;let#[_,y]:=uL (λ_ _=>z7) C;have:u.1≠j:=λz=>by rw[z]at y;unfold hg at y;rw[n]at y;let#[hE,wj,_]:=iW.mp y;show e ?_;rw[kL,FQ,s6];show#[hE,xS wj,by simpa using zO wj]
    simpa using this
  .rw[L]at hd;rw[M,h.eT d hd];split<;>rfl
  .intro fy gw x q;rw[s4];show h.ki fy gw x q
  .rw[s3];by_cases e:k=j
   .subst e;let B:q∈aF g.bW k ps k:=o;rw[bE]at B;let#[r,G,w]:=CJ q B;rw[w.1];show h.kj k r G
   .let B:q∈aF g.bW j ps k:=o;rw[bC _ _ e]at B;show h.kj k q B
  .rw[v,vW];by_cases e:k=j
   .subst e;rw[bE];show#[λz=>by simp at z,λz=>by cases z.2]
   .show(bC _ _ e)▸#[λz=>(h.hh k).mp z.1,λz=>#[(h.hh k).mpr z,by simpa using e]]
  .show vT.mpr #[h.gD,bg,λa ax b ae z=>CI (by rw[<-gX.mp ae,<-z];show ax)]
  .rw[v];obtain z|z:=iV.mp i
   .let e:k≠j:=λw=>CI (by rwa[<-w]);rw[bC _ _ e];show h.ij k z
   .let e:=gX.mp z;subst e;rw[bE];show#[H,Z]
  .show A.x9▸(h.iI.Cz (h.Yr λk z=>by rw[n]at z;cases z) Yt λq o=>.inl<|CJ q o)
structure Rest(m aO:aA):Prop where
 az:aO.az=m.az
 a9:aO.a9=m.a9
 a5:aO.a5=m.a5
 a0:aO.a0=m.a0
 b5:aO.b5=m.b5
 d4:aO.d4=m.d4
 c3:aO.c3=m.c3
 cg:aO.cg=m.cg
 fx:aO.fx=m.fx
def R.Yv(h:R g T s m)(w:s.ready=i::row)
  (F:g.bW i=p::d5) (I:jd g.ci ii ts d5) (v:dE (uI g.ci ii p) l es) (H:∀b∈es,b.1<m.a9) (q:Rest m aO)
  (B:aO.ag=aF m.ag i {m.ag i with a6:=ts,cp:=J,bI:=rh (es.map (·.1))})
  (r:∀d,(aO.aH d).ep=(m.aH d).ep/\(aO.aH d).dn=(m.aH d).dn++((es.find? λb=>b.1==d).map λb=>(i,b.2)).toList):
  R {g with es:=aF g.es i es} (aF T i {T i with jobs:=[],now:=.takes l}) {s with tasks:=(s.set i {T i with jobs:=[],now:=.takes l}).tasks,ready:=row,waiting:=s.waiting++[i]} aO:=by
 let#[ak,y]:=h.ij i (by rw[w];show fD ..)
 let gD:=h.gD
 rw[w]at gD
 let n:nj T i {T i with jobs:=[],now:=.takes l}:=#[Z,by rw[y];rfl,(λk z=>by rw[y]at z;cases z),(λk z=>by cases z)]
 let C:i∉s.waiting:=λz=>by have:=((h.hh i).mp z).2;cases y▸this
 let u:∀b∈s.waiting,b≠i:=λb ae z=>C (by rw[<-z];show ae)
 show#[by show(s.tasks.set i _).length=_;rw[k3,q.az];show h.az,by rw[q.a9];show h.a9,by rw[q.c3];show h.cl,by rw[q.cg];show h.cg,by rw[q.fx];show h.st,by rw[q.d4,q.az];show n.gZ h,λj c=>?_,λj c=>?_,λj c=>?_,λd=>?_,λd=>?_,λd A=>?_,λf a x z=>?_,by rw[q.a9,q.a5];show h.jX,h.hL,by rw[q.a5];show h.kj,?_,λj=>?_,(l2.mp gD).2,λj c=>?_,?_,by rw[q.az];show n.jf h,by rw[q.az];show n.jx h]
 .rw[q.az]at c;rw[n.jz,<-h.gl j c,B];by_cases e:j=i
  .subst e;rw[bE]
  .rw[bC _ _ e]
 .rw[q.az]at c;show#[(h.bB j c).1,by rw[n.jz];show(h.bB j c).2]
 .rw[q.az]at c;rw[B];show mL g.ci (aF T i _ j) (aF m.ag i _ j) (g.bW j) (aF g.es i es j);by_cases e:j=i
  .subst e;rw[bE,bE,bE];show .bI Z Z F I v Z
  .rw[bC _ _ e,bC _ _ e,bC _ _ e];show h.ag j c
 .show _=(s.waiting++[i]).filterMap _;rw[FO (gC T d) _ s.waiting i λb ae=>by unfold gC;rw[bC _ _<|u b ae],(r d).1,h.jW d];let t:gC (aF T i {T i with jobs:=[],now:=.takes l}) d i=none:=by unfold gC;rw[bE]
  rw[t];simp
 .show _=(s.waiting++[i]).filterMap (hg _ (aF g.es i es) d);rw[FO (hg T g.es d) _ s.waiting i λb ae=>by unfold hg;rw[bC _ _<|u b ae,bC _ _<|u b ae],(r d).2,h.kh d];let t:hg (aF T i {T i with jobs:=[],now:=.takes l}) (aF g.es i es) d i=(es.find? λb=>b.1==d).map λb=>(i,b.2):=by unfold hg;rw[bE,bE]
  rw[t]
 .rw[q.a9]at A
  let o:=r d
  let G:(es.find? λb=>b.1==d)=none:=E0.mpr λb ae z=>by
   have:=H b ae;let K:b.1=d:=by simpa using z
   lia
  rw[G,h.eT d A]at o
  cases E:aO.aH d with
  |mk a b=>rw[E]at o;rw[show a=[]from o.1,show b=[]from by simpa using o.2]
 .rw[q.a0];show h.ki f a x z
 .show vT.mpr #[h.l8,bg,λa v b ae z=>C (by rwa[<-gX.mp ae,<-z])]
 .rw[q.az,iV,gX];by_cases e:j=i
  .subst e;rw[bE];show#[λW=>#[ak,Z],λW=>.inr Z]
  .show(bC _ _ e)▸#[λz=>z.elim (λz=>(h.hh j).mp z) λz=>a8 z e,λz=>.inl<|(h.hh j).mpr z]
 .rw[q.az];let D:=c;let e:j≠i:=λz=>(l2.mp gD).1 (by rwa[<-z]);show(bC _ _ e)▸(h.ij j (by rw[w];show e9 _ D))
 .rw[n.x9];show h.iI
theorem R.l7(h:R g T s m)(l:s.ready=i::row):
  R {g with bW:=aF g.bW i []} (aF T i {T i with now:=.stuck}) {s with tasks:=(s.set i {T i with now:=.stuck}).tasks,ready:=row} (m.dU i {m.ag i with a6:=ts,cp:=J}):=by
 let#[ak,f]:=h.ij i (by rw[l];show fD ..)
 let gD:=h.gD
 rw[l]at gD
 let b:nj T i {T i with now:=.stuck}:=#[Z,by rw[f];rfl,(λk z=>by rw[f]at z;cases z),(λk z=>by cases z)]
 let q:∀j,we (aF T i {T i with now:=.stuck} j).now=we (T j).now:=λj=>by
  by_cases e:j=i
  .subst e;rw[bE,f];rfl
  .rw[bC _ _ e]
 let o:∀c,gC (aF T i {T i with now:=.stuck}) c=gC T c:=λc=>by
  funext j
  unfold gC;by_cases e:j=i
  .subst e;rw[bE,f]
  .rw[bC _ _ e]
 let r:∀c,hg (aF T i {T i with now:=.stuck}) g.es c=hg T g.es c:=λc=>by
  funext j
  unfold hg;by_cases e:j=i
  .subst e;rw[bE,f]
  .rw[bC _ _ e]
 show#[by show(s.tasks.set i _).length=_;rw[k3];show h.az,h.a9,h.cl,h.cg,h.st,b.gZ (m:=m) h,λj a=>?_,λj a=>#[?_,by rw[b.jz];show(h.bB j a).2],λj a=>?_,λc=>by rw[o];show h.jW c,λc=>by rw[r];show h.kh c,h.eT,h.ki,h.jX,h.hL,λj p aC=>?_,h.l8,λj=>by rw[q];show h.hh j,(l2.mp gD).2,λj a=>?_,?_,b.jf (m:=m) h,b.jx (m:=m) h]
 .rw[b.jz,<-h.gl j a];show(aF m.ag i _ j).hp=_;by_cases e:j=i
  .subst e;rw[bE]
  .rw[bC _ _ e]
 .show aF g.bW i [] j=[];let e:j≠i:=λz=>by subst z;show a8 ak (p6.mpr a)
  rw[bC _ _ e];show(h.bB j a).1
 .show mL g.ci (aF T i _ j) (aF m.ag i _ j) (aF g.bW i [] j) (g.es j);by_cases e:j=i
  .subst e;rw[bE,bE,bE];show .l7 Z Z Z
  .rw[bC _ _ e,bC _ _ e,bC _ _ e];show h.ag j a
 .by_cases e:j=i
  .subst e;let d:p∈aF g.bW j [] j:=aC;rw[bE]at d;cases d
  .let d:p∈aF g.bW i [] j:=aC;rw[bC _ _ e]at d;show h.kj j p d
 .let n:=a;let e:j≠i:=λz=>(l2.mp gD).1 (by rwa[<-z]);show(bC _ _ e)▸(h.ij j (by rw[l];show e9 _ n))
 .rw[b.x9];show h.iI.Qy i
def Yw(h:FM (z9 cells) a9 x):wa (cells++[v]) x=wa cells x:=by
 cases x with
 |chan c=>rfl
 |cell k=>show oJ.cA _=oJ.cA _;rw[q6,q6,vQ h]
def R.QF(h:R g T s m)(v:Int):R g T {s with cells:=s.cells++[v]} {m with c3:=m.c3+1}:=
 #[h.az,h.a9,by rw[ju,h.cl];rfl,h.cg,h.st,h.fa,h.gl,h.bB,h.ag,h.jW,h.kh,h.eT,λf a x e=>by rw[Yw (h.jX f a x e).2];show h.ki f a x e,λf a x e=>by
  let#[d,b]:=h.jX f a x e
  show#[d,?_]
  cases x with
  |chan c=>show b
  |cell k=>rw[ju];show eR b<|EM _ _,h.hL,h.kj,h.l8,h.hh,h.gD,h.ij,h.iI,h.jf,h.jx]
def R.Yx(h:R g T s m):R g T {s with chans:=s.chans+1} {m with a9:=m.a9+1,aH:=aF m.aH m.a9 #[[],[]]}:=by
 let e:aF m.aH m.a9 #[[],[]]=m.aH:=by
  funext c
  by_cases z:c=m.a9
  .rw[z,bE,h.eT _<|bK _]
  .rw[bC _ _ z]
 rw[e];show#[h.az,by rw[h.a9],h.cl,h.cg,h.st,h.fa,h.gl,h.bB,h.ag,h.jW,h.kh,λc i=>h.eT c<|rW i,h.ki,λf a x q=>by
  let#[d,b]:=h.jX f a x q
  show#[d,?_]
  cases x with
  |chan c=>show pj b
  |cell k=>show b,h.hL,h.kj,h.l8,h.hh,h.gD,h.ij,h.iI,h.jf,h.jx]
def R.Yy(h:R g T s m)(fr:jw):R g T s {m with a5:=m.a5+1,a0:=aF m.a0 m.a5 fr}:=
 #[h.az,h.a9,h.cl,h.cg,h.st,h.fa,h.gl,h.bB,h.ag,h.jW,h.kh,h.eT,λf a x e=>by show aF m.a0 m.a5 fr f a=_;rw[bC _ _<|eg (h.jX f a x e).1];show h.ki f a x e,λf a x e=>#[pj (h.jX f a x e).1,(h.jX f a x e).2],h.hL,λj p aC=>pj<|h.kj j p aC,h.l8,h.hh,h.gD,h.ij,h.iI,h.jf,h.jx]
theorem uI.gp{j:List Job}{p:fh}{b:Nat×Nat×List Job}{a:uH}(h:uI ci j p b a){f s:Nat}{x:vP}(n:p.f=f->¬p.kJ s):uI (gp ci f s x) j p b a:=by
 let#[u,l,o,d,c]:=h;show#[u,l,?_,d,?_]
 .rw[v9 λz=>n z.1 (by rwa[<-z.2])];show o
 .cases q:a.2.2.2 with
  |none=>rwa[q]at c
  |some y=>rw[q]at c;let#[t,e,r,k,m,i,g]:=c;show#[t,e,r,k,m.gp λz v=>n (i.1.symm.trans z)<|g s v,i,g]
theorem mL.gp{t:Task}{x:fG}{bW:List fh}{es:List uH}(h:mL ci t x bW es){f s:Nat}{y:vP}(n:∀p∈bW,p.f=f->¬p.kJ s):mL (gp ci f s y) t x bW es:=by
 cases h with
 |cp a b c d=>show .cp a b c<|d.gp n
 |ni a b c d=>show .ni a b c<|d.gp n
 |bI a b c d e r=>subst c;show .bI a b Z (d.gp λp aC=>n p<|e9 _ aC) (e.hK λq q q z=>z.gp<|n _<|fD ..) r
 |k6 a b c d e=>show .k6 a b c d<|e.gp n
 |l7 a b c=>show .l7 a b c
 |d4 a b=>show .d4 a b
def R.lG(h:R g T s m)(v:f<m.a5)(ae:FM (z9 s.cells) m.a9 x)(u:∀k,x=.cell k->∀d c,g.ci d c≠Y (.cell k))(C:∀j q,q∈g.bW j->q.f=f->¬q.kJ a):
  R {g with ci:=gp g.ci f a x} T s (m.hI f a<|wa s.cells x):=by
 show#[h.az,h.a9,h.cl,h.cg,h.st,h.fa,h.gl,h.bB,λj B=>(h.ag j B).gp<|C j,h.jW,h.kh,h.eT,λd c y q=>?_,λd c y q=>?_,λr t o p k A w=>?_,h.kj,h.l8,h.hh,h.gD,h.ij,h.iI,h.jf,h.jx]
 .rw[Qz];let b:gp g.ci f a x d c=Y y:=q;by_cases z:d=f/\c=a
  .rw[aR z];unfold gp at b;rw[aR z]at b;cases b;rfl
  .rw[aM z];rw[v9 z]at b;show h.ki d c y b
 .let b:gp g.ci f a x d c=Y y:=q;by_cases z:d=f/\c=a
  .unfold gp at b;rw[aR z]at b;cases b;rw[z.1];show#[v,ae]
  .rw[v9 z]at b;show h.jX d c y b
 .let i:gp g.ci f a x r t=Y (.cell k):=A;let e:gp g.ci f a x o p=Y (.cell k):=w;by_cases n:r=f/\t=a
  .by_cases l:o=f/\p=a
   .show#[n.1.trans l.1.symm,n.2.trans l.2.symm]
   .unfold gp at i;rw[aR n]at i;rw[v9 l]at e;show a8 e<|u k (iX i) _ _
  .rw[v9 n]at i;by_cases l:o=f/\p=a
   .unfold gp at e;rw[aR l]at e;show a8 i<|u k (iX e) _ _
   .rw[v9 l]at e;show h.hL _ _ _ _ _ i e
def R.QG(h:R g T s m)(f a:Nat):g.ci f a≠Y (.cell (z9 s.cells)):=λe=>a8 (h.jX f a _ e).2<|m8 _
def QH(n k:Nat)(p:Nat->Bool):gZ (n+k) p=gZ n p+gZ k λj=>p<|n+j:=by unfold gZ;rw[List.range_add,Jh,ju,List.filter_map,hR];rfl
def QI(h:∀i,i<n->p i=O):gZ n p=n:=by unfold gZ;rw[wh λi ak=>h i<|nc.mp ak,Ji]
def Kc(h:∀i,i<n->p i=J):gZ n p=0:=by unfold gZ;rw[ut,Ja];intro i ak;rw[h i<|nc.mp ak];decide
def Kd(h:gZ n p=0):∀i,i<n->p i=false:=λi ak=>by
 unfold gZ at h
 rw[ut,Ja]at h
 cases q:p i with
 |false=>rfl
 |true=>show a8 q<|h i<|nc.mpr ak
theorem pw.bW(g:ha ci e p):∀{l:List Stmt}{r:List cJ}{n n':Nat},pw p.sc n l r n'->p.n<=n->n'<=p.n'->
  ∃d:List fh,jd ci (l.map λt=>.stmt t e) (r.map λx=>(.cq x,p.f)) d/\(∀c∈d,Within c p/\c.sc=p.sc/\c.f=p.f/\n<=c.n)/\d.Pairwise nh
 |_,_,_,_,.dg,_,_=>#[[],.dg,λW h=>(nomatch h),.nil]
 |_,_,n,n',.cB (cb:=cb) a b,h1,aj=>by
  let#[d,j,w,s]:=pw.bW g b (dK h1 a.le) aj;show#[#[p.f,p.sc,n,cb]::d,.cB (.cq (g.x3 h1) a) j,λc m=>?_,q8.mpr #[λc m=>?_,s]]
  .obtain z|z:=eG.mp m
   .rw[z];show#[x4 h1<|dK b.le aj,Z,Z,bK _]
   .let#[u,i,B,A]:=w c z;show#[u,i,B,dK a.le A]
  .let#[u,i,B,A]:=w c m;intro W t;let lo:∀t,c.kJ t->t<n:=λt v=>by let#[y,k,q]:=v;rw[i]at q;show eR (g.2 t #[y,k,q]) h1
   show#[λo=>#[λv=>?_,λC=>?_],λo v=>?_]
   .have:=lo t v;have:=o.1;simp only at this;lia
   .have:=o.2;have:=C.1;simp only at *;lia
   .have:=(λt v=>eR (g.2 t v) h1) t v;have:=o.1;have:=a.le;lia
def jd.pC(h:jd ci eC ts ps):z9 ps=z9 eC/\∀(k:Nat) (j:Job),eC[k]?=Y j->∃t p,ts[k]?=Y t/\ps[k]?=Y p/\wb ci j t p:=by
 induction h with
 |dg=>show#[Z,λk j e=>by simp at e]
 |cB a _ b=>
  show#[by simp[b.1],λk j e=>?_]
  cases k with
  |zero=>simp at e;subst e;show#[_,9,Z,a]
  |succ k=>simpa using b.2 k j (by simpa using e)
noncomputable def oM(T:Nat->Task)(n i:Nat)(a:List Job)(l:List Stmt)(e:Env):Nat->Task:=λk=>
 if k=i then {T i with jobs:=a,now:=.waits (z9 l)}else if k<n then T k else match l[k-n]? with
  |some t=>#[[.stmt t e],.ready,Y i]
  |none=>T k
theorem R.J5(h:R g T s m)(K:s.ready=i::row)(kK:m.b5=row)
  (X:g.bW i=p::d5) (aW:jd g.ci C ts d5) (he:ha g.ci e p) (aC:pw p.sc p.n l I p.n') (hl:l≠[])
  (es:s'={s with tasks:=s'.tasks,ready:=row++(gK l.length).map λk=>m.az+k}) (kk:s'.tasks.length=m.az+l.length):
  ∃bW,R {g with bW:=bW} (oM T m.az i C l e) s' {m with az:=m.az+l.length,b5:=m.b5++(gK l.length).map (λk=>m.az+k),ag:=aF (aA.uF (aF m.ag i {m.ag i with a6:=ts}) m.az i p.f I) i {m.ag i with a6:=ts,ey:=l.length,cp:=J}}:=by
 let#[ak,A]:=h.ij i (by rw[K];show fD ..)
 let gD:=h.gD
 rw[K]at gD
 let#[F,FS,QJ,Yz]:=aC.bW he (bK _)<|bK _
 let#[cl,cm]:=FS.pC
 rw[hR]at cl
 let ri:I.length=l.length:=by have:=FS.tj;simpa using this.symm
 let TI:oM T m.az i C l e i={T i with jobs:=C,now:=.waits l.length}:=aR Z
 let dO:∀k,k≠i->k<m.az->oM T m.az i C l e k=T k:=λk S o=>by unfold oM;rw[aM S,aR o]
 let YA:∀k y,l[k]?=Y y->oM T m.az i C l e (m.az+k)=#[[.stmt y e],.ready,Y i]:=λk y q=>by unfold oM;rw[aM aV,aM aV,show m.az+k-m.az=k by lia,q]
 let QK:∀k,m.az+l.length<=k->oM T m.az i C l e k=T k:=λk q=>by unfold oM;rw[aM aV,aM aV,qa aV]
 let M:∀k,k<m.az->(oM T m.az i C l e k).parent=(T k).parent:=λk r=>by
  by_cases z:k=i
  .subst z;rw[TI]
  .rw[dO k z r]
 let Q:∀k,k<m.az->hb (oM T m.az i C l e k).now=hb (T k).now:=λk r=>by
  by_cases z:k=i
  .subst z;rw[TI,A];rfl
  .rw[dO k z r]
 let u:∀k,k<l.length->∃y,l[k]?=Y y/\oM T m.az i C l e (m.az+k)=#[[.stmt y e],.ready,Y i]:=λk r=>#[l[k],pq r,YA k _<|pq r]
 let L:∀b∈s.waiting,b≠i/\b<m.az:=λb ae=>by let#[W,N]:=(h.hh b).mp ae;show#[λz=>(by rw[z,A]at N;cases N),W]
 let P:s'.waiting=s.waiting:=by rw[es]
 let pD:s'.ready=row++(gK l.length).map λk=>m.az+k:=by rw[es]
 let V:s'.cells=s.cells:=by rw[es]
 let iI:=h.iI.J5 (wc:=λk=>(oM T m.az i C l e k).parent) (h.FN A) X ak (λj v=>(h.bB j v).1) (λj v=>(h.bB j v).2) (λj v=>M j v) (λj v k q=>by
  by_cases z:j<m.az+l.length
  .let#[y,_,o]:=u (j-m.az) aV;rw[show m.az+(j-m.az)=j by lia]at o;cases o▸q;show#[Z,by rwa[cl]]
  .rw[QK j aV,(h.bB j v).2]at q;cases q) (λj v D=>by
  let#[y,_,o]:=u (j-m.az) aV;rw[show m.az+(j-m.az)=j by lia]at o;rw[o]) (λc hc=>(QJ c hc).1) Yz
 show#[λk=>if k=i then d5 else if k<m.az then g.bW k else match F[k-m.az]? with|some c=>[c]|none=>[],#[kk,by rw[es];show h.a9,by rw[V];show h.cl,by rw[es];show h.cg,by rw[es];show h.st,?_,λj v=>?_,λj v=>?_,λj v=>?_,λc=>?_,λc=>?_,h.eT,by rw[V];show h.ki,by rw[V];show h.jX,h.hL,λj q aS=>?_,by rw[P];show h.l8,λj=>?_,?_,λj v=>?_,iI,λj v FW k r=>?_,λj n v E=>?_]]
 .show m.d4=gZ (m.az+l.length) _;rw[QH,Kc (n:=l.length) λk r=>by let#[y,_,o]:=u k r;rw[o];rfl,h.fa];show x7 λk r=>(Q k r).symm
 .show(aF (aA.uF _ m.az i p.f I) i _ j).hp=_;by_cases z:j=i
  .subst z;rw[bE,TI];show h.gl j ak
  .rw[bC _ _ z];unfold aA.uF;by_cases t:j<m.az
   .rw[aR t,bC _ _ z,dO j z t];show h.gl j t
   .rw[aM t];let D:j<m.az+l.length:=v;let#[y,_,o]:=u (j-m.az) aV;rw[show m.az+(j-m.az)=j by lia]at o;rw[o,pq<|show j-m.az<I.length by lia]
 .let D:m.az+l.length<=j:=v;show#[?_,?_]
  .show(if j=i then d5 else if j<m.az then g.bW j else match F[j-m.az]? with|some c=>[c]|none=>[])=[];rw[aM aV,aM aV,qa aV]
  .rw[QK j D];show(h.bB j aV).2
 .show mL g.ci (oM T m.az i C l e j) (aF (aA.uF _ m.az i p.f I) i _ j) (if j=i then d5 else if j<m.az then g.bW j else match F[j-m.az]? with|some c=>[c]|none=>[]) (g.es j);by_cases z:j=i
  .subst z;rw[bE,TI,aR Z];let a3:(m.ag j).bI=[]:=by
    cases h.ag j ak with
    |cp a b c d=>show c
    |ni e=>cases A▸e
    |bI e=>cases A▸e
    |k6 e=>cases A▸e
    |l7 e=>cases A▸e
    |d4 e=>cases A▸e
   show .k6 Z Z a3 Z aW
  .rw[bC _ _ z,aM z];unfold aA.uF;by_cases t:j<m.az
   .rw[aR t,aR t,bC _ _ z,dO j z t];show h.ag j t
   .rw[aM t,aM t]
    let D:j<m.az+l.length:=v
    let#[y,S,o]:=u (j-m.az) aV
    rw[show m.az+(j-m.az)=j by lia]at o
    let#[yc,c,g1,g2,g3]:=cm (j-m.az) (.stmt y e) (by rw[r4,S];rfl)
    rw[r4]at g1
    rw[o,g2]
    cases q:I[j-m.az]? with
    |none=>cases q▸g1
    |some x=>cases q▸g1;show .cp Z Z Z<|.cB g3 .dg
 .rw[P,h.jW c];show(CF λb ae=>by unfold gC;rw[dO b (L b ae).1 (L b ae).2]).symm
 .rw[P,h.kh c];show(CF λb ae=>by unfold hg;rw[dO b (L b ae).1 (L b ae).2]).symm
 .let B:q∈(if j=i then d5 else if j<m.az then g.bW j else match F[j-m.az]? with|some c=>[c]|none=>[]):=aS;by_cases z:j=i
  .rw[aR z]at B;show h.kj i q (by rw[X];show e9 _ B)
  .rw[aM z]at B;by_cases t:j<m.az
   .rw[aR t]at B;show h.kj j q B
   .rw[aM t]at B
    cases w:F[j-m.az]? with
    |none=>rw[w]at B;cases B
    |some c=>rw[w]at B;rw[gX.mp B,(QJ c<|mF w).2.2.1];show(h.kj i p (by rw[X];show fD ..))
 .rw[P,h.hh j];show _↔j<m.az+l.length/\_;by_cases z:j=i
  .subst z;rw[TI,A];show#[λw=>(by cases w.2),λw=>(by cases w.2)]
  .by_cases t:j<m.az
   .show(dO j z t)▸#[λw=>#[aV,w.2],λw=>#[t,w.2]]
   .show#[λw=>a8 w.1 t,λw=>?_];let#[y,_,o]:=u (j-m.az) aV;rw[show m.az+(j-m.az)=j by lia]at o;rw[o]at w;cases w.2
 .rw[pD];show vT.mpr #[(l2.mp gD).2,((List.nodup_range).map _ λa b H z=>H aV),λa ax b ae z=>?_]
  .let#[k,r,o]:=s6.mp ae;have:=(h.ij a (by rw[K];show e9 _ ax)).1;lia
 .rw[pD]at v;show j<m.az+l.length/\_;obtain z|z:=iV.mp v
  .let H:j≠i:=λw=>(l2.mp gD).1 (by rwa[<-w]);let#[W,N]:=h.ij j (by rw[K];show e9 _ z);rw[dO j H W];show#[aV,N]
  .let#[k,r,o]:=s6.mp z;let qj:=nc.mp r;let#[y,_,bp]:=u k qj;rw[<-o,bp];show#[aV,Z]
 .let D:j<m.az+l.length:=v;by_cases t:j<m.az
  .rw[Q j t]at FW;rw[M j t]at r;let#[n,G]:=h.jf j t FW k r;let H:k≠i:=λw=>by rw[w,A]at G;cases G
   show#[n,by rwa[dO k H<|nU (h.iI.lt j k r) t]]
  .let#[y,_,o]:=u (j-m.az) aV;rw[show m.az+(j-m.az)=j by lia]at o;cases o▸r;show#[l.length,by rw[TI]]
 .let D:j<m.az+l.length:=v;rw[QH];by_cases z:j=i
  .subst z;rw[TI]at E;cases E;rw[Kc λk r=>?_,QI λk r=>?_]
   .lia
   .let#[y,_,o]:=u k r;rw[o];simp[hb]
   .rw[M k r,Q k r]
    cases q:hb (T k).now with
    |true=>simp
    |false=>
     have:(T k).parent≠Y j:=λw=>by let#[n,G]:=h.jf k r q j w;cases A▸G
     simp[this]
  .by_cases t:j<m.az
   .rw[dO j z t]at E;rw[h.jx j n t E,Kc (n:=l.length) λk r=>by let#[y,_,o]:=u k r;rw[o];have:¬ ((Y i:Option Nat)=Y j):=λw=>z (iX w).symm;simp[this]]
    show x7 λk r=>by rw[M k r,Q k r]
   .let#[y,_,o]:=u (j-m.az) aV;rw[show m.az+(j-m.az)=j by lia]at o;rw[o]at E;cases E
def R.Ke(h:R g T s m)(F:s.ready=i::row)
  (u:jD i={T i with jobs:=[],now:=.over}) (au:(r9 i).hp=(m.ag i).hp)
  (aC:∀j,j≠i->(jD j).parent=(T j).parent/\hb (jD j).now=hb (T j).now/\we (jD j).now=we (T j).now/\(r9 j).hp=(m.ag j).hp)
  (same:∀j,j≠i->(T i).parent≠Y j->jD j=T j/\r9 j=m.ag j)
  (r:∀p n,(T i).parent=Y p->(T p).now=.waits n->(jD p).jobs=(T p).jobs/\(r9 p).a6=(m.ag p).a6/\(r9 p).bI=(m.ag p).bI/\
   ((n=1/\(jD p).now=.ready/\(r9 p).cp=O/\bG=row++[p])\/(1<n/\(jD p).now=.waits (n-1)/\(r9 p).cp=(m.ag p).cp/\(r9 p).ey=(m.ag p).ey-1/\bG=row)))
  (B:(T i).parent=U->bG=row)
  (es:s'={s with tasks:=s'.tasks,ready:=bG}) (kk:z9 s'.tasks=z9 s.tasks):
  R {g with bW:=aF g.bW i []} jD s' {m with d4:=m.d4+1,ag:=r9,b5:=bG}:=by
 let#[ak,v]:=h.ij i (by rw[F];show fD ..)
 let gD:=h.gD
 rw[F]at gD
 let H:s'.waiting=s.waiting:=by rw[es]
 let P:s'.ready=bG:=by rw[es]
 let L:s'.cells=s.cells:=by rw[es]
 let jz:∀j,(jD j).parent=(T j).parent:=λj=>by
  by_cases e:j=i
  .subst e;rw[u]
  .show(aC j e).1
 let up:∀p,(T i).parent=Y p->p≠i/\p<m.az/\∃n,(T p).now=.waits n/\1<=n:=λp C=>by
  let#[n,f]:=h.jf i ak (by rw[v];rfl) p C;let lt:=h.iI.lt i p C;show#[eg lt,nU lt ak,n,f,?_];let c:=h.jx p n (nU lt ak) f;obtain z|z:=OA n
  .subst z;have:=Kd c.symm i ak;rw[C,v]at this;simp[hb]at this
  .show z
 let wE:∀j,we (jD j).now=we (T j).now:=λj=>by
  by_cases e:j=i
  .subst e;rw[u,v];rfl
  .show(aC j e).2.2.1
 let CD:∀c,gC jD c=gC T c:=λc=>by
  funext j
  unfold gC;by_cases e:j=i
  .subst e;rw[u,v]
  .by_cases l:(T i).parent=Y j
   .let#[_,_,n,f,_]:=up j l;obtain⟨_,_,_,z|z⟩:=r j n l f
    .rw[z.2.1,f]
    .rw[z.2.1,f]
   .rw[(same j e l).1]
 let CE:∀c,hg jD g.es c=hg T g.es c:=λc=>by
  funext j
  unfold hg;by_cases e:j=i
  .subst e;rw[u,v]
  .by_cases l:(T i).parent=Y j
   .let#[_,_,n,f,_]:=up j l;obtain⟨_,_,_,z|z⟩:=r j n l f
    .rw[z.2.1,f]
    .rw[z.2.1,f]
   .rw[(same j e l).1]
 let pin:∀p,(T i).parent=Y p->p∉row:=λp C z=>by let#[_,_,n,f,_]:=up p C;have:=(h.ij p (by rw[F];show e9 _ z)).2;cases f▸this
 let S:bG=row\/∃p,(T i).parent=Y p/\(jD p).now=.ready/\bG=row++[p]:=by
  cases q:(T i).parent with
  |none=>show .inl<|B q
  |some p=>
   let#[_,_,n,f,_]:=up p q;obtain⟨_,_,_,z|z⟩:=r p n q f
   .show .inr #[p,Z,z.2.1,z.2.2.2]
   .show .inl z.2.2.2.2
 show#[kk.trans h.az,by rw[es];show h.a9,by rw[L];show h.cl,by rw[es];show h.cg,by rw[es];show h.st,?_,λj o=>?_,λj o=>#[?_,by rw[jz];show(h.bB j o).2],λj o=>?_,λc=>by rw[H,CD];show h.jW c,λc=>by rw[H];rw[CE];show h.kh c,h.eT,by rw[L];show h.ki,by rw[L];show h.jX,h.hL,λj p X=>?_,by rw[H];show h.l8,λj=>by rw[H,wE];show h.hh j,?_,λj o=>?_,?_,λj o G k K=>?_,λj n o y=>?_]
 .show m.d4+1=gZ m.az _;rw[J6 ak (by rw[v];rfl) (by rw[u];rfl) λj _ t=>(aC j t).2.1,h.fa]
 .show(r9 j).hp=_;rw[jz,<-h.gl j o];by_cases e:j=i
  .subst e;show au
  .show(aC j e).2.2.2
 .show aF g.bW i [] j=[];let e:j≠i:=λz=>by subst z;show a8 ak (p6.mpr o)
  rw[bC _ _ e];show(h.bB j o).1
 .show mL g.ci (jD j) (r9 j) (aF g.bW i [] j) (g.es j);by_cases e:j=i
  .subst e;rw[bE,u];show .d4 Z Z
  .rw[bC _ _ e];by_cases l:(T i).parent=Y j
   .let#[_,_,n,f,_]:=up j l
    let#[Q,N,V,z]:=r j n l f
    cases h.ag j o with
    |k6 a b c d w=>
     cases f▸a;obtain⟨_,x,A,_⟩|⟨_,x,A,D,_⟩:=z
     .show .cp x A (V.trans c) (by rwa[Q,N])
     .show .k6 x (A.trans b) (V.trans c) (by rw[D,d]) (by rwa[Q,N])
    |cp e=>cases f▸e
    |ni e=>cases f▸e
    |bI e=>cases f▸e
    |l7 e=>cases f▸e
    |d4 e=>cases f▸e
   .rw[(same j e l).1,(same j e l).2];show h.ag j o
 .let I:p∈aF g.bW i [] j:=X;by_cases e:j=i
  .subst e;rw[bE]at I;cases I
  .rw[bC _ _ e]at I;show h.kj j p I
 .rw[P];obtain z|⟨p,x,A,D⟩:=S
  .rw[z];show(l2.mp gD).2
  .show D▸(vT.mpr #[(l2.mp gD).2,bg,λa ax b ae z=>pin p x (by rw[<-gX.mp ae,<-z];show ax)])
 .rw[P]at o;let M:j∈row->j<m.az/\(jD j).now=.ready:=λo=>by
   let e:j≠i:=λz=>(l2.mp gD).1 (by rwa[<-z]);let#[h1,aj]:=h.ij j (by rw[F];show e9 _ o);show#[h1,?_];by_cases l:(T i).parent=Y j
   .show a8 o<|pin j l
   .rw[(same j e l).1];show aj
  obtain z|⟨p,x,A,D⟩:=S
  .rw[z]at o;show M o
  .rw[D]at o;obtain w|w:=iV.mp o
   .show M w
   .rw[gX.mp w];show#[(up p x).2.1,A]
 .rw[(funext jz)];show h.iI.Qy i
 .let E:j<m.az:=o;rw[jz]at K;let t:j≠i:=λz=>by subst z;cases u▸G
  rw[(aC j t).2.1]at G;let#[n,f]:=h.jf j E G k K;let wk:k≠i:=λz=>by rw[z,v]at f;cases f
  by_cases l:(T i).parent=Y k
  .obtain⟨_,_,_,z|z⟩:=r k n l f
   .exfalso;let#[x,_]:=z;let c:=h.jx k n (up k l).2.1 f;let fR:=J6 (p:=λa=>(decide ((T a).parent=Y k)&&!hb (T a).now)&&decide (a≠i)) (q:=λa=>decide ((T a).parent=Y k)&&!hb (T a).now) ak bg (by rw[l,v];simp[hb]) λa _ t=>by simp[t]
    let W:=Kd (p:=λa=>(decide ((T a).parent=Y k)&&!hb (T a).now)&&decide (a≠i)) aV j E;rw[K,G]at W;simp[t]at W
   .show#[_,z.2.1]
  .rw[(same k wk l).1];show#[n,f]
 .let E:=o;show n=gZ m.az _;let CM:j≠i:=λz=>by subst z;rw[u]at y;cases y
  by_cases l:(T i).parent=Y j
  .let#[_,_,mN,f,_]:=up j l;obtain⟨_,_,_,z|z⟩:=r j mN l f
   .rw[z.2.1]at y;cases y
   .rw[z.2.1]at y;cases y;let c:=h.jx j mN E f;let fR:=J6 (n:=m.az) (p:=λa=>decide ((jD a).parent=Y j)&&!hb (jD a).now) (q:=λa=>decide ((T a).parent=Y j)&&!hb (T a).now) ak (by rw[u];simp[hb]) (by rw[l,v];simp[hb]) λa _ t=>by rw[(aC a t).1,(aC a t).2.1]
    lia
  .rw[(same j CM l).1]at y;rw[h.jx j n E y];show x7 λa _=>?_;by_cases t:a=i
   .subst t;rw[jz];simp[l]
   .rw[(aC a t).1,(aC a t).2.1]
theorem R.nf(h:R g s.task s m)(t:s.ready=i::row)(A:m.b5=row):
  R {g with bW:=aF g.bW i []} (s.finish i).task (s.finish i) (m.nf i)/\(m.nf i).b5=(s.finish i).ready:=by
 let#[ak,G]:=h.ij i (by rw[t];show fD ..)
 let L:i<z9 s.tasks:=by rw[h.az];show ak
 let F:(s.set i {s.task i with jobs:=[],now:=.over}).task=aF s.task i {s.task i with jobs:=[],now:=.over}:=r8 s i _ L
 let I:=h.gl i ak
 cases q:(s.task i).parent with
 |none=>
  let l:s.finish i={s.set i {s.task i with jobs:=[],now:=.over}with ready:=s.ready.drop 1}:=by show(match (s.task i).parent with|none=>_|some p=>_)=_;rw[q];show{s.set i {jobs:=[],now:=.over,parent:=U}with ready:=s.ready.drop 1}={s.set i {jobs:=[],now:=.over,parent:=(s.task i).parent}with ready:=s.ready.drop 1};rw[q]
  let v:m.nf i={m with d4:=m.d4+1}:=by unfold aA.nf;rw[I,q]
  let x:(s.finish i).task=aF s.task i {s.task i with jobs:=[],now:=.over}:=by rwa[l]
  show#[?_,by rw[v,l];rw[t,A];rfl];rw[v,x];have:=h.Ke (jD:=aF s.task i {s.task i with jobs:=[],now:=.over}) (r9:=m.ag) (s':=s.finish i) t (bE ..) Z (λj r=>by rw[bC _ _ r];show#[Z,Z,Z,Z]) (λj r W=>#[bC _ _ r,Z]) (λp n a=>by rw[q]at a;cases a) (λW=>rfl) (by rw[l];rw[t];rfl) (by rw[l];show k3 ..);rwa[<-A]at this
 |some p=>
  let#[n,o]:=h.jf i ak (by rw[G];rfl) p q;let lt:=h.iI.lt i p q;let u:=eg lt;let K:=nU lt L;let H:(m.ag p).ey=n:=by
   cases h.ag p (nU lt ak)with
   |k6 a b c d w=>cases o▸a;show d
   |cp e=>cases o▸e
   |ni e=>cases o▸e
   |bI e=>cases o▸e
   |l7 e=>cases o▸e
   |d4 e=>cases o▸e
  let V:1<=n:=by
   let c:=h.jx p n (nU lt ak) o;obtain z|z:=OA n
   .subst z;have:=Kd c.symm i ak;rw[q,G]at this;simp[hb]at this
   .show z
  let S:p∉s.waiting:=λz=>by have:=((h.hh p).mp z).2;cases o▸this
  let' f:St:={s.set i {s.task i with jobs:=[],now:=.over}with ready:=s.ready.drop 1}
  let D:f.task=aF s.task i {s.task i with jobs:=[],now:=.over}:=F;let M:f.task p=s.task p:=by rw[D,bC _ _ u]
  let B:z9 f.tasks=z9 s.tasks:=k3 ..;let l:s.finish i=if n<=1 then f.wake p (f.task p).jobs else f.set p {f.task p with now:=.waits (n-1)}:=by show(match (s.task i).parent with|none=>f|some p=>match (f.task p).now with|.waits n=>if n<=1 then f.wake p (f.task p).jobs else f.set p {f.task p with now:=.waits (n-1)}|_=>f)=_;rw[q];show(match (f.task p).now with|.waits n=>if n<=1 then f.wake p (f.task p).jobs else f.set p {f.task p with now:=.waits (n-1)}|_=>f)=_;rw[M,o]
  let v:m.nf i=if n-1=0 then ({m with d4:=m.d4+1}.dU p {m.ag p with ey:=n-1}).oK p else {m with d4:=m.d4+1}.dU p {m.ag p with ey:=n-1}:=by unfold aA.nf;rw[I,q];show(if (m.ag p).ey-1=0 then _ else _)=_;rw[H]
  by_cases c:n<=1
  .let E:n-1=0:=by lia
   rw[aR c]at l;rw[aR E]at v;let x:(s.finish i).task=aF (aF s.task i {s.task i with jobs:=[],now:=.over}) p {s.task p with now:=.ready}:=by rw[l];show(f.set p {f.task p with jobs:=(f.task p).jobs,now:=.ready}).task=_;rw[r8 f p _ (by rwa[B]),D,bC _ _ u]
   let y:m.nf i={m with d4:=m.d4+1,ag:=aF m.ag p {m.ag p with ey:=n-1,cp:=O},b5:=row++[p]}:=by
    rw[v];have:aF (aF m.ag p {m.ag p with ey:=n-1}) p {(aF m.ag p {m.ag p with ey:=n-1} p)with cp:=O}=aF m.ag p {m.ag p with ey:=n-1,cp:=O}:=by
     funext k
     by_cases z:k=p
     .rw[z,bE,bE,bE]
     .rw[bC _ _ z,bC _ _ z,bC _ _ z]
    rw[<-A,<-this];rfl
   let Q:s.waiting.filter (λk=>k != p)=s.waiting:=wh λa T=>by have:a≠p:=λz=>S (by rwa[<-z]);simpa using this
   show#[?_,by rw[y,l];show row++[p]=s.ready.drop 1++[p];rw[t];rfl];rw[y,x];show h.Ke (s':=s.finish i) t (by rw[bC _ _<|c5 u,bE]) (by rw[bC _ _<|c5 u]) (λj r=>?_) (λj r C=>?_) (λN P a b=>?_) (λa=>by rw[q]at a;cases a) ?_ ?_
   .by_cases z:j=p
    .subst z;rw[bE,bE,o];show#[Z,Z,Z,Z]
    .rw[bC _ _ z,bC _ _ r,bC _ _ z];show#[Z,Z,Z,Z]
   .let z:j≠p:=λw=>C (by rwa[w]);rw[bC _ _ z,bC _ _ r,bC _ _ z];show#[Z,Z]
   .cases q▸a;cases o▸b;rw[bE,bE];show#[Z,Z,Z,.inl #[aV,Z,Z,Z]]
   .rw[l];show({f with tasks:=_,ready:=f.ready++[p],waiting:=s.waiting.filter λk=>k != p}:St)={s with tasks:=_,ready:=row++[p]};rw[Q];show({s with tasks:=_,ready:=s.ready.drop 1++[p]}:St)=_;rw[t];rfl
   .show l▸((k3 ..).trans B)
  .let E:¬n-1=0:=by lia
   rw[aM c]at l;rw[aM E]at v;let x:(s.finish i).task=aF (aF s.task i {s.task i with jobs:=[],now:=.over}) p {s.task p with now:=.waits (n-1)}:=by rw[l,r8 f p _ (by rwa[B]),D,bC _ _ u]
   let y:m.nf i={m with d4:=m.d4+1,ag:=aF m.ag p {m.ag p with ey:=n-1},b5:=row}:=by rw[v,<-A];rfl
   show#[?_,by rw[y,l];show row=s.ready.drop 1;rw[t];rfl];rw[y,x];show h.Ke (s':=s.finish i) t (by rw[bC _ _<|c5 u,bE]) (by rw[bC _ _<|c5 u]) (λj r=>?_) (λj r C=>?_) (λN P a b=>?_) (λW=>rfl) ?_ ?_
   .by_cases z:j=p
    .subst z;rw[bE,bE,o];show#[Z,Z,Z,Z]
    .rw[bC _ _ z,bC _ _ r,bC _ _ z];show#[Z,Z,Z,Z]
   .let z:j≠p:=λw=>C (by rwa[w]);rw[bC _ _ z,bC _ _ r,bC _ _ z];show#[Z,Z]
   .cases q▸a;cases o▸b;rw[bE,bE];show#[Z,Z,Z,.inr #[aV,Z,Z,by rw[H],Z]]
   .rw[l];show({s with tasks:=_,ready:=s.ready.drop 1}:St)={s with tasks:=_,ready:=row};rw[t];rfl
   .rw[l];show(k3 ..).trans B
theorem QO{P:alN->β->Prop}:∀{l:List α},(∀a∈l,(G a=U->F a=U)/\∀r,G a=Y r->∃q,F a=Y q/\P r q)->
  (l.filterMap G=[]->l.findSome? F=U)/\∀r aT,l.filterMap G=r::aT->∃q,l.findSome? F=Y q/\P r q
 |[],_=>#[λv=>rfl,λr aT e=>by cases e]
 |a::l,h=>by
  let#[i,f]:=h a<|fD ..
  let#[j,c]:=QO λb ae=>h b<|e9 _ ae
  rw[r3,EX]
  cases q:G a with
  |none=>rw[i q];show#[j,c]
  |some r=>let#[w,d,g]:=f r q;show d▸#[λe=>(by cases e),λk aT e=>(by cases e;show#[w,Z,g])]
def R.QP(h:R g s.task s m)(c:Nat):s.sender c=(m.aH c).ep.head?:=by rw[h.jW,List.head?_filterMap];rfl
def R.QQ{m:aA}(h:R g s.task s m)(c:Nat):((m.aH c).dn=[]->s.taker c=U)/\
  ∀r aT,(m.aH c).dn=r::aT->∃l b,(s.task r.1).now=.takes l/\(l.find? λb=>b.1==c)=Y b/\s.taker c=Y (r.1,b.2.1,b.2.2):=by
 let j:=QO (G:=hg s.task g.es c) (F:=λi=>match (s.task i).now with
   |.takes l=>(l.find? λb=>b.1==c).map λb=>(i,b.2.1,b.2.2)
   |_=>U) (P:=λr q=>∃l b,(s.task r.1).now=.takes l/\(l.find? λb=>b.1==c)=Y b/\q=(r.1,b.2.1,b.2.2)) λa z=>by
  let#[x,d]:=(h.hh a).mp z
  unfold hg
  cases h.ag a x with
  |cp e=>cases e▸d
  |k6 e=>cases e▸d
  |l7 e=>cases e▸d
  |d4 e=>cases e▸d
  |ni e=>rw[e];show#[λW=>rfl,λr q=>by cases q]
  |@bI l p D E e _ _ _ A _=>
   rw[e];let#[w,C]:=A.ya c;show#[λq=>?_,λr q=>?_]
   .let t:((g.es a).find? λb=>b.1==c)=none:=by simpa using q
    show(l.find? λb=>b.1==c).map _=U;rw[C t];rfl
   .let#[y,f,o]:=iW.mp q;let#[b,cf,cv]:=w y f;subst o;show#[(a,b.2.1,b.2.2),?_,l,b,e,cf,Z];show(l.find? λb=>b.1==c).map _=_;rw[cf];rfl
 let#[n,k]:=j
 rw[<-h.kh c]at n k
 show#[n,λr aT e=>?_]
 let#[q,f,l,b,B,v,u]:=k r aT e
 show#[l,b,B,v,by rwa[<-u]]
def CO(s:St)(i:Nat)(eC:List Job)(ak:i<z9 s.tasks):(s.go i eC).task=aF s.task i {s.task i with jobs:=eC}:=r8 s i _ ak
def QR(s:St)(i j:Nat)(r jobs:List Job)(ak:i<z9 s.tasks)(d:j<z9 s.tasks)(c:j≠i):(s.wake j jobs).go i r=(s.go i r).wake j jobs:=by
 let a:(s.wake j jobs).task i=s.task i:=by show(s.set j _).task i=_;rw[r8 s j _ d,bC _ _<|c5 c]
 let b:(s.go i r).task j=s.task j:=by rw[CO s i r ak,bC _ _ c]
 show({s with tasks:=(s.tasks.set j {s.task j with jobs:=jobs,now:=.ready}).set i {(s.wake j jobs).task i with jobs:=r},ready:=s.ready++[j],waiting:=s.waiting.filter λk=>k != j}:St)={s with tasks:=(s.tasks.set i {s.task i with jobs:=r}).set j {(s.go i r).task j with jobs:=jobs,now:=.ready},ready:=s.ready++[j],waiting:=s.waiting.filter λk=>k != j};rw[a,b,List.set_comm _ _ c]
inductive gq(i:Nat)(s:St)(m:aA):Except Bad St->Except Int aA->Prop where
 |iK (b:Bad):gq i s m (.error b) (.error<|uE b)
 |go {g:kg}{s':St}{aO:aA}{row:List Nat}:R g s'.task s' aO->s'.ready=i::row->aO.b5=row->gq i s m (.ok s') (.ok aO)
 |wl {g:kg}{s':St}{aO:aA}:R g s'.task s' aO->aO.b5=s'.ready->(aO.ag i).cp=J->gq i s m (.ok s') (.ok aO)
def R.mO(h:R g T s m)(j:s.ready=i::row):i<m.az/\(T i).now=.ready/\(m.ag i).cp=O/\(m.ag i).bI=[]/\jd g.ci (T i).jobs (m.ag i).a6 (g.bW i):=by
 let#[ak,f]:=h.ij i (by rw[j];show fD ..)
 show#[ak,f,?_]
 cases h.ag i ak with
 |cp a b c d=>show#[b,c,d]
 |ni e=>cases f▸e
 |bI e=>cases f▸e
 |k6 e=>cases f▸e
 |l7 e=>cases f▸e
 |d4 e=>cases f▸e
def R.FX(h:R g s.task s m)(d:s.ready=i::row)(e:jd g.ci eC ts ps)(aC:ps.Pairwise ng)
  (b:∀q∈ps,(∃p∈g.bW i,Within q p)\/∀j,j≠i->∀p∈g.bW j,q.f≠p.f) (c:∀q∈ps,q.f<m.a5):R {g with bW:=aF g.bW i ps} (s.go i eC).task (s.go i eC) (m.dU i {m.ag i with a6:=ts}):=by
 let#[ak,a,w,w,w]:=h.mO d
 rw[CO s i eC (by rw[h.az];show ak)]
 show h.x8 ak a e (h.iI.Cz (h.FN a) aC b) c Z<|k3 ..
def Kf(m:aA)(i:Nat)(a b:fG):(m.dU i a).dU i b=m.dU i b:=by
 have:aF (aF m.ag i a) i b=aF m.ag i b:=by
  funext k
  by_cases z:k=i
  .rw[z,bE,bE]
  .rw[bC _ _ z,bC _ _ z,bC _ _ z]
 show({m with ag:=aF (aF m.ag i a) i b}:aA)={m with ag:=aF m.ag i b};rw[this]
def sa(m:aA)(i:Nat)(ts:List (kH×Nat))(x:kH×Nat):(m.dU i {m.ag i with a6:=ts}).eh i x=m.dU i {m.ag i with a6:=x::ts}:=by unfold aA.eh;rw[Kf];show m.dU i {(aF m.ag i {m.ag i with a6:=ts} i)with a6:=x::(aF m.ag i {m.ag i with a6:=ts} i).a6}=_;rw[bE]
def ha.YC(h:ha ci e p):ng p p:=λq s o v=>a8 (h.2 s v)<|p6.mpr o.1
structure At(g:kg)(s:St)(m:aA)(i:Nat)(row:List Nat)(e:Env)(aT:List Job)(ts:List (kH×Nat))(p:fh)(d5:List fh):Prop where
 r:R g s.task s m
 bG:s.ready=i::row
 rw:m.b5=row
 kl:g.bW i=p::d5
 dL:ha g.ci e p
 rs:jd g.ci aT ts d5
def aA.bR(m:aA)(i:Nat)(ts:List (kH×Nat)):aA:=m.dU i {m.ag i with a6:=ts}
section
variable {g:kg}{s:St}{m:aA}{i:Nat}{row:List Nat}{e:Env}{aT:List Job}{ts:List (kH×Nat)}{p:fh}{d5:List fh}
theorem At.jU(a:At g s m i row e aT ts p d5):d5.Pairwise ng/\∀q∈d5,ng p q:=by have:=a.r.iI.jU i;rw[a.kl]at this;show#[(q8.mp this).2,(q8.mp this).1]
def At.ye(a:At g s m i row e aT ts p d5):p.f<m.a5:=a.r.kj i p (by rw[a.kl];show fD ..)
def At.Aa(a:At g s m i row e aT ts p d5):∀q∈d5,q.f<m.a5:=λq b=>a.r.kj i q (by rw[a.kl];show e9 _ b)
def At.Ab(a:At g s m i row e aT ts p d5)(h:lD p.sc v x):(m.bR i ts).ev p.f x=x1 (value s.cells e i8 v):=Qx a.r.ki a.dL h
def At.cg(a:At g s m i row e aT ts p d5):R {g with bW:=aF g.bW i d5} (s.go i aT).task (s.go i aT) (m.bR i ts):=
 a.r.FX a.bG a.rs a.jU.1 (λq b=>.inl #[q,by rw[a.kl];show e9 _ b,Within.hW q]) a.Aa
def At.Ac(a:At g s m i row e aT ts p d5)(h:jd g.ci eC us ps)(aC:ps.Pairwise ng)(b:∀q∈ps,Within q p):
  R {g with bW:=aF g.bW i (ps++d5)} (s.go i<|eC++aT).task (s.go i<|eC++aT) (m.bR i<|us++ts):=by
 show a.r.FX a.bG ?_ ?_ ?_ ?_
 .clear b aC
  induction h with
  |dg=>show a.rs
  |cB x _ d=>show .cB x d
 .show O2.mpr #[aC,a.jU.1,λx j y f=>(a.jU.2 y f).uG<|b x j]
 .intro q c;obtain z|z:=iV.mp c
  .show .inl #[p,by rw[a.kl];show fD ..,b q z]
  .show .inl #[q,by rw[a.kl];show e9 _ z,Within.hW q]
 .intro q c;obtain z|z:=iV.mp c
  .rw[(b q z).1];show a.ye
  .show a.Aa q z
theorem At.aH(a:At g s m i row e aT ts p d5)(h:p.sc.of O y=Y c):∃k,oC e y=.ok k/\(m.bR i ts).hU p.f c=k/\k<m.a9:=by let#[k,d,b]:=a.dL.aH h;show#[k,d,?_,(a.r.jX _ _ _ b).2];show(match m.a0 p.f c with|some (.aH c)=>c|_=>0)=k;rw[a.r.ki _ _ _ b];rfl
def At.d3(a:At g s m i row e aT ts p d5):gq i s m (.ok<|s.go i aT) (.ok<|m.bR i ts):=.go a.cg a.bG a.rw
def FY(r:Except Bad Int)(f:Int->St)(k:Int->aA)(h:∀v,gq i s m (.ok<|f v) (.ok<|k v)):gq i s m (r.map f) ((x1 r).map k):=by
 cases r with
 |error b=>show .iK b
 |ok v=>show h v
def YD(r:Except Bad Int)(f:Int->Except Bad St)(k:Int->Except Int aA)(h:∀v,gq i s m (f v) (k v)):gq i s m (r.bind f) ((x1 r).bind k):=by
 cases r with
 |error b=>show .iK b
 |ok v=>show h v
theorem At.gm(a:At g s m i row e aT ts p d5)(h:p.sc.of J y=Y c)(j:lD p.sc v x):
  gq i s m ((cellOf e y).bind λk=>(value s.cells e i8 v).map λv=>(s.put k v).go i aT) (((m.bR i ts).ev p.f x).map λv=>(m.bR i ts).hI p.f c<|.cA v):=by
 let#[k,b,d]:=a.dL.gx h
 rw[b,a.Ab j]
 show FY _ _ _ λv=>?_
 show .go (a.cg.gm v d) a.bG a.rw
theorem At.l4(a:At g s m i row e aT ts p d5)(b:lD p.sc v x):
  gq i s m ((value s.cells e i8 v).bind λv=>let o:=s.out++(h2 v++[10]);if BV<z9 o then .error .many else .ok ({s with out:=o}.go i aT))
   (((m.bR i ts).ev p.f x).bind λv=>if 1048576<(m.bR i ts).cg.length+(h2 v++[10]).length then .error (-13)else .ok {m.bR i ts with cg:=(m.bR i ts).cg++(h2 v++[10])}):=by
 rw[a.Ab b]
 show YD _ _ _ λv=>?_
 show gq i s m (if BV<(s.out++(h2 v++[10])).length then .error .many else .ok ({s with out:=s.out++(h2 v++[10])}.go i aT)) (if 1048576<z9 m.cg+(h2 v++[10]).length then .error (-13)else .ok {m.bR i ts with cg:=m.cg++(h2 v++[10])})
 rw[ju,a.r.cg]
 unfold BV
 split
 .show .iK .many
 .show .go (a.cg.l4 _) a.bG a.rw
def At.l5(a:At g s m i row e aT ts p d5)(h:lD p.sc c e4)(h1:gM p.sc p.n t1 gr cb)(d:gM p.sc cb fQ fA p.n'):
  gq i s m ((value s.cells e i8 c).map λv=>s.go i (.stmt (if v≠0 then t1 else fQ) e::aT)) (((m.bR i ts).ev p.f e4).map λv=>(m.bR i ts).eh i (.cq (if v≠0 then gr else fA),p.f)):=by
 rw[a.Ab h]
 show FY _ _ _ λv=>?_
 rw[show(m.bR i ts).eh i (.cq (if v≠0 then gr else fA),p.f)=m.bR i ((.cq (if v≠0 then gr else fA),p.f)::ts)from sa ..]
 by_cases z:v≠0
 .rw[aR z,aR z];show .go (a.Ac (.cB (.cq (p:=#[p.f,p.sc,p.n,cb]) (a.dL.x3<|bK _) h1) .dg) (uu ..) λq b=>by rw[gX.mp b];show x4 (bK _) d.le) a.bG a.rw
 .rw[aM z,aM z];show .go (a.Ac (.cB (.cq (a.dL.x3 h1.le) d) .dg) (uu ..) λq b=>by rw[gX.mp b];show x4 h1.le<|bK _) a.bG a.rw
theorem At.h6(a:At g s m i row e aT ts p d5)(d:lD p.sc c e4)(h1:gM p.sc p.n t x p.n'):
  gq i s m ((value s.cells e i8 c).map λv=>if v=0 then s.go i aT else s.go i (.stmt t e::.stmt (.while_ c t) e::aT))
   (((m.bR i ts).ev p.f e4).map λv=>if v≠0 then ((m.bR i ts).eh i (.cq<|.h6 e4 x,p.f)).eh i (.cq x,p.f)else m.bR i ts):=by
 rw[a.Ab d]
 show FY _ _ _ λv=>?_
 by_cases z:v=0
 .rw[aR z,aM λw=>w z];show a.d3
 .rw[aM z,aR z,show(m.bR i ts).eh i (.cq<|.h6 e4 x,p.f)=m.bR i ((.cq<|.h6 e4 x,p.f)::ts)from sa ..,show(m.bR i ((.cq<|.h6 e4 x,p.f)::ts)).eh i (.cq x,p.f)=m.bR i ((.cq x,p.f)::(.cq<|.h6 e4 x,p.f)::ts)from sa ..];show .go (a.Ac (us:=[(.cq x,p.f),(.cq<|.h6 e4 x,p.f)]) (.cB (.cq a.dL h1)<|.cB (.cq a.dL<|.h6 d h1) .dg) (q8.mpr #[λq b=>by rw[gX.mp b];show a.dL.YC,uu ..]) λq b=>by
   obtain w|w:=eG.mp b
   .rw[w];show Within.hW p
   .rw[gX.mp w];show Within.hW p) a.bG a.rw
def At.oI(a:At g s m i row e aT ts p d5)(h:mK p.sc p.n l cR p.n'):gq i s m (.ok<|s.go i (.seq l e::aT)) (.ok<|(m.bR i ts).eh i (.fw cR,p.f)):=by rw[show(m.bR i ts).eh i (.fw cR,p.f)=m.bR i ((.fw cR,p.f)::ts)from sa ..];show .go (a.Ac (.cB (.x2 a.dL h) .dg) (uu ..) λq b=>by rw[gX.mp b];show Within.hW p) a.bG a.rw
def At.oH(a:At g s m i row e aT ts p d5):gq i s m (.ok {s.set i {s.task i with now:=.stuck}with ready:=s.ready.drop 1}) (.ok<|(m.bR i ts).fK i):=by
 let#[ak,q]:=a.r.mO a.bG;let b:(m.bR i ts).fK i=m.dU i {m.ag i with a6:=ts,cp:=J}:=by unfold aA.fK aA.bR;rw[Kf];show m.dU i {(aF m.ag i {m.ag i with a6:=ts} i)with cp:=J}=_;rw[bE]
 let c:({s.set i {s.task i with now:=.stuck}with ready:=s.ready.drop 1}:St).task=aF s.task i {s.task i with now:=.stuck}:=r8 s i _ (by rw[a.r.az];show ak);show .wl (g:={g with bW:=aF g.bW i []}) ?_ ?_ ?_
 .rw[b,c];have:=a.r.l7 a.bG (ts:=ts);show a.bG▸this
 .show m.b5=s.ready.drop 1;rw[a.rw,a.bG];rfl
 .rw[b];show(aF m.ag i _ i).cp=J;rw[bE]
def At.gl(a:At g s m i row e aT ts p d5)(h:pw p.sc p.n l o p.n'):
  gq i s m (if l.isEmpty=O then .ok (s.go i aT)else if MOSTTASKS<z9 s.tasks+z9 l then .error .many else
   let n:=z9 s.tasks
   let s:={s with tasks:=s.tasks++l.map λt=>(#[[.stmt t e],.ready,Y i]:Task)}
   .ok {s.set i {s.task i with jobs:=aT,now:=.waits (z9 l)}with ready:=s.ready.drop 1++(gK (z9 l)).map λk=>n+k})
   (if o=[]then .ok (m.bR i ts)else if 4096<(m.bR i ts).az+z9 o then .error (-13)else
  .ok {m.bR i ts with az:=(m.bR i ts).az+z9 o,b5:=(m.bR i ts).b5++(gK (z9 o)).map (λk=>(m.bR i ts).az+k),ag:=aF (aA.uF (m.bR i ts).ag (m.bR i ts).az i p.f o) i {(m.bR i ts).ag i with ey:=z9 o,cp:=J}}):=by
 let#[ak,B,W]:=a.r.mO a.bG
 let c:z9 o=z9 l:=by let#[A,FS,W]:=h.bW a.dL (bK _)<|bK _;simpa using FS.tj.symm
 cases l with
 |nil=>have:o=[]:=ut.mp c;show(aR this)▸a.d3
 |cons t l=>
  have:o≠[]:=λz=>by rw[z]at c;cases c
  rw[aM this];show gq i s m (if 4096<z9 s.tasks+(t::l).length then _ else _) (if 4096<m.az+z9 o then _ else _);rw[a.r.az,c];split
  .show .iK .many
  .let x:i<z9 s.tasks:=by rw[a.r.az];show ak
   let' b:St:={s with tasks:=s.tasks++(t::l).map λt=>(#[[.stmt t e],.ready,Y i]:Task)}
   let' s':St:={b.set i {b.task i with jobs:=aT,now:=.waits (t::l).length}with ready:=s.ready.drop 1++(gK (t::l).length).map λk=>m.az+k}
   let u:b.task i=s.task i:=by show((s.tasks++_)[i]?).getD _=(s.tasks[i]?).getD _;rw[vQ x]
   let v:s'.task=oM s.task m.az i aT (t::l) e:=by
    show(b.set i _).task=_;rw[r8 b i _ (by rw[ju];lia),u];funext k;unfold oM;by_cases z:k=i
    .rw[aR z,z,bE]
    .rw[aM z,bC _ _ z];show((s.tasks++(t::l).map λt=>(#[[.stmt t e],.ready,Y i]:Task))[k]?).getD _=_;by_cases d:k<m.az
     .rw[aR d,vQ (by rwa[a.r.az])];rfl
     .rw[aM d,OW (by rw[a.r.az];lia),a.r.az,r4]
      cases q:(t::l)[k-m.az]? with
      |some y=>rfl
      |none=>unfold St.task;rw[qa (show z9 s.tasks<=k by rw[a.r.az];lia)];rfl
   let#[bW,j]:=a.r.J5 (s':=s') a.bG a.rw a.kl a.rs a.dL h bg (by
    show({s with tasks:=s'.tasks,ready:=s.ready.drop 1++_}:St)=_;rw[a.bG];rfl) (by
    show((s.tasks++(t::l).map λt=>(#[[.stmt t e],.ready,Y i]:Task)).set i _).length=_;rw[k3,ju,hR,a.r.az])
   show .wl (g:={g with bW:=bW}) (s':=s') ?_ ?_ ?_
   .rw[v];let w:(m.bR i ts).ag i={m.ag i with a6:=ts}:=bE ..;show w▸j
   .show m.b5++_=s.ready.drop 1++_;rw[a.rw,a.bG];rfl
   .show fG.cp (aF _ i _ i)=J;rw[bE]
end
def YE(s:St)(i k:Nat)(eC:List Job)(ak:i<z9 s.tasks):((s.go i eC).task k).now=(s.task k).now:=by
 rw[CO s i eC ak];by_cases z:k=i
 .rw[z,bE]
 .rw[bC _ _ z]
def YF(s:St)(i c:Nat)(eC:List Job)(ak:i<z9 s.tasks):(s.go i eC).taker c=s.taker c:=by unfold St.taker;congr 1;funext k;rw[YE s i k eC ak]
def YG(m:aA)(i j:Nat)(u:kH×Nat)(a:j≠i):(m.oK j).eh i u=(m.eh i u).oK j:=by
 have:aF (aF m.ag j {m.ag j with cp:=O}) i {(aF m.ag j {m.ag j with cp:=O} i)with a6:=u::(aF m.ag j {m.ag j with cp:=O} i).a6}=aF (aF m.ag i {m.ag i with a6:=u::(m.ag i).a6}) j {(aF m.ag i {m.ag i with a6:=u::(m.ag i).a6} j)with cp:=O}:=by
  funext k
  by_cases z:k=i
  .rw[z,bE,bC _ _<|c5 a,bC _ _<|c5 a,bE]
  .by_cases b:k=j
   .rw[b,bC _ _ a,bE,bE,bC _ _ a]
   .rw[bC _ _ z,bC _ _ b,bC _ _ b,bC _ _ z]
 show congrArg (λt=>({m with ag:=t,b5:=m.b5++[j]}:aA)) this
section
variable {g:kg}{s:St}{m:aA}{i:Nat}{row:List Nat}{e:Env}{aT:List Job}{ts:List (kH×Nat)}{p:fh}{d5:List fh}
def R.Kg(h:R g s.task s m)(b:s.ready=i::row)(a:we (s.task j).now=O):j≠i:=λz=>by rw[z,(h.mO b).2.1]at a;cases a
def R.QS(h1:R g (s.go i eC).task (s.go i eC) m)(d:s.ready=i::row)(h:c<m.a9)(b:(m.aH c).ep=(j,v)::r)(hm:g.ci f y=Y (.cell k)):
  R g (((s.put k v).wake j (s.task j).jobs).go i eC).task (((s.put k v).wake j (s.task j).jobs).go i eC) (((m.n3 c {m.aH c with ep:=r}).hI f y<|.cA v).oK j)/\j≠i:=by
 let ak:i<z9 s.tasks:=by have:=(h1.mO d).1;rw[<-h1.az]at this;show(k3 ..)▸this
 let#[l,p]:=h1.QB h b
 let a:=h1.Kg d (by rw[p];rfl)
 let e:j<z9 s.tasks:=by have:=((h1.hh j).mp l).1;rw[<-h1.az]at this;show(k3 ..)▸this
 show#[?_,a]
 let o:((s.put k v).wake j (s.task j).jobs).go i eC=((s.go i eC).wake j ((s.go i eC).task j).jobs).put k v:=by
  have:((s.go i eC).task j).jobs=(s.task j).jobs:=by rw[CO s i eC ak,bC _ _ a]
  rw[QR (s.put k v) i j eC (s.task j).jobs ak e a,this];rfl
 let n:(((s.go i eC).wake j ((s.go i eC).task j).jobs).put k v).task=aF (s.go i eC).task j {(s.go i eC).task j with now:=.ready}:=by show r8 _ j _ (by show j<(s.tasks.set i _).length;rwa[k3])
 rw[o,n]
 show((h1.Yp h b).gm v hm)
theorem At.h5(a:At g s m i row e aT ts p d5)(h:p.sc.of O y=Y c)(P:lD p.sc v x):
  gq i s m ((oC e y).bind λc=>(value s.cells e i8 v).map λv=>s.send i c v aT) (((m.bR i ts).ev p.f x).map λv=>(m.bR i ts).h5 i ((m.bR i ts).hU p.f c) v):=by
 let#[k,G,E,z]:=a.aH h
 rw[G,E,a.Ab P]
 show FY _ _ _ λv=>?_
 let d:=a.cg
 let ak:i<z9 s.tasks:=by rw[a.r.az];show(a.r.mO a.bG).1
 cases q:(m.aH k).dn with
 |nil=>
  let n:=(a.r.QQ k).1 q;let o:(m.bR i ts).h5 i k v=((m.bR i ts).n3 k {(m.bR i ts).aH k with ep:=((m.bR i ts).aH k).ep++[(i,v)]}).fK i:=by unfold aA.h5;rw[show((m.bR i ts).aH k).dn=[]from q]
  let u:s.send i k v aT=s.wait i aT (.sends k v):=by unfold St.send;rw[n]
  let K:(s.go i aT).task i={s.task i with jobs:=aT}:=by rw[CO s i aT ak,bE]
  let H:s.wait i aT (.sends k v)={s.go i aT with tasks:=((s.go i aT).set i {(s.go i aT).task i with now:=.sends k v}).tasks,ready:=row,waiting:=s.waiting++[i]}:=by rw[K];show({s with tasks:=s.tasks.set i _,ready:=s.ready.drop 1,waiting:=s.waiting++[i]}:St)={s with tasks:=(s.tasks.set i _).set i _,ready:=row,waiting:=s.waiting++[i]};rw[List.set_set,a.bG];rfl
  rw[o,u,H];show .wl (g:={g with bW:=aF g.bW i d5}) ?_ a.rw ?_
  .let w:({s.go i aT with tasks:=((s.go i aT).set i {(s.go i aT).task i with now:=.sends k v}).tasks,ready:=row,waiting:=s.waiting++[i]}:St).task=aF (s.go i aT).task i {(s.go i aT).task i with now:=.sends k v}:=r8 (s.go i aT) i _ (by show i<(s.tasks.set i _).length;rw[k3];show ak);show w▸(d.Yo a.bG (show k<(m.bR i ts).a9 from z) a.rw)
  .show fG.cp (aF _ i _ i)=J;rw[bE]
 |cons t a3=>
  let#[j,f,M,st]:=t;let#[l,b,I,C,N,hm,ps,L]:=d.QD (show k<(m.bR i ts).a9 from z)<|show((m.bR i ts).aH k).dn=_ from q;let D:j<z9 s.tasks:=by have:=((d.hh j).mp I).1;rw[<-d.az]at this;show(k3 ..)▸this
  let n:s.taker k=Y (j,b.2.1,b.2.2):=by let#[Q,cv,B,A,F]:=(d.QQ k).2 _ _<|show((m.bR i ts).aH k).dn=_ from q;rw[C]at B;cases B;rw[N]at A;cases A;rw[<-YF s i k aT ak,F]
  let u:s.send i k v aT=((s.go i aT).wake j b.2.2).put b.2.1 v:=by unfold St.send;rw[n];show((s.put b.2.1 v).wake j b.2.2).go i aT=_;rw[QR (s.put b.2.1 v) i j aT b.2.2 ak D<|d.Kg a.bG (by rw[C];rfl)];rfl
  let o:(m.bR i ts).h5 i k v=((m.bR i ts).lF j f st).hI f M (.cA v):=by unfold aA.h5;rw[show((m.bR i ts).aH k).dn=_ from q];cases st<;>rfl
  rw[u,o];show .go (g:={g with bW:=aF (aF g.bW i d5) j ps}) (row:=row++[j]) ?_ ?_ ?_
  .let w:(((s.go i aT).wake j b.2.2).put b.2.1 v).task=aF (s.go i aT).task j {(s.go i aT).task j with jobs:=b.2.2,now:=.ready}:=r8 (s.go i aT) j _ (by show j<(s.tasks.set i _).length;rwa[k3]);show w▸(L.gm v hm)
  .show s.ready++[j]=_;rw[a.bG];rfl
  .have:((m.bR i ts).lF j f st).b5=m.b5++[j]:=by cases st<;>rfl
   show((m.bR i ts).lF j f st).b5=_;rw[this,a.rw]
structure qk(m0 m:aA)(i:Nat)(done:List uH):Prop where
 hq:Rest m0 m
 ag:m.ag=aF m0.ag i {m0.ag i with cp:=J,bI:=rh (done.map (·.1))}
 aH:∀d,(m.aH d).ep=(m0.aH d).ep/\(m.aH d).dn=(m0.aH d).dn++((done.find? λb=>b.1==d).map λb=>(i,b.2)).toList
def qk.wm(h:(m0.ag i).bI=[]):qk m0 (m0.fK i) i []:=by show#[#[Z,Z,Z,Z,Z,Z,Z,Z,Z],?_,λd=>#[Z,by simp;rfl]];show aF m0.ag i _=aF m0.ag i _;rw[h];rfl
def QT(l:List Nat)(c:Nat):rh (l++[c])=uJ (rh l) c:=by unfold rh;rw[Jj];rfl
def qk.Cz(no:∀d t,t∈(m0.aH d).dn->t.1≠i)(W:qk m0 m i done)(c f y:Nat)(st:Option cJ):qk m0 (m.jc i c f y st) i (done++[(c,f,y,st)]):=by
 let e:m.ag i={m0.ag i with cp:=J,bI:=rh (done.map (·.1))}:=by rw[W.ag,bE]
 let h:m.fK i=m:=by
  have:aF m.ag i {m.ag i with cp:=J}=m.ag:=by
   funext k
   by_cases z:k=i
   .rw[z,bE,e]
   .rw[bC _ _ z]
  show({m with ag:=aF m.ag i {m.ag i with cp:=J}}:aA)=m;rw[this]
 let l:(m.aH c).dn.any (λt=>t.1==i)=(done.find? λb=>b.1==c).isSome:=by
  rw[(W.aH c).2,List.any_append];have:(m0.aH c).dn.any (λt=>t.1==i)=false:=by rw[Jk];intro t j;simpa using no c t j
  rw[this];cases done.find? λb=>b.1==c<;>simp
 let a:∀d,((done++[(c,f,y,st)]).find? λb=>b.1==d)=match done.find? λb=>b.1==d with
   |some b=>Y b
   |none=>if c=d then Y (c,f,y,st)else none:=λd=>by
  rw[O9]
  cases done.find? λb=>b.1==d with
  |some b=>rfl
  |none=>by_cases z:c=d<;>simp[z]
 unfold aA.jc
 rw[h]
 show qk m0 (if (m.aH c).dn.any (λt=>t.1==i)=O then m else (m.n3 c {m.aH c with dn:=(m.aH c).dn++[(i,f,y,st)]}).dU i {m.ag i with bI:=(m.ag i).bI++[c]}) i _
 rw[l]
 cases q:done.find? λb=>b.1==c with
 |some b=>
  rw[aR<|show(Y b).isSome=O from Z];let ae:=FQ.mpr (s6.mpr #[b,xS q,by simpa using zO q]);show#[W.hq,?_,λd=>#[(W.aH d).1,?_]]
  .rw[r5,mH,B1,QT];unfold uJ;show(aR ae)▸W.ag
  .rw[a d,(W.aH d).2]
   cases g:done.find? λb=>b.1==d with
   |some cv=>rfl
   |none=>
    have:c≠d:=λz=>by rw[z,g]at q;cases q
    rw[aM this]
 |none=>
  let ae:c∉rh (done.map (·.1)):=λz=>by let#[b,cf,cv]:=s6.mp<|FQ.mp z;have:=E0.mp q b cf;simp[cv]at this
  show#[#[W.hq.az,W.hq.a9,W.hq.a5,W.hq.a0,W.hq.b5,W.hq.d4,W.hq.c3,W.hq.cg,W.hq.fx],?_,λd=>?_]
  .show aF m.ag i {m.ag i with bI:=(m.ag i).bI++[c]}=_;rw[r5,mH,B1,QT,e,W.ag];unfold uJ;rw[aM ae];funext k;by_cases z:k=i
   .rw[z,bE,bE]
   .rw[bC _ _ z,bC _ _ z,bC _ _ z]
  .show((aF m.aH c _) d).ep=_/\((aF m.aH c _) d).dn=_;by_cases z:d=c
   .subst z;rw[bE,a d,q,aR Z];show#[(W.aH d).1,?_];rw[(W.aH d).2,q];simp
   .rw[bC _ _ z,a d,aM<|c5 z];show#[(W.aH d).1,?_];rw[(W.aH d).2];cases done.find? λb=>b.1==d<;>rfl
def R.QU(h:R g s.task s m)(b:s.ready=i::row):∀d t,t∈(m.aH d).dn->t.1≠i:=λd t a=>by rw[h.kh d]at a;let#[c,q]:=uL (λq q=>z7) a;show h.Kg b ((h.hh t.1).mp c).2
def At.k6(a:At g s m i row e aT ts p d5)(h:dE (uI g.ci aT p) l es)(j:∀b∈es,b.1<m.a9)(W:qk (m.bR i ts) aO i es):
  gq i s m (.ok<|s.wait i []<|.takes l) (.ok aO):=by
 let ak:i<z9 s.tasks:=by rw[a.r.az];show(a.r.mO a.bG).1
 let q:Rest m aO:=#[W.hq.az,W.hq.a9,W.hq.a5,W.hq.a0,W.hq.b5,W.hq.d4,W.hq.c3,W.hq.cg,W.hq.fx]
 let f:(m.bR i ts).ag i={m.ag i with a6:=ts}:=bE ..
 let c:aO.ag=aF m.ag i {m.ag i with a6:=ts,cp:=J,bI:=rh (es.map (·.1))}:=by
  rw[W.ag,f];funext k;by_cases z:k=i
  .rw[z,bE,bE]
  .rw[bC _ _ z,bC _ _ z];show aF m.ag i _ k=_;rw[bC _ _ z]
 let d:s.wait i [] (.takes l)={s with tasks:=(s.set i {s.task i with jobs:=[],now:=.takes l}).tasks,ready:=row,waiting:=s.waiting++[i]}:=by show({s with tasks:=s.tasks.set i _,ready:=s.ready.drop 1,waiting:=s.waiting++[i]}:St)=_;rw[a.bG];rfl
 rw[d]
 show .wl (g:={g with es:=aF g.es i es}) ?_ ?_ ?_
 .let n:({s with tasks:=(s.set i {s.task i with jobs:=[],now:=.takes l}).tasks,ready:=row,waiting:=s.waiting++[i]}:St).task=aF s.task i {s.task i with jobs:=[],now:=.takes l}:=r8 s i _ ak;show n▸(a.r.Yv a.bG a.kl a.rs h j q c W.aH)
 .rw[q.b5];show a.rw
 .rw[c,bE]
def At.du(a:At g s m i row e aT ts p d5)(h:p.sc.of O y=Y c)(u:p.sc.of J z=Y x):
  gq i s m ((oC e y).bind λc=>(cellOf e z).map λk=>s.take i [(c,k,aT)])
   (match (m.bR i ts).hJ ((m.bR i ts).hU p.f c) p.f x with
   |some aO=>.ok aO
   |none=>.ok<|(m.bR i ts).jc i ((m.bR i ts).hU p.f c) p.f x U):=by
 let#[k,B,A,o]:=a.aH h
 let#[d,C,w]:=a.dL.gx u
 rw[B,A,C]
 show gq i s m (.ok<|s.take i [(k,d,aT)]) _
 let ai:=a.r.QP k
 cases q:(m.aH k).ep with
 |nil=>
  rw[q]at ai;let n:s.take i [(k,d,aT)]=s.wait i [] (.takes [(k,d,aT)]):=by unfold St.take;rw[EX,ai];rfl
  let l:(m.bR i ts).hJ k p.f x=none:=by unfold aA.hJ;rw[show((m.bR i ts).aH k).ep=[]from q]
  rw[n,l];let a3:((m.bR i ts).ag i).bI=[]:=by show(aF m.ag i _ i).bI=[];rw[bE];show(a.r.mO a.bG).2.2.2.1
  show a.k6 (es:=[(k,p.f,x,U)]) (.cB #[Z,Z,w,#[z,_,Sc.FI u],Z] .dg) (λb ae=>by rwa[gX.mp ae]) ?_;have:=(qk.wm a3).Cz (m0:=m.bR i ts) (a.r.QU a.bG) k p.f x U;let E:((m.bR i ts).fK i).jc i k p.f x U=(m.bR i ts).jc i k p.f x none:=by
   have:((m.bR i ts).fK i).fK i=(m.bR i ts).fK i:=by show((m.bR i ts).dU i _).dU i _=_;rw[Kf];show(m.bR i ts).dU i {(aF (m.bR i ts).ag i {(m.bR i ts).ag i with cp:=J} i)with cp:=J}=_;rw[bE];rfl
   unfold aA.jc;rw[this]
  show E▸this
 |cons t r=>
  let#[j,v]:=t;rw[q]at ai;let n:s.take i [(k,d,aT)]=((s.put d v).wake j<|(s.task j).jobs).go i aT:=by unfold St.take;rw[EX,ai];rfl
  let l:(m.bR i ts).hJ k p.f x=Y ((((m.bR i ts).n3 k {(m.bR i ts).aH k with ep:=r}).hI p.f x<|.cA v).oK j):=by unfold aA.hJ;rw[show((m.bR i ts).aH k).ep=_ from q]
  rw[n,l];let#[D,W]:=a.cg.QS a.bG (show k<(m.bR i ts).a9 from o) (show((m.bR i ts).aH k).ep=_ from q) w;show .go D (row:=row++[j]) ?_ ?_
  .show s.ready++[j]=_;rw[a.bG];rfl
  .show m.b5++[j]=_;rw[a.rw]
end
abbrev F0:=Bool×pn×Stmt
abbrev yf:=Option (Nat×Nat)×Stmt
def Ad(a:List Int)(e:Env)(b:Option Expr×pn×Stmt):Except Bad F0:=match b.1 with
 |none=>.ok (O,b.2)
 |some c=>(value a e i8 c).map λv=>(decide<|v≠0,b.2)
noncomputable def sb(e:Env)(b:F0):Except Bad yf:=match b.2.1 with
 |.from_ c x=>(oC e c).bind λc=>(cellOf e x).map λk=>(Y (c,k),b.2.2)
 |.nothing=>.ok (U,b.2.2)
def CP(p:fh)(t:Stmt)(x:cJ):Prop:=∃a b,p.n<=a/\b<=p.n'/\gM p.sc a t x b
def QV(p:fh)(b:F0)(x:ba×hG×cJ):Prop:=Cu p.sc b.2.1 x.2.1/\CP p b.2.2 x.2.2
def Ki{a:Type}(x:Except Bad a)(y:Except Bad (List a)):Except Bad (List a):=match x with
 |.error b=>.error b
 |.ok x=>match y with
  |.error b=>.error b
  |.ok y=>.ok (x::y)
def QW(f:α->Except Bad β)(a:α)(l:List α):(a::l).mapM f=Ki (f a) (l.mapM f):=by
 rw[List.mapM_cons]
 cases f a with
 |error b=>rfl
 |ok x=>cases l.mapM f<;>rfl
def Ae{α:Type}(P:Bad->Prop)(Q:α->Prop):Except Bad α->Prop
 |.error b=>P b
 |.ok a=>Q a
def uN:hG->Bool
 |.d3=>O
 |.du (Y _) (Y _)=>O
 |_=>J
section
variable {g:kg}{s:St}{m:aA}{i:Nat}{row:List Nat}
set_option tactic.hygienic true in
def YI(a:aA)(L:∀v x,lD p.sc v x->a.ev p.f x=x1 (value s.cells e i8 v)){l:List (Option Expr×pn×Stmt)}{g:List (ba×hG×cJ)}{n n':Nat}(h:qh p.sc n l g n'):p.n<=n->n'<=p.n'->
  Ae (λb=>a.px p.f g=.error (uE b)) (λai=>∃r,a.px p.f g=.ok r/\dE (QV p) (ai.filter λb=>b.1) r) (l.mapM<|Ad s.cells e):=by
 induction l generalizing g n with
 |nil=>intro W W;cases h;show#[[],Z,.dg]
 |cons d l I=>
  intro C u
  cases h with
  |cB k F B D=>
   rename_i H c j m o t x g
   let i:=I D (dK C B.le) u
   let b3:Ae (λb=>a.ev p.f j=.error (uE b)) (λb=>∃v,a.ev p.f j=.ok v/\b=(decide<|v≠0,m,t)) (Ad s.cells e (c,m,t)):=by
    cases c with
    |none=>have k:=k;subst k;show#[1,Z,Z]
    |some c=>
     show Ae _ _ ((value s.cells e i8 c).map _)
     rw[L c j k]
     cases value s.cells e i8 c with
     |error b=>show Z
     |ok v=>show#[v,Z,Z]
   rw[QW,show a.px p.f ((j,o,x)::g)=(a.ev p.f j).bind λv=>(a.px p.f g).map λr=>if v≠0 then (j,o,x)::r else r from Z]
   cases y:Ad s.cells e (c,m,t)with
   |error b=>rw[y]at b3;rw[b3];rfl
   |ok b=>
    rw[y]at b3
    let#[v,G,rfl]:=b3
    rw[G]
    cases q:l.mapM (Ad s.cells e)with
    |error cf=>rw[q]at i;rw[i];rfl
    |ok M=>
     rw[q]at i;let#[E,K,A]:=i;show#[if v≠0 then (j,o,x)::E else E,by rw[K];rfl,?_];by_cases z:v≠0
     .rw[aR z,pv,aR<|gv z];show .cB #[F,n,H,C,dK D.le u,B] A
     .rw[aM z,pv,aM λw=>z<|kc w];show A
def CQ(g:kg)(m:aA)(p:fh)(o:yf)(x:ba×hG×cJ):Prop:=(match o.1,x.2.1 with
 |none,.d3=>True
 |some (c,k),.du (Y b) (Y a)=>m.hU p.f b=c/\c<m.a9/\g.ci p.f a=Y (.cell k)/\p.kJ a
 |_,_=>False)/\CP p o.2 x.2.2
def YJ(b:ba×hG×cJ)(r:List (ba×hG×cJ)):aA.jT (b::r)=(uN b.2.1&&aA.jT r):=by
 let#[c,d,x]:=b
 cases d with
 |d3=>simp[aA.jT,uN]
 |du a b=>cases a<;>cases b<;>simp[aA.jT,uN]
def YK(a:At g s m i row e aT ts p d5){bb:List F0}{r:List (ba×hG×cJ)}(h:dE (QV p) bb r):
  Ae (λb=>b=.name/\aA.jT r=J) (λos=>aA.jT r=O/\dE (CQ g (m.bR i ts) p) os r) (bb.mapM<|sb e):=by
 induction h with
 |dg=>show#[Z,.dg]
 |@cB b x bb r ae _ l=>
  let#[c,f,t]:=b
  let#[z,d,xs]:=x
  let#[n,A]:=ae
  rw[QW,YJ]
  let j:∀{o:yf},sb e (c,f,t)=.ok o->uN d=O->CQ g (m.bR i ts) p o (z,d,xs)->Ae (λb=>b=.name/\(uN d&&aA.jT r)=J) (λos=>(uN d&&aA.jT r)=O/\dE (CQ g (m.bR i ts) p) os ((z,d,xs)::r)) (Ki (sb e (c,f,t))<|bb.mapM<|sb e):=by
   intro o v u H
   rw[v,u,Pg]
   cases q:bb.mapM (sb e)with
   |error cf=>rwa[q]at l
   |ok I=>rw[q]at l;show#[l.1,.cB H l.2]
  let E:sb e (c,f,t)=.error .name->uN d=J->Ae (λb=>b=.name/\(uN d&&aA.jT r)=J) (λos=>(uN d&&aA.jT r)=O/\dE (CQ g (m.bR i ts) p) os ((z,d,xs)::r)) (Ki (sb e (c,f,t))<|bb.mapM<|sb e):=λv u=>by rw[v,u];show#[Z,Z]
  cases f with
  |nothing=>
   cases d with
   |du _ _=>show n.elim
   |d3=>show j Z Z #[trivial,A]
  |from_ b1 CR=>
   cases d with
   |d3=>show n.elim
   |du B y=>
    let#[C,w]:=n
    cases B with
    |none=>show E (by show(oC e b1).bind _=_;rw[a.dL.Cy C];rfl) (by cases y<;>rfl)
    |some B=>
     let#[k,D,K,L]:=a.aH C
     cases y with
     |none=>show E (by show(oC e b1).bind _=_;rw[D];rw[a.dL.FL w];rfl) Z
     |some y=>let#[F,M,G]:=a.dL.gx w;show j (o:=(Y (k,F),t)) (by show(oC e b1).bind _=_;rw[D];show(cellOf e CR).map _=_;rw[M];rfl) Z #[#[K,L,G,#[CR,_,Sc.FI w]],A]
noncomputable def Af(s:St)(b:yf):Option (Option ((Nat×Int)×Nat)×Stmt):=match b.1 with
 |none=>Y (U,b.2)
 |some (c,k)=>(s.sender c).map λx=>(Y (x,k),b.2)
def Ag(m:aA)(f:Nat)(r:List (ba×hG×cJ)):List uH:=r.filterMap λb=>match b.2.1 with
 |.du (Y c) (Y y)=>Y (m.hU f c,f,y,Y b.2.2)
 |_=>U
inductive F1(g:kg)(M:aA)(p:fh)(e:Env)(aT:List Job)(os:List yf)(r:List (ba×hG×cJ)):Option (Option ((Nat×Int)×Nat)×Stmt)->Option (aA×cJ)->Prop
 |no:dE (uI g.ci aT p) (os.filterMap λb=>b.1.map λy=>(y.1,y.2,.stmt b.2 e::aT)) (Ag M p.f r)->(∀b∈Ag M p.f r,b.1<M.a9)->F1 g M p e aT os r U U
 |d3 {t x}:CP p t x->F1 g M p e aT os r (Y (U,t)) (Y (M,x))
 |du {t x c k y j v n5}:c<M.a9->(M.aH c).ep=(j,v)::n5->g.ci p.f y=Y (.cell k)->CP p t x->F1 g M p e aT os r (Y (Y ((j,v),k),t)) (Y (((M.n3 c {M.aH c with ep:=n5}).hI p.f y<|.cA v).oK j,x))
def YM(a:At g s m i row e aT ts p d5){os:List yf}{r:List (ba×hG×cJ)}(h:dE (CQ g (m.bR i ts) p) os r):F1 g (m.bR i ts) p e aT os r (os.findSome?<|Af s) ((m.bR i ts).hV p.f r):=by
 induction h with
 |dg=>show .no .dg λb ae=>a8 ae vV
 |@cB o x os r l _ C=>
  let#[L,t]:=o
  let#[I,G,xs]:=x
  let#[l,y]:=l
  cases L with
  |none=>
   cases G with
   |d3=>show .d3 y
   |du a b=>cases a<;>cases b<;>show l.elim
  |some T=>
   let#[c,k]:=T
   cases G with
   |d3=>show l.elim
   |du n j=>
    cases n with
    |none=>cases j<;>show l.elim
    |some n=>
     cases j with
     |none=>show l.elim
     |some j=>
      let#[E,D,H,N]:=l
      let ai:=a.r.QP c
      rw[show(m.bR i ts).hV p.f ((I,.du (Y n)<|Y j,xs)::r)=match (m.bR i ts).hJ ((m.bR i ts).hU p.f n) p.f j with
        |some R=>Y (R,xs)
        |none=>(m.bR i ts).hV p.f r from Z,E,EX]
      cases q:(m.aH c).ep with
      |cons u M=>
       rw[q]at ai;rw[show Af s (Y (c,k),t)=Y (Y (u,k),t)by show(s.sender c).map _=_;rw[ai];rfl,show(m.bR i ts).hJ c p.f j=Y ((((m.bR i ts).n3 c {(m.bR i ts).aH c with ep:=M}).hI p.f j<|.cA u.2).oK u.1)by unfold aA.hJ;rw[show((m.bR i ts).aH c).ep=_ from q]]
       show .du D q H y
      |nil=>
       rw[q]at ai
       rw[show Af s (Y (c,k),t)=U by show(s.sender c).map _=_;rw[ai];rfl,show(m.bR i ts).hJ c p.f j=U by unfold aA.hJ;rw[show((m.bR i ts).aH c).ep=[]from q]]
       generalize os.findSome? (Af s)=A at C ⊢
       generalize (m.bR i ts).hV p.f r=B at C ⊢
       cases C with
       |no W V=>
        let P:Ag (m.bR i ts) p.f ((I,.du (Y n)<|Y j,xs)::r)=(c,p.f,j,Y xs)::Ag (m.bR i ts) p.f r:=by rw[<-E];rfl
        show .no ?_ ?_<;>rw[P]
        .let#[S,X,F,K,Q]:=y;show .cB #[Z,Z,H,N,t,e,#[p.f,p.sc,S,X],Z,.cq (a.dL.x3 F) Q,x4 F K,λs v=>v] W
        .intro b ae;obtain w|w:=eG.mp ae
         .rw[w];show D
         .show V b w
       |d3 z=>show .d3 z
       |du a b c d=>show .du a b c d
theorem CS(no:∀d t,t∈(m0.aH d).dn->t.1≠i)(f:Nat):∀(r:List (ba×hG×cJ)) (a:aA) (done:List uH),qk m0 a i done->qk m0 (a.kf i f r) i (done++Ag m0 f r)
 |[],a,done,W=>by show qk m0 a i (done++[]);rwa[uv]
 |(g,e,x)::r,a,done,W=>by
  cases e with
  |d3=>show CS no f r a done W
  |du eO b=>
   cases eO with
   |none=>show CS no f r a done W
   |some eO=>
    cases b with
    |none=>show CS no f r a done W
    |some b=>
     let c:a.hU f eO=m0.hU f eO:=by unfold aA.hU;rw[W.hq.a0]
     have:=CS no f r _ _<|W.Cz no (a.hU f eO) f b<|Y x;rw[c]at this;show qk m0 ((a.jc i (a.hU f eO) f b<|Y x).kf i f r) i (done++((m0.hU f eO,f,b,Y x)::Ag m0 f r));rw[c];rwa[m9]at this
noncomputable def F2(s:St)(i:Nat)(e:Env)(aT:List Job)(l:List yf):St:=match l.findSome? (Af s)with
 |some (U,t)=>s.go i (.stmt t e::aT)
 |some (Y (x,k),t)=>((s.put k x.2).wake x.1<|(s.task x.1).jobs).go i (.stmt t e::aT)
 |none=>if l.isEmpty=O then {s.set i {s.task i with now:=.stuck}with ready:=s.ready.drop 1}else s.wait i [] (.takes<|l.filterMap λb=>b.1.map λy=>(y.1,y.2,.stmt b.2 e::aT))
def At.QY(a:At g s m i row e aT ts p d5)(h:CP p t x):∃h9,R h9 (s.go i (.stmt t e::aT)).task (s.go i (.stmt t e::aT)) (m.bR i ((.cq x,p.f)::ts))/\h9.ci=g.ci:=by let#[k,l,b,d,c]:=h;show#[_,a.Ac (.cB (.cq (a.dL.x3 b) c) .dg) (uu ..) (λq j=>by rw[gX.mp j];show x4 b d),Z]
set_option tactic.hygienic true in
def At.k5(a:At g s m i row e aT ts p d5)(h:qh p.sc p.n l cR p.n'):
  gq i s m (((l.mapM<|Ad s.cells e).bind λl=>(l.filter λb=>b.1).mapM<|sb e).map<|F2 s i e aT)
   (((m.bR i ts).px p.f cR).bind λr=>if aA.jT r=J then .error (-11)else match (m.bR i ts).hV p.f r with
    |some (aO,x)=>.ok<|aO.eh i (.cq x,p.f)
    |none=>.ok<|((m.bR i ts).fK i).kf i p.f r):=by
 let w:=YI (m.bR i ts) (λv x R=>a.Ab R) h (bK _)<|bK _
 cases q:l.mapM (Ad s.cells e)with
 |error b=>rw[q]at w;rw[show aA.px _ _ _=_ from w];show .iK b
 |ok ai=>
  rw[q]at w
  let#[r,N,I]:=w
  rw[N]
  show gq i s m (((ai.filter λb=>b.1).mapM<|sb e).map<|F2 s i e aT) (if aA.jT r=J then _ else _)
  let u:=YK a I
  cases F:(ai.filter λb=>b.1).mapM (sb e)with
  |error b=>rw[F]at u;let#[D,o]:=u;rw[aR o,D];show .iK .name
  |ok os=>
   rw[F]at u
   let#[D,o]:=u
   rw[aM (by rw[D];decide)]
   show gq i s m (.ok<|F2 s i e aT os) _
   unfold F2
   let b1:=YM a o
   generalize os.findSome? (Af s)=A at b1 ⊢
   generalize (m.bR i ts).hV p.f r=B at b1 ⊢
   cases b1 with
   |no d E=>
    let a3:((m.bR i ts).ag i).bI=[]:=by show(aF m.ag i _ i).bI=[];rw[bE];show(a.r.mO a.bG).2.2.2.1
    let W:=CS (m0:=m.bR i ts) (a.r.QU a.bG) p.f r _ _<|qk.wm a3
    cases o with
    |dg=>show a.oH
    |cB _ _=>show a.k6 d E W
   |d3 d=>rename_i t x;let#[P,z,V]:=a.QY d;show gq i s m (.ok<|s.go i (.stmt t e::aT)) (.ok<|(m.bR i ts).eh i (.cq x,p.f));rw[show(m.bR i ts).eh i (.cq x,p.f)=m.bR i ((.cq x,p.f)::ts)from sa ..];show .go z a.bG a.rw
   |du M d E G=>
    rename_i t x c k y j v C;let#[P,z,K]:=a.QY G;let#[H,L]:=z.QS a.bG (show c<(m.bR i ((.cq x,p.f)::ts)).a9 from M) (show((m.bR i ((.cq x,p.f)::ts)).aH c).ep=_ from d) (by rwa[K]);show gq i s m (.ok<|((s.put k v).wake j<|(s.task j).jobs).go i (.stmt t e::aT)) (.ok<|((((m.bR i ts).n3 c {(m.bR i ts).aH c with ep:=C}).hI p.f y<|.cA v).oK j).eh i (.cq x,p.f));rw[YG _ i j _ L];let Q:(((m.bR i ts).n3 c {(m.bR i ts).aH c with ep:=C}).hI p.f y<|.cA v).eh i (.cq x,p.f)=(((m.bR i ts).eh i (.cq x,p.f)).n3 c {(m.bR i ts).aH c with ep:=C}).hI p.f y (.cA v):=rfl;rw[Q,show(m.bR i ts).eh i (.cq x,p.f)=m.bR i ((.cq x,p.f)::ts)from sa ..];show .go H (row:=row++[j]) ?_ ?_
    .show s.ready++[j]=_;rw[a.bG];rfl
    .show m.b5++[j]=_;rw[a.rw]
end
def tl:Sc->Nat->List (Bool×br)->Sc
 |sc,_,[]=>sc
 |sc,n,(k,y)::l=>tl (sc.gm y (k,n)) (n+1) l
def wn:Sc:=λq=>U
def pE(p:h3)(x:kI):Prop:=x.lE=p.name/\x.gn=p.params.map (·.1)/\∃a,gM (tl wn 0 p.params) (z9 p.params) p.body x.jb a
def dE.yg(h:dE pE ps xs)(f:br):
  ((ps.find? λp=>p.name==f)=U->(xs.find? λp=>p.lE==f)=U)/\∀p,(ps.find? λp=>p.name==f)=Y p->∃x,(xs.find? λp=>p.lE==f)=Y x/\pE p x:=by
 induction h with
 |dg=>show#[λw=>rfl,λp e=>(by cases e)]
 |@cB p x ps xs aC _ a=>
  rw[nY,nY,aC.1]
  cases q:(p.name==f)with
  |true=>show#[λe=>(by cases e),λb e=>(by cases e;show#[x,Z,aC])]
  |false=>show a
theorem QZ:∀(l:List (Nat×Expr)) (a:Expr),l≠[]->∃o x y,v8 a l=.bin o x y
 |[],_,h=>a8 Z h
 |[(o,b)],a,_=>#[o,a,b,Z]
 |(o,b)::c::l,a,_=>QZ (c::l) (.bin o a b) bg
def aA.k9(m:aA)(fr:jw):aA:={m with a5:=m.a5+1,a0:=aF m.a0 m.a5 fr}
def YQ(m:aA)(fr:jw)(h:f<m.a5)(x:ba):(m.k9 fr).ev f x=m.ev f x:=by
 have:(m.k9 fr).cA f=m.cA f:=by
  funext s
  let a:(m.k9 fr).a0 f s=m.a0 f s:=by show aF m.a0 m.a5 fr f s=_;rw[bC _ _<|eg h]
  unfold aA.cA;rw[a]
 unfold aA.ev;rw[this]
def Q0(m:aA)(fr:jw)(k:Nat)(v:oJ):(m.k9 fr).hI m.a5 k v=m.k9 λt=>if t=k then Y v else fr t:=by
 have:aF (aF m.a0 m.a5 fr) m.a5 (λt=>if t=k then Y v else (aF m.a0 m.a5 fr) m.a5 t)=aF m.a0 m.a5 λt=>if t=k then Y v else fr t:=by
  funext f
  by_cases z:f=m.a5
  .rw[z,bE,bE,bE]
  .rw[bC _ _ z,bC _ _ z,bC _ _ z]
 show congrArg (λt=>({m with a5:=m.a5+1,a0:=t}:aA)) this
def ha.F3(h:ha ci e #[f,sc,n,n']):ha ci e #[f,sc,n,n2]:=#[h.1,h.2]
structure yh(g g2:kg)(s s2:St)(m eq:aA):Prop where
 bW:g2.bW=g.bW
 a5:eq.a5=m.a5
 ag:eq.ag=m.ag
 b5:eq.b5=m.b5
 cp:s2.ready=s.ready
 F4:s2.tasks=s.tasks
 x8:∀eC ts ps,(∀q∈ps,q.f<m.a5)->jd g.ci eC ts ps->jd g2.ci eC ts ps
def yh.bw(a:yh g g2 s s2 m eq)(b:yh g2 g3 s2 s3 eq se):yh g g3 s s3 m se:=
 #[b.bW.trans a.bW,b.a5.trans a.a5,b.ag.trans a.ag,b.b5.trans a.b5,b.cp.trans a.cp,b.F4.trans a.F4,λc d ps h j=>b.x8 c d ps (by rwa[a.a5])<|a.x8 c d ps h j]
def yi(i:Nat)(t:fG)(g:kg)(s:St)(m:aA)(F:fh)(h e:Nat):Except Bad (St×Env)->Except Int (aA×jw)->Prop
 |.error b,a=>a=.error (uE b)\/(b=.name/\h≠e/\∃r,a=.ok r)
 |.ok r,a=>∃c d f,a=.ok (d.dU i t,f)/\h=e/\R c r.1.task r.1 (d.k9 f)/\yh g c s r.1 m d/\ha c.ci r.2 F
section
variable {i:Nat}{t:fG}{g h9:kg}{s s':St}{m aO:aA}{F Q1:fh}{lH ri:Nat}{rs:Except Bad (St×Env)}{bA:Except Int (aA×jw)}
def yi.iK(b:rs=.error .name)(a:bA=.error (-11)):yi i t g s m F lH ri rs bA:=by subst b a;show .inl Z
def yi.up(r:yi i t h9 s' aO Q1 lH ri rs bA)(j:Q1=F)(pG:∀a h c,yh h9 a s' h aO c->yh g a s h m c):yi i t g s m F (lH+1) (ri+1) rs bA:=by
 subst j
 cases rs with
 |error b=>
  obtain w|⟨d,f,e⟩:=r
  .show .inl w
  .show .inr #[d,λz=>f<|P2 z,e]
 |ok _=>let#[a,c,k,d,f,e,n,l]:=r;show#[a,c,k,d,congrArg (·+1) f,e,pG _ _ _ n,l]
end
def YR{e:Env}{p:fh}{i:Nat}{t:fG}(params:List (Bool×br)):∀{as:List Expr}{xs:List ba}{k:Nat}{g:kg}{s:St}{m:aA}{fr:jw}{b:Env}{sc:Sc}{n':Nat},qg p.sc as xs->R g s.task s (m.k9 fr)->ha g.ci e p->p.f<m.a5->(∀j q,q∈g.bW j->q.f<m.a5)->
  ha g.ci b #[m.a5,sc,k,n']->m.c3<=1000000->
  yi i t g s m #[m.a5,tl sc k params,k+z9 params,n'] (z9 params) (z9 xs) (bindAll e i8 params as s b) ((m.dU i t).ih p.f k (params.map (·.1)) xs fr):=by
 induction params with
 |nil=>
  intro as xs k g s m fr b sc n' B h A aC D F L
  cases B with
  |dg=>show#[g,m,fr,Z,Z,h,#[Z,Z,Z,Z,Z,Z,λ_ _ _ _ j=>j],F]
  |cB _ _ _=>show .inr #[Z,bg,9]
 |cons d params K=>
  intro as xs k g s m fr b sc n' B h A aC D F L
  let#[d,y]:=d
  let N:∀{S},(#[m.a5,S,k+1+z9 params,n']:fh)=#[m.a5,S,k+(z9 params+1),n']:=λ{_}=>by rw[Nat.add_assoc,EO 1]
  cases B with
  |dg=>cases d<;>show .inr #[Z,bg,9]
  |@cB a x as xs M hd B=>
   cases d with
   |true=>
    let P:∀{c:br},p.sc.of O c=U->bindAll e i8 ((O,y)::params) (.var c::as) s b=.error .name:=λ{c} q=>by show(oC e c).bind _=_;rw[A.Cy q];rfl
    cases M with
    |cA n=>show .iK Z Z
    |gx ai=>show .iK (P (by rw[Sc.tg<|Sc.FI ai];rfl)) Z
    |n0 ai=>show .iK (P<|Sc.FJ ai) Z
    |mJ _=>show .iK Z Z
    |n1 _=>show .iK Z Z
    |@k4 yk x0 nr m0 _ W wo=>
     let#[o,u,v,T]:=QZ nr yk λz=>by subst z;cases W;show wo Z
     show T▸(.iK Z Z)
    |@jS c r ai=>
     let#[ch,cw,Q]:=A.aH ai;let V:m.a0 p.f r=Y (.aH ch):=by
      have:=h.ki _ _ _ Q
      rwa [show(m.k9 fr).a0 p.f r=m.a0 p.f r by show aF m.a0 m.a5 fr p.f r=_;rw[bC _ _<|eg aC]]at this
     let E:=h.lG (a:=k) (k2 _) (h.jX _ _ _ Q).2 (λk z=>by cases z) λj q l z=>a8 z<|eg<|D j q l;rw[show wa s.cells (.chan ch)=.aH ch from Z,Q0]at E;rw[show(m.dU i t).ih p.f k (((O,y)::params).map (·.1)) (.jS r::xs) fr=match m.a0 p.f r with|some v=>(m.dU i t).ih p.f (k+1) (params.map (·.1)) xs (λt=>if t=k then Y v else fr t)|none=>.error (-11)from Z,V,show bindAll e i8 ((O,y)::params) (.var c::as) s b=bindAll e i8 params as s ((y,.chan ch)::b)by show(oC e c).bind _=_;rw[cw];rfl];show(K B E (A.gp λz=>a8 z<|eg aC) aC D (ha.gm (F.F3)<|k2 k).F3 L (n':=n')).up N λ_ _ _ w=>#[w.bW,w.a5,w.ag,w.b5,w.cp,w.F4,λI H ps C j=>w.x8 I H ps C<|j.gp λq l z=>a8 z<|eg<|C q l]
   |false=>
    rw[show(m.dU i t).ih p.f k (((J,y)::params).map (·.1)) (x::xs) fr=(m.ev p.f x).bind λv=>if m.c3=1000000 then .error (-13)else (({m with c3:=m.c3+1}:aA).dU i t).ih p.f (k+1) (params.map (·.1)) xs (λt=>if t=k then Y (.cA v)else fr t)from Z,
     show bindAll e i8 ((J,y)::params) (a::as) s b=(value s.cells e i8 a).bind λv=>if um<=z9 s.cells then .error .many else bindAll e i8 params as {s with cells:=s.cells++[v]} ((y,.cell (z9 s.cells))::b)by cases a<;>rfl,
     show m.ev p.f x=x1 (value s.cells e i8 a)by rw[<-YQ m fr aC];show Qx h.ki A #[M,hd]]
    cases value s.cells e i8 a with
    |error j1=>show .inl Z
    |ok v=>
     let cl:z9 s.cells=m.c3:=h.cl;show yi i t g s m _ _ _ (if um<=z9 s.cells then _ else _) (if m.c3=1000000 then _ else _);unfold um;by_cases z:m.c3=1000000
     .rw[aR aV,aR z];show .inl Z
     .rw[aM aV,aM z];let' G:aA:={m with c3:=m.c3+1}
      let h1:R g s.task {s with cells:=s.cells++[v]} (G.k9 fr):=h.QF v;let E:=h1.lG (a:=k) (x:=.cell (z9 s.cells)) (k2 _) (by show z9 s.cells<(s.cells++[v]).length;simp) (λjy w fy X=>by cases w;show h.QG fy X) λj q l w=>a8 w<|eg<|D j q l;rw[show wa ({s with cells:=s.cells++[v]}:St).cells (.cell (z9 s.cells))=.cA v by show oJ.cA _=_;simp]at E
      let F5:R {g with ci:=gp g.ci m.a5 k (.cell (z9 s.cells))} s.task {s with cells:=s.cells++[v]} (G.k9 λt=>if t=k then Y (.cA v)else fr t):=by rwa[<-Q0 G fr k (.cA v)]
      show(K (s:={s with cells:=s.cells++[v]}) B F5 (A.gp λz=>a8 z<|eg aC) aC D (ha.gm (F.F3 (n2:=k+1))<|k2 k).F3 (by show m.c3+1<=_;lia) (n':=n')).up N λ_ _ _ w=>#[w.bW,w.a5,w.ag,w.b5,w.cp,w.F4,λI H ps C j=>w.x8 I H ps C<|j.gp λq l z=>a8 z<|eg<|C q l]
def At.hH(a:At g s m i row e aT ts p d5)(W:m.c3<=1000000)(L:dE pE ps hi)(S:qg p.sc as xs):
  gq i s m (match ps.find? λp=>p.name==f with
   |none=>.error .name
   |some p=>(bindAll e i8 p.params as s []).map λx=>x.1.go i (.stmt p.body x.2::aT))
   (match hi.find? λp=>p.lE==f with
   |none=>.error<|-11
   |some q=>((m.bR i ts).ih p.f 0 q.gn xs λ_=>U).bind λr=>if z9 q.gn≠z9 xs then .error (-11)
    else .ok ({r.1 with a5:=r.1.a5+1,a0:=aF r.1.a0 r.1.a5 r.2}.eh i (.cq q.jb,r.1.a5))):=by
 let#[N,T]:=L.yg f
 cases q:ps.find? λp=>p.name==f with
 |none=>rw[N q];show .iK .name
 |some c=>
  let#[x,V,X,Q,H,P]:=T c q
  rw[V]
  show gq i s m ((bindAll e i8 c.params as s []).map λx=>x.1.go i (.stmt c.body x.2::aT)) (((m.bR i ts).ih p.f 0 x.gn xs λ_=>U).bind λr=>if z9 x.gn≠z9 xs then .error (-11)else .ok ((r.1.k9 r.2).eh i (.cq x.jb,r.1.a5)))
  rw[Q,hR]
  let K:R g s.task s (m.k9 λ_=>U):=a.r.Yy _
  let CT:ha g.ci [] #[m.a5,wn,0,H]:=#[λy=>rfl,λt v=>by let#[y,k,z]:=v;cases z]
  let bs:=YR (i:=i) (t:={m.ag i with a6:=ts}) c.params S K a.dL a.ye (λj q n=>a.r.kj j q n) CT W
  cases B:bindAll e i8 c.params as s []with
  |error b=>
   rw[B]at bs;obtain w|⟨A,u,r,o⟩:=bs
   .show gq i s m (.error b) (zT ((m.dU i {m.ag i with a6:=ts}).ih p.f 0 (c.params.map (·.1)) xs λ_=>U) _);rw[w];show .iK b
   .show gq i s m (.error b) (zT ((m.dU i {m.ag i with a6:=ts}).ih p.f 0 (c.params.map (·.1)) xs λ_=>U) _);rw[o,A];show gq i s m (.error .name) (if z9 c.params≠z9 xs then _ else _);rw[aR u];show .iK .name
  |ok r=>
   let#[G,F]:=r;rw[B]at bs;let#[g2,d,h,A,u,o,l,D]:=bs;show gq i s m (.ok<|G.go i (.stmt c.body F::aT)) (zT ((m.dU i {m.ag i with a6:=ts}).ih p.f 0 (c.params.map (·.1)) xs λ_=>U) _);rw[A];show gq i s m (.ok<|G.go i (.stmt c.body F::aT)) (if z9 c.params≠z9 xs then _ else .ok (((d.dU i {m.ag i with a6:=ts}).k9 h).eh i (.cq x.jb,d.a5)));rw[aM (λz=>z u),l.a5];let M:((d.dU i {m.ag i with a6:=ts}).k9 h).eh i (.cq x.jb,m.a5)=(d.k9 h).dU i {(d.k9 h).ag i with a6:=(.cq x.jb,m.a5)::ts}:=by
    have:((d.dU i {m.ag i with a6:=ts}).k9 h)=(d.k9 h).dU i {(d.k9 h).ag i with a6:=ts}:=by show(d.k9 h).dU i {m.ag i with a6:=ts}=(d.k9 h).dU i {d.ag i with a6:=ts};rw[l.ag]
    show this▸(sa ..)
   rw[M];let C:=l.cp.trans a.bG;rw[show 0+z9 c.params=z9 c.params by lia]at D;show .go (o.FX C (.cB (.cq D P)<|l.x8 _ _ _ a.Aa a.rs) (q8.mpr #[λq n=>ng.Cx<|c5<|eg<|a.Aa q n,a.jU.1]) ?_ ?_) C ?_
   .intro q n;obtain z|z:=eG.mp n
    .show .inr λj _ I E=>?_;rw[l.bW]at E;show z▸(c5<|eg<|a.r.kj j I E)
    .show .inl #[q,by rw[l.bW,a.kl];show e9 _ z,Within.hW q]
   .intro q n;show q.f<d.a5+1;rw[l.a5];obtain z|z:=eG.mp n
    .rw[z];show k2 _
    .show pj<|a.Aa q z
   .show d.b5=row;rw[l.b5];show a.rw
def lI(m:aA):Prop:=m.c3<=1000000/\m.a9<=1000000
def YU(a:At g s m i row e aT ts p d5)(u:m.c3<=1000000)(l:dE pE ps hi)(h:gM p.sc n t x n')(j:n=p.n)(d:n'=p.n'):
  gq i s m (begin_ ps s i t e aT) (aA.l6 hi (m.bR i ts) i p.f x):=by
 cases h with
 |d3=>show a.d3
 |Qp=>show a.d3
 |aH=>show a.d3
 |oH=>show a.oH
 |gm h1 b=>show a.gm h1 b
 |Qq h1=>show gq i s m ((cellOf e _).bind _) _;rw[a.dL.FL h1];show .iK .name
 |h5 h1 b=>show a.h5 h1 b
 |Qr h1=>show gq i s m ((oC e _).bind _) _;rw[a.dL.Cy h1];show .iK .name
 |du h1 b=>show a.du h1 b
 |@Qs sc n y z h1=>
  show gq i s m ((oC e y).bind λc=>(cellOf e z).map _) _;obtain h1|h1:=h1
  .rw[a.dL.Cy h1];show .iK .name
  .cases q:p.sc.of O y with
   |none=>rw[a.dL.Cy q];show .iK .name
   |some c=>let#[k,o,w]:=a.dL.aH q;rw[o,a.dL.FL h1];show .iK .name
 |l4 h1=>show a.l4 h1
 |hH h1=>show a.hH u l h1
 |l5 h1 b r=>subst j d;show a.l5 h1 b r
 |h6 h1 b=>subst j d;show a.h6 h1 b
 |oI h1=>subst j d;show a.oI h1
 |gl h1=>subst j d;show a.gl h1
 |k5 h1=>subst j d;show a.k5 h1
def At.yl(a:At g s m i row e aT ts p d5)(h:R {g with ci:=gp g.ci p.f p.n x} s'.task s' aO)(D:s'.tasks=s.tasks)(j:s'.ready=s.ready)(E:aO.ag=m.ag)(C:aO.b5=m.b5)(u:aO.a5=m.a5)
  (lt:p.n<p.n') (o:mK (p.sc.gm y (xZ x,p.n)) (p.n+1) l cR p.n'):
  gq i s m (.ok<|s'.go i (.seq l ((y,x)::e)::aT)) (.ok<|aO.bR i ((.fw cR,p.f)::ts)):=by
 let#[W,A,W]:=a.r.mO a.bG
 let#[B,F]:=a.r.iI.CA (a.r.FN A) a.kl #[bK _,lt]
 let w:Within #[p.f,p.sc.gm y (xZ x,p.n),p.n+1,p.n'] p:=by
  show#[Z,iT _,bK _,λt v=>?_];let#[z,k,q]:=v;let c:(if z=y then Y (xZ x,p.n)else p.sc z)=Y (k,t):=q;split at c
  .cases c;show .inr #[bK _,lt]
  .show .inl #[z,k,c]
 let d:=j.trans a.bG
 show .go (h.FX (eC:=.seq l ((y,x)::e)::aT) d
  (.cB (.x2 (p:=#[p.f,p.sc.gm y (xZ x,p.n),p.n+1,p.n']) (a.dL.gm lt) o)<|a.rs.gp λq b z=>B q b z) (q8.mpr #[λq b=>(a.jU.2 q b).uG w,a.jU.1]) ?_ ?_) d<|C.trans a.rw
 .intro q b;obtain z|z:=eG.mp b
  .show .inl #[p,by rw[a.kl];show fD ..,by rwa[z]]
  .show .inl #[q,by rw[a.kl];show e9 _ z,Within.hW q]
 .intro q b;rw[u];obtain z|z:=eG.mp b
  .rw[z];show a.ye
  .show a.Aa q z
theorem At.CA(a:At g s m i row e aT ts p d5)(lt:p.n<p.n'):∀j q,q∈g.bW j->q.f=p.f->¬q.kJ p.n:=λj q b z v=>by
 let#[y,d,y]:=a.r.mO a.bG;let#[h,c]:=a.r.iI.CA (a.r.FN d) a.kl #[bK _,lt];by_cases w:j=i
 .rw[w,a.kl]at b;obtain cc|cc:=eG.mp b
  .rw[cc]at v;show m8 _<|a.dL.2 _ v
  .show h q cc z v
 .show c j w q b z v
inductive km(i:Nat):Except Bad (St⊕End)->Except Int aA->Prop where
 |iK (b:Bad):km i (.error b) (.error<|uE b)
 |Q4:km i (.ok<|.inr .late) (.error<|-5)
 |go {g:kg}{s':St}{aO:aA}{row:List Nat}:R g s'.task s' aO->s'.ready=i::row->aO.b5=row->km i (.ok<|.inl s') (.ok aO)
 |wl {g:kg}{s':St}{aO:aA}:R g s'.task s' aO->aO.b5=s'.ready->(aO.ag i).cp=J->km i (.ok<|.inl s') (.ok aO)
def gq.wq(h:gq i s m r x):km i (r.map λs=>.inl s) x:=by
 cases h with
 |iK b=>show .iK b
 |go c d a=>show .go c d a
 |wl c d a=>show .wl c d a
noncomputable def YV(ps:List h3)(s:St)(i:Nat):List Job->Except Bad (St⊕End)
 |[]=>.ok<|.inl<|s.finish i
 |.seq [] _::aT=>.ok<|.inl<|s.go i aT
 |.seq (.int x::l) e::aT=>if um<=z9 s.cells then .error .many else .ok (.inl<|{s with cells:=s.cells++[0]}.go i (.seq l ((x,.cell (z9 s.cells))::e)::aT))
 |.seq (.chan x::l) e::aT=>if um<=s.chans then .error .many else .ok (.inl<|{s with chans:=s.chans+1}.go i (.seq l ((x,.chan s.chans)::e)::aT))
 |.seq (t::l) e::aT=>.ok<|.inl<|s.go i (.stmt t e::.seq l e::aT)
 |.stmt t e::aT=>if s.steps=0 then .ok (.inr .late)else (begin_ ps {s with steps:=s.steps-1} i t e aT).map λs=>.inl s
def Kk(ps:List h3)(g:s.ready=i::row):step ps s=if MOSTJOBS<(s.task i).jobs.length then .error .many else YV ps s i (s.task i).jobs:=by let#[e,b,c,ready,a,f,d]:=s;subst g;rfl
def YW(h:R g s.task s m)(F:s.ready=i::row)(P:m.b5=row)(L:lI m)(X:dE pE ps hi)(Q:(m.ag i).a6≠[]):km i (step ps s) (aA.th hi m i):=by
 let#[ak,aJ,sf,n7,D]:=h.mO F;rw[Kk ps F];unfold aA.th;unfold MOSTJOBS;rw[D.tj];by_cases z:512<(m.ag i).a6.length
 .rw[aR z,aR z];show .iK .many
 .rw[aM z,aM z]
  generalize CU:(s.task i).jobs=eC at D
  generalize jY:(m.ag i).a6=us at D Q
  generalize I:g.bW i=bb at D
  cases D with
  |dg=>show a8 Z Q
  |@cB j t p aT d d5 T S=>
   cases T with
   |@cq st e x p dL b=>
    show km i (if s.steps=0 then _ else _) (if m.fx=0 then _ else _);rw[h.st];by_cases k:m.fx=0
    .rw[aR k,aR k];show .Q4
    .rw[aM k,aM k];let M:At g {s with steps:=s.steps-1} {m with fx:=m.fx-1} i row e aT d p d5:=#[by rw[<-h.st];show h.fx _,F,P,I,dL,S];rw[<-h.st];rw[<-h.st]at M;show(YU M L.1 X b Z Z).wq
   |@x2 l e c p dL b=>
    let a:At g s m i row e aT d p d5:=#[h,F,P,I,dL,S]
    generalize r:p.n=cb at b
    generalize G:p.sc=V at b
    generalize B:p.n'=n2 at b
    cases b with
    |dg=>show .go a.cg a.bG a.rw
    |@gx _ _ _ y l c C=>
     let lt:p.n<p.n':=by rw[r,B];show C.le
     let cl:=h.cl;show km i (if um<=s.cells.length then _ else _) (if m.c3=1000000 then _ else _);unfold um;by_cases k:m.c3=1000000
     .rw[aR aV,aR k];show .iK .many
     .have:=L.1;rw[aM aV,aM k];let A:=h.QF 0;let u:=A.lG (x:=.cell s.cells.length) a.ye (by show s.cells.length<(s.cells++[0]).length;simp) (λjy w N K=>by cases w;show h.QG N K)<|a.CA lt;let jE:wa (s.cells++[0]) (.cell s.cells.length)=.cA 0:=by show oJ.cA _=_;simp
      rw[show wa ({s with cells:=s.cells++[0]}:St).cells (.cell s.cells.length)=.cA 0 from jE]at u;have:=a.yl (s':={s with cells:=s.cells++[0]}) u Z Z Z Z Z lt (by rwa[r,G,B]);let E:(m.dU i {m.ag i with a6:=d}).eh i (.fw c,p.f)=m.bR i ((.fw c,p.f)::d):=sa ..;rw[E,<-r];show this.wq
    |@aH _ _ _ y l c C=>
     let lt:p.n<p.n':=by rw[r,B];show C.le
     let cl:=h.a9;show km i (if um<=s.chans then _ else _) (if m.a9=1000000 then _ else _);unfold um;by_cases k:m.a9=1000000
     .rw[aR aV,aR k];show .iK .many
     .have:=L.2;rw[aM aV,aM k];let A:=h.Yx;let u:=A.lG (f:=p.f) (x:=.chan s.chans) a.ye (by show s.chans<m.a9+1;lia) (λjy w N K=>by cases w)<|a.CA lt;have:=a.yl (s':={s with chans:=s.chans+1}) u Z Z Z Z Z lt (by rwa[r,G,B]);let E:(m.dU i {m.ag i with a6:=d}).eh i (.fw c,p.f)=m.bR i ((.fw c,p.f)::d):=sa ..;rw[E,<-r,<-cl];rw[<-cl]at this;show this.wq
    |@cq _ _ nm _ t x l c pl A u=>
     let E:((m.dU i {m.ag i with a6:=d}).eh i (.fw c,p.f)).eh i (.cq x,p.f)=m.bR i ((.cq x,p.f)::(.fw c,p.f)::d):=by rw[show(m.dU i {m.ag i with a6:=d}).eh i (.fw c,p.f)=m.bR i ((.fw c,p.f)::d)from sa ..];show sa ..
     let W:km i (.ok<|.inl<|s.go i (.stmt t e::.seq l e::aT)) (.ok<|((m.dU i {m.ag i with a6:=d}).eh i (.fw c,p.f)).eh i (.cq x,p.f)):=by
      rw[E];show .go (a.Ac (.cB (.cq (p:=#[p.f,p.sc,p.n,nm]) (a.dL.x3<|bK _) (by rwa[G,r]))<|.cB (.x2 (p:=#[p.f,p.sc,nm,p.n']) (a.dL.x3 (by rw[r];show A.le)) (by rwa[G,B])) .dg) (q8.mpr #[λq H=>?_,uu ..]) λq H=>?_) a.bG a.rw
      .rw[gX.mp H];intro _ t o v;have:=a.dL.2 t v;have:=o.1;simp only at this;lia
      .obtain w|w:=eG.mp H
       .rw[w];show x4 (bK _) (by rw[B];show u.le)
       .rw[gX.mp w];show x4 (by rw[r];show A.le)<|bK _
     cases t<;>first|show W|cases pl
theorem Kl:∀(c:List Bool) (as:List ba) {m:aA}{k:Nat}{fr:jw}{r:aA×jw},m.ih f k c as fr=.ok r->lI m->lI r.1
 |[],as,m,k,fr,r,h,L=>by
  let h:(kG (m,fr):Except Int (aA×jw))=kG r:=by cases as<;>show h
  cases h;show L
 |true::c,[],m,k,fr,r,h,L=>by cases h;show L
 |false::c,[],m,k,fr,r,h,L=>by cases h;show L
 |true::c,a::as,m,k,fr,r,h,L=>by
  cases a with
  |jS s=>
   let h:(match m.a0 f s with|some v=>m.ih f (k+1) c as (λt=>if t=k then Y v else fr t)|none=>.error<|-11)=kG r:=h
   cases q:m.a0 f s with
   |none=>cases q▸h
   |some v=>rw[q]at h;show Kl c as h L
  |cA _=>cases h
  |gx _=>cases h
  |n0=>cases h
  |mJ _=>cases h
  |n1 _=>cases h
  |k4 _ _=>cases h
 |false::c,a::as,m,k,fr,r,h,L=>by
  let h:((m.ev f a).bind λv=>if m.c3=1000000 then .error (-13)else ({m with c3:=m.c3+1}:aA).ih f (k+1) c as (λt=>if t=k then Y (.cA v)else fr t))=kG r:=h
  cases q:m.ev f a with
  |error b=>cases q▸h
  |ok v=>
   rw[q]at h;split at h
   .cases h
   .show Kl c as h #[?_,L.2];have:=L.1;show m.c3+1<=1000000;lia
def pH(m aO:aA):Prop:=aO.c3=m.c3/\aO.a9=m.a9
def pH.wr(h:pH m aO)(L:lI m):lI aO:=#[by rw[h.1];show L.1,by rw[h.2];show L.2]
def pH.bw(h:pH a b)(k:pH b c):pH a c:=#[k.1.trans h.1,k.2.trans h.2]
set_option tactic.hygienic true in
def YY(m:aA)(i c:Nat)(v:Int):pH m (m.h5 i c v):=by
 unfold aA.h5;split
 .show#[Z,Z]
 .rename_i st _ _;cases st<;>show#[Z,Z]
def Q5(h:m.hJ c f s=Y aO):pH m aO:=by
 unfold aA.hJ at h;split at h
 .cases h
 .cases h;show#[Z,Z]
def Q6(m:aA)(i c f s:Nat)(st:Option cJ):pH m (m.jc i c f s st):=by show pH m (if ((m.fK i).aH c).dn.any (λt=>t.1==i)=O then m.fK i else _);split<;>show#[Z,Z]
theorem CV(i f:Nat):∀(l:List (ba×hG×cJ)) (m:aA),pH m (m.kf i f l)
 |[],m=>#[Z,Z]
 |(_,.d3,_)::l,m=>CV i f l m
 |(_,.du U _,_)::l,m=>CV i f l m
 |(_,.du (Y _) U,_)::l,m=>CV i f l m
 |(_,.du (Y c)<|Y y,x)::l,m=>(Q6 m i (m.hU f c) f y<|Y x).bw<|CV i f l _
theorem F7:∀{l:List (ba×hG×cJ)}{r:aA×cJ},m.hV f l=Y r->pH m r.1
 |[],r,h=>by cases h
 |(_,.d3,_)::l,r,h=>by let h:Y (m,_)=Y r:=h;cases h;show#[Z,Z]
 |(_,.du U _,_)::l,r,h=>F7 (l:=l) h
 |(_,.du (Y _) U,_)::l,r,h=>F7 (l:=l) h
 |(_,.du (Y c)<|Y y,x)::l,r,h=>by
  let h:(match m.hJ (m.hU f c) f y with|some a=>Y (a,x)|none=>m.hV f l)=Y r:=h
  cases q:m.hJ (m.hU f c) f y with
  |none=>rw[q]at h;show F7 h
  |some a=>cases q▸h;show Q5 q
def wt{r:Except Int α}{f:α->β}{b:β}(h:r.map f=.ok b):∃a,r=.ok a/\f a=b:=by
 cases r with
 |error e=>cases h
 |ok a=>show#[a,Z,by cases h;rfl]
def yn{r:Except Int α}{f:α->Except Int β}{b:β}(h:r.bind f=.ok b):∃a,r=.ok a/\f a=.ok b:=by
 cases r with
 |error e=>cases h
 |ok a=>show#[a,Z,h]
def YZ{m aO:aA}{i f:Nat}{x:cJ}(h:aA.l6 ps m i f x=.ok aO)(L:lI m):lI aO:=by
 cases x with
 |d3=>cases h;show L
 |oH=>cases h;show L
 |qe=>cases h
 |r7 s e=>let#[v,w,d]:=wt<|show(m.ev f e).map _=_ from h;rwa[<-d]
 |h5 c e=>let#[v,w,d]:=wt<|show(m.ev f e).map _=_ from h;rw[<-d];show(YY ..).wr L
 |du c y=>
  let h:(match m.hJ (m.hU f c) f y with|some aO=>.ok aO|none=>.ok<|m.jc i (m.hU f c) f y U)=kG aO:=h
  cases q:m.hJ (m.hU f c) f y with
  |none=>cases q▸h;show(Q6 ..).wr L
  |some n=>cases q▸h;show(Q5 q).wr L
 |l4 e=>
  let#[v,w,d]:=yn<|show(m.ev f e).bind _=_ from h;split at d
  .cases d
  .cases d;show L
 |hH g as=>
  let h:(match ps.find? λp=>p.lE==g with|none=>.error (-11)|some p=>(m.ih f 0 p.gn as λw=>U).bind λr=>if z9 p.gn≠z9 as then .error (-11)else .ok ({r.1 with a5:=r.1.a5+1,a0:=aF r.1.a0 r.1.a5 r.2}.eh i (.cq p.jb,r.1.a5)))=kG aO:=h
  cases q:ps.find? λp=>p.lE==g with
  |none=>cases q▸h
  |some p=>
   rw[q]at h;let#[r,k,d]:=yn<|show(m.ih f 0 p.gn as λw=>U).bind _=_ from h;split at d
   .cases d
   .cases d;show Kl _ _ k L
 |l5 c a b=>let#[v,w,d]:=wt<|show(m.ev f c).map _=_ from h;rwa[<-d]
 |h6 c a=>let#[v,w,d]:=wt<|show(m.ev f c).map _=_ from h;rw[<-d];split<;>show L
 |oI l=>cases h;show L
 |gl l=>
  let h:(if l=[]then .ok m else if 4096<m.az+z9 l then .error (-13)else .ok _)=kG aO:=h;split at h
  .cases h;show L
  .split at h
   .cases h
   .cases h;show L
 |k5 l=>
  let#[r,w,d]:=yn<|show(m.px f l).bind _=_ from h;split at d
  .cases d
  .cases q:m.hV f r with
   |some j=>cases q▸d;show(F7 q).wr L
   |none=>cases q▸d;show(CV i f r<|m.fK i).wr L
set_option tactic.hygienic true in
def Y0(h:aA.th ps m i=.ok aO)(L:lI m):lI aO:=by
 unfold aA.th at h;split at h
 .cases h
 .split at h
  .cases h;show L
  .rename_i j f aT _
   cases j with
   |fw l=>
    cases l with
    |nil=>cases h;show L
    |cons x l=>
     cases x with
     |gx s=>
      let h:(if m.c3=1000000 then .error (-13)else .ok _)=kG aO:=h;split at h
      .cases h
      .cases h;have:=L.1;show#[by show m.c3+1<=_;lia,L.2]
     |aH s=>
      let h:(if m.a9=1000000 then .error (-13)else .ok _)=kG aO:=h;split at h
      .cases h
      .cases h;have:=L.2;show#[L.1,by show m.a9+1<=_;lia]
     |cq x=>cases h;show L
   |cq x=>
    let h:(if m.fx=0 then .error (-5)else _)=kG aO:=h;split at h
    .cases h
    .show YZ h L
def Y1(m:aA)(i:Nat):pH m (m.nf i):=by
 unfold aA.nf
 cases (m.ag i).hp with
 |none=>show#[Z,Z]
 |some p=>show pH m (if _ then _ else _);split<;>show#[Z,Z]
def R.Y2(h:R g T s m)(r:List Nat):R g T s {m with b5:=r}:=
 #[h.az,h.a9,h.cl,h.cg,h.st,h.fa,h.gl,h.bB,h.ag,h.jW,h.kh,h.eT,h.ki,h.jX,h.hL,h.kj,h.l8,h.hh,h.gD,h.ij,h.iI,h.jf,h.jx]
theorem Q7:∀{l:List α},(l.filter p).length=z9 l->∀a∈l,p a=O
 |[],_,a,h=>by cases h
 |b::l,e,a,h=>by
  rw[pv]at e
  cases q:p b with
  |false=>rw[q]at e;have:=Jc p l;simp at e;lia
  |true=>
   rw[q]at e;obtain z|z:=eG.mp h
   .rw[z];show q
   .show Q7 (by simpa using e) a z
def Y3(h:gZ n p=n):∀i,i<n->p i=true:=λi ak=>by unfold gZ at h;show Q7 (by rw[h,Ji]) i<|nc.mpr ak
def Y4(h:R g s.task s m)(j:s.ready=[])(ps:List h3):step ps s=.ok (.inr<|if m.d4<m.az then .dead else .over):=by
 unfold step;rw[j];show kG (cT<|if (s.tasks.all λt=>match t.now with|.over=>O|_=>J)=O then End.over else .dead)=_;let b:(s.tasks.all λt=>match t.now with|.over=>O|_=>J)=O↔¬m.d4<m.az:=by
  rw[BY];let le:m.d4<=m.az:=by rw[h.fa];show Yn
  let c:∀t:Task,(match t.now with|.over=>O|_=>J)=hb t.now:=λt=>by cases t.now<;>rfl
  let d:∀i (ak:i<z9 s.tasks),s.task i=s.tasks[i]:=λi ak=>by unfold St.task;rw[pq ak];rfl
  constructor
  .intro a;have:gZ m.az (λi=>hb (s.task i).now)=m.az:=QI λi ak=>by
    let f:i<z9 s.tasks:=by rw[h.az];show ak
    rw[d i f,<-c];show a _<|zN f
   rw[h.fa,this];lia
  .intro a t k;let#[i,ak,rfl]:=O5 k;let e:gZ m.az (λi=>hb (s.task i).now)=m.az:=by rw[<-h.fa];lia
   rw[c,<-d i ak];show Y3 e i (by rw[<-h.az];show ak)
 by_cases z:m.d4<m.az
 .rw[aR z,aM λw=>b.mp w z]
 .rw[aM z,aR<|b.mpr z]
def aA.F8(body:cJ)(a:Nat):aA:=#[1,λq=>#[[(.cq body,0)],O,U,0,[]],0,λq=>#[[],[]],1,λq q=>U,[0],0,0,[],a]
end Ho
namespace L2
open PySem PySem.Spec PyProof.Rows
abbrev Key:=Sum Int Str
def wu:Key->aB->Bool
 |.inl k,v=>Value.isInt k v
 |.inr x,v=>Pi x v
def F9(w:dM):Key->Int
 |.inl k=>hashInt k
 |.inr x=>hashStr w x
def tm:∀{k:Key}{v:aB},wu k v=O->(∃i t,k=d2 i/\v=s7 i t)\/(∃x t,k=cT x/\v=zP x t)
 |.inl i,v,h=>by let#[t,e]:=Value.isInt_shape h;show .inl #[i,t,Z,e]
 |.inr x,v,h=>by let#[t,e]:=Value.isStrOf_shape h;show .inr #[x,t,Z,e]
def Y5(i:Int)(t:Tok):wu (.inl i) (.int i t)=true:=by simp[wu,Value.isInt]
def Y6(x:Str)(t:Tok):wu (.inr x) (.str x t)=true:=by simp[wu,Pi]
def Y7(a b:Int):decide ((d2 a:Key)=d2 b)=(a==b):=by
 by_cases e:a=b
 .subst e;simp
 .let h:¬ (d2 a:Key)=d2 b:=λq=>e<|Fo q;show(i9 h)▸((beq_eq_false_iff_ne.mpr e).symm)
def Y8(a b:Str):decide ((cT a:Key)=cT b)=decide (a=b):=by
 by_cases e:a=b
 .subst e;simp
 .let h:¬ (cT a:Key)=cT b:=λq=>e<|Ck q;rw[i9 h,i9 e]
def Y9(a:Int)(b:Str):decide ((d2 a:Key)=cT b)=false:=i9 λq=>nomatch q
def Za(a:Str)(b:Int):decide ((cT a:Key)=d2 b)=false:=i9 λq=>nomatch q
def jF(c:eZ)(w:dM):PySem.KeyKind c w Key where
 is:=wu
 hash:=F9 w
 inj:=λv a b g ae=>by
  obtain⟨i,t,rfl,rfl⟩|⟨x,t,rfl,rfl⟩:=tm g
  .obtain⟨j,u,rfl,e⟩|⟨y,u,rfl,e⟩:=tm ae
   .injection e with d _;rw[d]
   .show nomatch e
  .obtain⟨j,u,rfl,e⟩|⟨y,u,rfl,e⟩:=tm ae
   .show nomatch e
   .injection e with d _;rw[d]
 byValue:=λk v h=>by obtain⟨i,t,rfl,rfl⟩|⟨x,t,rfl,rfl⟩:=tm h<;>rfl
 pyHash:=λf h=>by
  obtain⟨i,t,rfl,rfl⟩|⟨x,t,rfl,rfl⟩:=tm f
  .show wpAny_pyHash_int h
  .show wpAny_pyHash_str h
 eqBool:=λl f h=>by
  obtain⟨i,t,rfl,rfl⟩|⟨x,t,rfl,rfl⟩:=tm l
  .obtain⟨j,u,rfl,rfl⟩|⟨y,u,rfl,rfl⟩:=tm f
   .rw[Y7]at h;show wpAny_eqBool_int h
   .rw[Y9]at h;show PW i t y u _ _ _ _ h
  .obtain⟨j,u,rfl,rfl⟩|⟨y,u,rfl,rfl⟩:=tm f
   .rw[Za]at h;show PX x t j u _ _ _ _ h
   .rw[Y8]at h;show wpAny_eqBool_str h
 «strs»:=λk x t v h=>by
  obtain⟨i,u,rfl,e⟩|⟨y,u,rfl,e⟩:=tm h
  .show nomatch e
  .injection e with d _
   subst d;cases v<;>rfl
def Zb(a:eZ)(w:dM)(i:Int)(t:Tok):(jF a w).is (.inl i) (.int i t)=true:=Y5 i t
def Zc(a:eZ)(w:dM)(x:Str)(t:Tok):(jF a w).is (.inr x) (.str x t)=true:=Y6 x t
set_option genInjectivity true in
set_option genCtorIdx true in
inductive V where
 |bB|cC (b:Bool)|int (i:Int)|str (x:Str)|hr (b:Array UInt8)|yo (b:UInt64)|ref (a:ao)|ty (n:String)
 deriving DecidableEq
def dq:V->aB->Prop
 |.bB,u=>u=ka
 |.cC b,u=>u=Fc b
 |.int i,u=>∃t,u=s7 i t
 |.str x,u=>∃t,u=zP x t
 |.hr b,u=>∃t,u=Value.bytes b t
 |.yo b,u=>∃t,u=Jt b t
 |.ref a,u=>u=e3 a
 |.ty n,u=>u=vY n
abbrev dA:List V->List aB->Prop:=uk dq
theorem dA.length{xs:List V}{us:List aB}(r:dA xs us):xs.length=us.length:=zY r
theorem dA.get:∀{xs:List V}{us:List aB}{i:Nat}{x:V},dA xs us->xs[i]?=Y x->∃u,us[i]?=Y u/\dq x u
 |_,_,_,_,.nil,e=>by simp at e
 |_,_,0,_,.cons r _,e=>by simp at e;subst e;show#[9,r]
 |_,_,i+1,x,.cons _ t,e=>by let#[u,a,b]:=dA.get t (by simpa using e);show#[u,by simpa using a,b]
theorem dA.set(r:dq x u):∀{xs:List V}{us:List aB}(i:Nat),dA xs us->dA (xs.set i x) (us.set i u)
 |_,_,_,.nil=>.nil
 |_,_,0,.cons _ t=>.cons r t
 |_,_,i+1,.cons q t=>.cons q<|dA.set r i t
def dA.append:∀{xs ys:List V}{us a:List aB},dA xs us->dA ys a->dA (xs++ys) (us++a):=by
 intro xs ys us a h s
 induction h with
 |nil=>show s
 |cons r _ b=>show .cons r b
theorem dA.take:∀{xs:List V}{us:List aB}(n:Nat),dA xs us->dA (xs.take n) (us.take n):=by
 intro xs us n h
 induction h generalizing n with
 |nil=>cases n<;>show .nil
 |cons r _ a=>cases n with
  |zero=>show .nil
  |succ n=>show .cons r<|a n
theorem dA.drop:∀{xs:List V}{us:List aB}(n:Nat),dA xs us->dA (xs.drop n) (us.drop n):=by
 intro xs us n h
 induction h generalizing n with
 |nil=>cases n<;>show .nil
 |cons r q a=>cases n with
  |zero=>show .cons r q
  |succ n=>show a n
def dA.none_of:∀{xs:List V}{us:List aB}{i:Nat},dA xs us->xs[i]?=U->us[i]?=none:=λ{xs us i} r e=>by let a:=r.length;let b:=I8.mp e;show I8.mpr aV
def la:Option V->Option aB->Prop
 |some v,Y u=>dq v u
 |none,U=>True
 |_,_=>False
def jG{a:Type}:List (a×V)->List (a×aB)->Prop:=uk λ(p:a×V) (q:a×aB)=>p.1=q.1/\dq p.2 q.2
def ez:Key->V
 |.inl i=>.int i
 |.inr x=>.str x
set_option genInjectivity true in
set_option genCtorIdx true in
inductive hs where
 |bq (xs:List V)
 |cu (xs:List V)
 |cY (av:List (Key×V))|eE (av:List (List Key×V))
 |set (S:Int->Bool) (n:Nat)
 |b7 (C dx:ao) (bb:List (Str×V))
 |own (x:ao)
 |yp (bb:List (Str×V))
 |met (f x:ao)
 |lb (lo ak:Int)
 |fH (o:Obj) (u:hs)
 |wv (ps:Array aB)
 |ext (yq:df->Prop)
abbrev aw:=ao->Option hs
def aE(H:aw)(a:ao)(o:hs):aw:=λb=>if b=a then Y o else H b
def bj:aE H a o a=Y o:=by unfold aE;rw[aR Z]
def aK{H:aw}{a b:ao}{o:hs}(h:b≠a):aE H a o b=H b:=by unfold aE;rw[aM h]
def io:aE (aE H a o) a u=aE H a u:=by funext b;unfold aE;split<;>rfl
def iL{H:aw}(h:H a=Y o)(h':H b=Y u)(d:o≠u):a≠b:=by intro e;subst e;rw[h]at h';show d<|iX h'
def cx{H:aw}{a b:ao}{o:hs}(h:H a=Y o)(h':H b=U):a≠b:=by intro e;subst e;rw[h]at h';cases h'
section
variable (P:eZ) (w:dM)
def ht(H:aw)(h:df)(a:ao):hs->Prop
 |.bq xs=>xs.length<=sizeLine/\∃(c:List aB) (n:Nat),dA xs c/\h.get? a=Y {cls:=.type "list",data:=.seq c.toArray n}
 |.cu xs=>xs.length<=sizeLine/\∃c:List aB,dA xs c/\IsTup h a c.toArray
 |.cY av=>av.length<=sizeLine/\(a==nQ)=J/\∃ac,jG av ac/\h.DictOf (jF P w) a ac
 |.eE av=>av.length<=sizeLine/\(a==nQ)=J/\∃xs:List (List Key×ao×aB),
   uk (λ(p:List Key×V) (q:List Key×ao×aB)=>p.1=q.1/\H q.2.1=Y (.cu<|p.1.map ez)/\dq p.2 q.2.2) av xs/\
   ∃o i j,h.get? a=Y o/\o.ExactDict/\o.data=.dict i j/\i.toList=xs.map (entryOfKey<|xL<|jF P w)/\(xs.map (·.1)).Nodup
 |.set S n=>h.SetOf (intKind P w) a S n
 |.b7 C dx bb=>H dx=Y (.own a)/\bb.length<=1000/\dx≠a/\h.get? a=Y (q0 C dx)/\
   ∃b,h.Ns1 dx b/\(∀f,la (bb.lookup f) (b f))/\IA b (bb.map (·.1))
 |.own _=>∃o,h.get? a=Y o
 |.yp bb=>∃b,h.Ns1 a b/\∀f,la (bb.lookup f) (b f)
 |.lb lo ak=>∃t u v,h.get? a=Y {cls:=.type "range",data:=.fields [.int lo t,.int ak u,.int 1 v].toArray}
 |.fH o u=>h.get? a=Y o/\ht H h a u
 |.wv ps=>h.get? a=Y {cls:=.none,data:=.fields ps}
 |.met f x=>h.get? a=Y (PySem.W.methodObj (.ref f)<|.ref x)
 |.ext d=>d h/\(∃o,h.get? a=Y o)/\∀g e:df,d g->(∀o,g.get? a=Y o->e.get? a=Y o)->d e
def f8(H:aw)(h:df):Prop:=∀a o,H a=Y o->ht P w H h a o
end
section
variable {P:eZ}{w:dM}{H ab:aw}{h h':df}{a:ao}{o:hs}
theorem ht.lt(x:ht P w H h a o):a<h.objs.size:=by
 cases o with
 |bq xs=>let#[q,q,q,q,e]:=x;show dF e
 |cu xs=>let#[q,q,q,p]:=x;show p.lt
 |cY av=>let#[q,q,q,q,o,q,q,e,q]:=x;show dF e
 |eE av=>let#[q,q,q,q,o,q,q,e,q]:=x;show dF e
 |set S n=>let#[o,q,q,q,e,q]:=x;show dF e
 |b7 C dx bb=>let#[q,q,q,e,q]:=x;show dF e
 |own y=>let#[q,e]:=x;show dF e
 |yp bb=>let#[q,#[q,q,q,e,q],q]:=x;show dF e
 |lb lo ak=>let#[q,q,q,e]:=x;show dF e
 |fH ob u=>let#[e,q]:=x;show dF e
 |wv ps=>show dF<|show h.get? a=Y _ from x
 |met f y=>show dF<|show h.get? a=Y _ from x
 |ext b=>let#[q,#[q,e],q]:=x;show dF e
def uk.Q8:∀{c:List α}{Kn:List β},uk F c Kn->(∀a b,F a b->G a b)->uk G c Kn:=by
 intro l m h f
 induction h with
 |nil=>show .nil
 |cons r _ d=>show .cons (f _ _ r) d
def ht.oO(x:ht P w H h a o)(k:∀b u,(b=a\/H b=Y (.own a))->h.get? b=Y u->h'.get? b=Y u)
  (E:∀b,H b=Y (.own a)->ab b=Y (.own a)) (A:∀b xs,H b=Y (.cu xs)->ab b=Y (.cu xs)):ht P w ab h' a o:=by
 induction o with
 |bq xs=>let#[z,j,n,r,e]:=x;show#[z,j,n,r,k _ _ (.inl Z) e]
 |cu xs=>let#[z,j,r,ob,e,c]:=x;show#[z,j,r,ob,k _ _ (.inl Z) e,c]
 |cY av=>let#[z,y,ac,r,ob,g,i,e,c]:=x;show#[z,y,ac,r,ob,g,i,k _ _ (.inl Z) e,c]
 |eE av=>let#[z,y,xs,r,ob,g,i,e,c]:=x;show#[z,y,xs,uk.Q8 r λp q z=>#[z.1,A _ _ z.2.1,z.2.2],ob,g,i,k _ _ (.inl Z) e,c]
 |set S n=>let#[ob,g,i,t,e,c]:=x;show#[ob,g,i,t,k _ _ (.inl Z) e,c]
 |b7 C dx bb=>let#[d,z,B,e,l,#[m,g,i,s,c],r]:=x;show#[E _ d,z,B,k _ _ (.inl Z) e,l,#[m,g,i,k _ _ (.inr d) s,c],r]
 |own y=>let#[ob,e]:=x;show#[ob,k _ _ (.inl Z) e]
 |yp bb=>let#[l,#[m,g,i,e,c],r]:=x;show#[l,#[m,g,i,k _ _ (.inl Z) e,c],r]
 |lb lo ak=>let#[t,u,v,e]:=x;show#[t,u,v,k _ _ (.inl Z) e]
 |fH ob u D=>let#[e,q]:=x;show#[k _ _ (.inl Z) e,D q]
 |wv ps=>have e:h.get? a=Y {cls:=.none,data:=.fields ps}:=x;show k a _ (.inl Z) e
 |met f y=>have e:=x;show k a _ (.inl Z) e
 |ext F=>let#[p,#[o,e],st]:=x;show#[st _ _ p λo q=>k _ _ (.inl Z) q,#[o,k _ _ (.inl Z) e],st]
theorem f8.lt(x:f8 P w H h)(e:H a=Y o):a<h.objs.size:=(x a o e).lt
def f8.fresh(x:f8 P w H h)(e:h.objs.size<=a):H a=none:=by
 cases q:H a with
 |none=>rfl
 |some u=>show a8 (eR (x.lt q) e)<|m8 _
def f8.kept(x:f8 P w H h)(k:∀b u,h.get? b=Y u->h'.get? b=Y u):f8 P w H h':=λa o e=>(x a o e).oO (λb u v q=>k b u q) (λv q=>q) λv v q=>q
def f8.oP(x:f8 P w H h)(k:∀b u,h.get? b=Y u->h'.get? b=Y u)(aC:h.objs.size<=a)(d:ht P w (aE H a o) h' a o):f8 P w (aE H a o) h':=λb u e=>by
 let f:=x.fresh aC;by_cases ae:b=a
 .subst ae;rw[bj]at e;cases e;show d
 .rw[aK ae]at e;show(x b u e).oO (λc v z q=>k c v q) (λc q=>by rwa[aK<|cx q f]) λc xs q=>by rwa[aK<|cx q f]
end
def qm(H:aw)(a:ao)(u:hs):Prop:=H a=Y u\/∃o,H a=Y (.fH o u)
def qm.of(h:H a=Y u):qm H a u:=.inl h
def qm.ok{P:eZ}{w:dM}{H:aw}{h:df}{a:ao}{u:hs}(r:qm H a u)(x:f8 P w H h):ht P w H h a u:=by
 obtain r|⟨o,r⟩:=r
 .show x a u r
 .let#[v,q]:=x a _ r;show q
def uQ:Option hs->Prop
 |some (.bq _)=>True
 |some (.cY _)=>True
 |some (.eE _)=>True
 |some (.set _ _)=>True
 |some (.b7 _ _ _)=>True
 |some (.ext _)=>True
 |_=>False
section
variable {P:eZ}{w:dM}{H:aw}{h h':df}{x e:ao}{e1:hs}
def f8.write(ok:f8 P w H h)(a:uQ (H x))(i:e=x\/H e=Y (.own x))(k:∀b u,b≠e->h.get? b=Y u->h'.get? b=Y u)(n:∃u,h'.get? e=Y u)
  (f:ht P w (aE H x e1) h' x e1):f8 P w (aE H x e1) h':=λb u q=>by
 let j:∀c y,H c=Y (.own y)->c≠x:=λc y r z=>by subst z;rwa[r]at a
 let l:∀c xs,H c=Y (.cu xs)->c≠x:=λc xs r z=>by subst z;rwa[r]at a
 by_cases ae:b=x
 .subst ae;rw[bj]at q;cases q;show f
 .rw[aK ae]at q;by_cases d:b=e
  .let g:H b=Y (.own x):=by
    obtain z|z:=i
    .show a8 (d.trans z) ae
    .rw[d];show z
   rw[q]at g;cases g;let#[v,m]:=n;show#[v,by rwa[d]]
  .show(ok b u q).oO (λc v hc r=>k c v ?_ r) (λc r=>by rwa[aK<|j c b r]) λc xs r=>by rwa[aK<|l c xs r]
   obtain rfl|hc:=hc
   .show d
   .rintro rfl;obtain z|z:=i
    .show j c b hc z
    .rw[hc]at z;cases z;show ae Z
end
structure ia(bb ex:List ao)(H ab:aw)(h h':df):Prop where
 keep:∀b o,h.get? b=Y o->H b=U->b∉bb->b∉ex->h'.get? b=Y o
 slot:∀b o,h.get? b=Y o->H b=U->b∈bb->b∉ex->∃c2,h'.get? b=Y {o with slots:=c2}
 free:∀b o,h.get? b=Y o->H b=U->b∉ex->ab b=U
 there:∀b o,h.get? b=Y o->b∉ex->∃e1,h'.get? b=Y e1
 mQ:∀b xs,H b=Y (.cu xs)->ab b=Y (.cu xs)
 lf:∀b o u,H b=Y (.fH o u)->ab b=Y (.fH o u)
 mR:∀b ps,H b=Y (.wv ps)->∃more,ab b=Y (.wv<|ps++more)
section
variable {bb ww ex Ra:List ao}{H H1 ay:aw}{h h1 aj h':df}{a x e:ao}{o:hs}
def ia.any(u:ia bb ex H H1 h h1)(q:h.get? b=Y ob)(n:H b=U)(a:b∉ex):∃c,h1.get? b=Y {ob with slots:=c}:=by
 by_cases ae:b∈bb
 .show u.slot b ob q n ae a
 .show#[ob.slots,u.keep b ob q n ae a]
def ia.trans(a:ia bb ex H H1 h h1)(b:ia bb ex H1 ay h1 aj):ia bb ex H ay h aj where
 keep:=λc ob q n f d=>b.keep c ob (a.keep c ob q n f d) (a.free c ob q n d) f d
 slot:=λc ob q n f d=>by let#[m,e]:=a.slot c ob q n f d;let#[l,g]:=b.slot c _ e (a.free c ob q n d) f d;show#[l,g]
 free:=λc ob q n d=>by let#[i,e]:=a.there c ob q d;show b.free c i e (a.free c ob q n d) d
 there:=λc ob q d=>by let#[i,e]:=a.there c ob q d;show b.there c i e d
 mQ:=λc xs q=>b.mQ c xs<|a.mQ c xs q
 lf:=λc ob xs q=>b.lf c ob xs<|a.lf c ob xs q
 mR:=λc ps q=>by let#[j,e]:=a.mR c ps q;let#[k,g]:=b.mR c _ e;show#[j++k,by rw[g,Pl]]
def ia.kept(k:∀b u,h.get? b=Y u->h'.get? b=Y u):ia bb ex H H h h':=
 #[λb ob q w w w=>k b ob q,λb ob q w w w=>#[ob.slots,k b ob q],λw w w n w=>n,λb ob q w=>#[ob,k b ob q],λw w q=>q,λw w w q=>q,λw ps q=>#[[].toArray,by rw[q];simp]]
def ia.refl:ia bb ex H H h h:=ia.kept λw w q=>q
def ia.oP(k:∀b u,h.get? b=Y u->h'.get? b=Y u)(aC:h.objs.size<=a)(c:H a=U):ia bb ex H (aE H a o) h h' where
 keep:=λb u q w w w=>k b u q
 slot:=λb u q w w w=>#[u.slots,k b u q]
 free:=λb u q n w=>by rwa[aK<|eg<|eR (dF q) aC]
 there:=λb u q w=>#[u,k b u q]
 mQ:=λb xs q=>by rwa[aK<|cx q c]
 lf:=λb u xs q=>by rwa[aK<|cx q c]
 mR:=λb ps q=>#[[].toArray,by rw[aK<|cx q c,q];simp]
def ia.write(a:uQ (H x))(f:e=x\/H e=Y (.own x))(k:∀b u,b≠e->h.get? b=Y u->h'.get? b=Y u)(g:∃u,h'.get? e=Y u):ia bb ex H (aE H x o) h h':=by
 let d:∀b,H b=U->b≠x:=λb n z=>by subst z;rwa[n]at a
 let ae:∀b,H b=U->b≠e:=λb n z=>by
  subst z;obtain r|r:=f
  .show d b n r
  .rw[n]at r;cases r
 let hm:∀b u,H b=Y u->¬uQ (Y u)->b≠x:=λb u q nm z=>by subst z;rw[q]at a;show nm a
 show#[λb u q n w w=>k b u (ae b n) q,λb u q n w w=>#[u.slots,k b u (ae b n) q],λb u q n w=>by rwa[aK<|d b n],λb u q w=>?_,
  λb xs q=>by rwa[aK<|hm b _ q λz=>z],λb u xs q=>by rwa[aK<|hm b _ q λz=>z],λb ps q=>#[[].toArray,by rw[aK (hm b _ q λz=>z),q];simp]]
 by_cases c:b=e
 .subst c;show g
 .show#[u,k b u c q]
def ia.cI(u:ia bb ex H H1 h h1)(ai:∀b∈bb,b∈ww)(c:∀b∈ex,b∈Ra):ia ww Ra H H1 h h1:=
 #[λb ob q n ae a=>u.keep b ob q n (λz=>ae<|ai b z) λz=>a<|c b z,λw w q n w a=>u.any q n λz=>a<|c _ z,λb ob q n a=>u.free b ob q n λz=>a<|c b z,λb ob q a=>u.there b ob q λz=>a<|c b z,u.mQ,u.lf,u.mR]
end
def Ga(h:df)(H:aw):List ao:=(gK h.objs.size).filter λa=>(H a).isSome
def qn(h:df)(H:aw):df:=PySem.W.hideAll h<|Ga h H
def Rb(h:df)(H:aw):(qn h H).objs.size=h.objs.size:=PySem.W.hideAll_size _ _
def Rc(e:h.get? b=Y o)(n:H b=U):(qn h H).get? b=Y o:=
 PySem.W.hideAll_get _ e λhm=>by let q:=(vW.mp hm).2;rw[n]at q;simp at q
def Rd(e:(qn h H).get? b=Y o):h.get? b=Y o/\H b=none:=by
 let a:=PySem.W.of_hideAll (Ga h H) e
 show#[a,?_]
 cases q:H b with
 |none=>rfl
 |some x=>have hm:b∈Ga h H:=vW.mpr #[nc.mpr<|dF a,by simp[q]];have z:(qn h H).get? b=none:=PySem.W.hideAll_none (Ga h H) hm;rw[z]at e;cases e
def Ze(g h:df)(L:ao):List (ao×Obj):=(gK h.objs.size).filterMap λa=>if a=L\/(g.get? a).isSome=O then U else (h.get? a).map λo=>(a,o)
def aT(g h:df)(L d:ao):List (ao×Obj):=(Ze g h L).filter λp=>decide<|p.1≠d
structure Mod(K:b2)(aL:Str->Option aB)(base:df):Prop where
 CW:K.In base
 sh:base.Ns k0 aL
 lJ:∃n8,base.Ns EH n8/\∀x:Str,x≠"__name__"->n8 x=oA x
 nolimit:base.NoLimit
structure b9 where
 prog:eZ
 w:dM
 K:b2
 aL:Str->Option aB
 base:df
 A:e0
 N:List Str
 eb:bl
 gS:aw
 env:Env
 bc:List Env
 stack:List Env
 ex:List ao
 fn:Str->Bool
 tn:Bool
 f6:List (ao×Obj)
 er:aB->bl->Prop
def eT(l:List Env):List ao:=l.filterMap (·.frame)
abbrev b9.bb(X:b9):List ao:=eT X.bc
def CX(sc:iH)(x:Str):Prop:=sc.names.lookup x=Y .local\/sc.names.lookup x=Y .cell\/sc.names.lookup x=Y .free
def Loc(sc:iH)(x:Str):Prop:=sc.names.lookup x=Y .local\/sc.names.lookup x=Y .cell
def Look(a:Env)(h:df)(m:Str->Option aB)(x:Str)(u:aB):Prop:=
 (a.kindOf x=Y .local/\m x=Y u)\/((a.kindOf x=Y .cell\/a.kindOf x=Y .free)/\∃c,a.cells.lookup x=Y c/\h.IsCell c (Y u))
structure b9.Ok(X:b9):Prop where
 mod:Mod X.K X.aL X.base
 kind:X.env.scope.kind=.function
 sh:X.env.globals=k0
 lJ:X.env.builtins=EH
 above:X.eb.heap.objs.size<=X.env.locals
 inj:∀x y c,X.env.cells.lookup x=Y c->X.env.cells.lookup y=Y c->x=y
 has:∀x,(X.env.kindOf x=Y .cell\/X.env.kindOf x=Y .free)->∃c,X.env.cells.lookup x=Y c
 yt:∀x c,X.fn x=O->X.env.cells.lookup x=Y c->X.eb.heap.objs.size<=c
 hd:X.tn=O->X.A.handled=U
 frames:X.A.frames=Y X.stack
 jU:X.stack=X.bc\/(X.stack=X.env::X.bc/\X.env.frame=Y X.env.locals)
 Ak:∀b∈X.ex,b≠X.env.locals/\∀x c,X.env.cells.lookup x=Y c->c≠b
 bs:∀b o,X.base.get? b=Y o->X.eb.heap.get? b=Y o/\X.gS b=U
 qo:X.base.objs.size<=X.eb.heap.objs.size
 yu:∀b o,X.base.get? b=Y o->b∉X.ex
 yv:∀b∈X.ex,b∉X.bb
 oQ:X.eb.heap.FunFrames X.base X.bc
 tp:∀b∈X.bb,X.gS b=U
structure aN(X:b9)(ah:List (ao×Obj))(σ:List (Option V))(H:aw)(s:bl):Prop where
 ok:X.Ok
 os:s.os=X.eb.os
 f9:s9 s.gens
 base:ia X.bb X.ex X.gS H X.eb.heap s.heap
 loc:∃m,s.heap.Ns X.env.locals m/\∀(i:Nat) (x:Str) (v:V),X.N[i]?=Y x->σ[i]?=Y (Y v)->CX X.env.scope x->∃u,dq v u/\Look X.env s.heap m x u
 cell:∀x c,X.env.cells.lookup x=Y c->∃v,s.heap.IsCell c v
 free:H X.env.locals=U
 mS:∀x c,X.env.cells.lookup x=Y c->H c=U
 pin:∀p∈X.f6++ah,s.heap.get? p.1=Y p.2/\H p.1=U/\p.1≠X.env.locals/\p.1∉X.bb/\∀v,p.2.data≠.cell v
 bL:f8 X.prog X.w H s.heap
 len:σ.length=X.N.length
section
variable {X:b9}{ah:List (ao×Obj)}{σ:List (Option V)}{H ab:aw}{s:bl}{h':df}
def b9.Ok.Zf(ok:X.Ok)(e:X.base.get? b=Y o):b∉X.bb:=λae=>by have:=(ok.oQ.mem ae).1;rw[e]at this;cases this
theorem aN.bs(I:aN X ah σ H s):∀b o,X.base.get? b=Y o->s.heap.get? b=Y o/\H b=none:=λb o e=>
 #[I.base.keep b o (I.ok.bs b o e).1 (I.ok.bs b o e).2 (I.ok.Zf e)<|I.ok.yu b o e,I.base.free b o (I.ok.bs b o e).1 (I.ok.bs b o e).2<|I.ok.yu b o e]
def aN.kn(I:aN X ah σ H s):∀b o,X.base.get? b=Y o->s.heap.get? b=Y o:=λb o e=>(I.bs b o e).1
theorem aN.mod(I:aN X ah σ H s):Mod X.K X.aL X.base:=I.ok.mod
def aN.fS(I:aN X ah σ H s):X.K.In s.heap:=I.ok.mod.CW.keeps I.kn
theorem aN.nolimit(I:aN X ah σ H s):s.heap.NoLimit:=I.ok.mod.nolimit.keeps I.kn
def aN.fr(I:aN X ah σ H s):∃m,Fr X.base X.env.locals s.heap m:=
 let ⟨m,aJ,_⟩:=I.loc
 #[m,aJ,I.kn,dK I.ok.qo I.ok.above]
theorem aN.lt(I:aN X ah σ H s):X.env.locals<s.heap.objs.size:=let ⟨_,aJ,_⟩:=I.loc;aJ.lt
def aN.jh(I:aN X ah σ H s):X.eb.heap.objs.size<=s.heap.objs.size:=dK I.ok.above<|ul I.lt
def aN.Gb(I:aN X ah σ H s)(h:s.heap.objs.size<=a):a∉X.bb:=λae=>by let#[q,o,b,q]:=I.ok.oQ.mem ae;show a8 (eR (dF b)<|dK I.jh h)<|m8 _
def aN.si(I:aN X ah σ H s):∀x c,X.env.cells.lookup x=Y c->c≠X.env.locals:=λx c e z=>by let#[v,o,b,a]:=I.cell x c e;let#[m,#[i,g,h,d,f,q],q]:=I.loc;rw[z,d]at b;cases b;rw[f]at a;cases a
theorem aN.oQ(I:aN X ah σ H s):s.heap.FunFrames X.base X.bc:=by
 let all:∀(l:List Env),(∀b∈eT l,b∈X.bb)->X.eb.heap.FunFrames X.base l->s.heap.FunFrames X.base l:=by
  intro l
  induction l with
  |nil=>intro q q;trivial
  |cons g r f=>intro ai h;let#[i,#[L,o,a,k,m,d],j]:=h;let c:=ai L (by unfold eT;rw[r3,a];show fD);let#[n,e]:=I.base.slot L o m (I.ok.tp L c) c λz=>I.ok.yv L z c;show#[i,#[L,_,a,k,e,d],f (λb ae=>ai b (by unfold eT;rw[r3,a];show e9 _ ae)) j]
 show all X.bc (λq ae=>ae) I.ok.oQ
theorem aN.stack(I:aN X ah σ H s):s.heap.FunFrames X.base X.stack:=by
 obtain e|⟨e,a⟩:=I.ok.jU
 .rw[e];show I.oQ
 .rw[e];let#[m,b,q]:=I.loc;show .cons (by rw[I.ok.kind];decide) a b ?_ I.oQ;show Heap.get?_none_of_le<|dK I.ok.qo I.ok.above
def aN.yw(I:aN X ah σ H s):∀b∈eT X.stack,b∈X.env.locals::X.bb:=λb ae=>by
 obtain e|⟨e,a⟩:=I.ok.jU
 .rw[e]at ae;show e9 _ ae
 .rw[e]at ae;unfold eT at ae;rwa[r3,a]at ae
def aN.Al(I:aN X ah σ H s):∀b∈eT X.stack,H b=none:=λb ae=>by
 obtain e|ae:=eG.mp (I.yw b ae)
 .rw[e];show I.free
 .let#[q,o,a,q]:=I.ok.oQ.mem ae;show I.base.free b o a (I.ok.tp b ae) λz=>I.ok.yv b z ae
def aN.step{ch:List ao}(I:aN X ah σ H s)
  (t:∀b∈ch,(b∈X.ex\/X.eb.heap.objs.size<=b)/\b≠X.env.locals/\(∀x c,X.env.cells.lookup x=Y c->c≠b)/\∀p∈X.f6++ah,p.1≠b)
  (keep:∀b o,b≠X.env.locals->b∉X.bb->b∉ch->s.heap.get? b=Y o->H b=U->h'.get? b=Y o)
  (slot:∀b o,b≠X.env.locals->b∈X.bb->b∉ch->s.heap.get? b=Y o->H b=U->∃D,h'.get? b=Y {o with slots:=D}) (free:∀b o,b∉ch->s.heap.get? b=Y o->H b=U->ab b=U)
  (there:∀b o,b∉ch->s.heap.get? b=Y o->∃A,h'.get? b=Y A)
  (mQ:∀b xs,H b=Y (.cu xs)->ab b=Y (.cu xs)) (lf:∀b o u,H b=Y (.fH o u)->ab b=Y (.fH o u)) (mR:∀b ps,H b=Y (.wv ps)->∃more,ab b=Y (.wv<|ps++more))
  (L:∀m,s.heap.Ns X.env.locals m->h'.Ns X.env.locals m) (M:f8 X.prog X.w ab h') (K:s9 h9):
  aN X ah σ ab {s with heap:=h',gens:=h9,drawn:=kN,toks:=t'}:=by
 let Re:∀b o,X.eb.heap.get? b=Y o->b≠X.env.locals:=λb o e=>eg<|eR (dF e) I.ok.above
 let B:∀b o,X.eb.heap.get? b=Y o->b∉X.ex->b∉ch:=λb o e a ae=>by
  obtain z|z:=(t b ae).1
  .show a z
  .show a8 (eR (dF e) z)<|m8 _
 let f:∀x c,X.env.cells.lookup x=Y c->∀v,s.heap.IsCell c v->h'.IsCell c v:=λx c e v #[o,h,C]=>by
  let y:=λz=>(t c z).2.2.1 x c e Z;by_cases G:c∈X.bb
  .let#[D,q]:=slot c o (I.si x c e) G y h<|I.mS x c e;show#[_,q,C]
  .show#[o,keep c o (I.si x c e) G y h<|I.mS x c e,C]
 show#[I.ok,I.os,K,#[λb o e n ae a=>?_,λb o e n ae a=>?_,λb o e n a=>?_,λb o e a=>?_,λb xs e=>mQ b xs<|I.base.mQ b xs e,λb o xs e=>lf b o xs<|I.base.lf b o xs e,λb ps e=>?_],?_,λx c e=>?_,?_,λx c e=>?_,λp aC=>?_,M,I.len]
 .show keep b o (Re b o e) ae (B b o e a) (I.base.keep b o e n ae a)<|I.base.free b o e n a
 .let#[D,g]:=I.base.slot b o e n ae a;let#[T,j]:=slot b _ (Re b o e) ae (B b o e a) g<|I.base.free b o e n a;show#[T,j]
 .let#[A,g]:=I.base.there b o e a;show free b A (B b o e a) g<|I.base.free b o e n a
 .let#[A,g]:=I.base.there b o e a;show there b A (B b o e a) g
 .let#[R,g]:=I.base.mR b ps e;let#[P,j]:=mR b _ g;show#[R++P,by rw[j,Pl]]
 .let#[m,S,Q]:=I.loc;show#[m,L m S,λi x v g j N=>?_];let#[u,r,l]:=Q i x v g j N;show#[u,r,?_];obtain l|⟨k,c,e,z⟩:=l
  .show .inl l
  .show .inr #[k,c,e,f x c e _ z]
 .let#[v,z]:=I.cell x c e;show#[v,f x c e v z]
 .let#[m,#[o,W,W,h,W],W]:=I.loc;show free _ o (λz=>(t _ z).2.1 Z) h I.free
 .let#[v,o,h,C]:=I.cell x c e;show free c o (λz=>(t c z).2.2.1 x c e Z) h<|I.mS x c e
 .let#[e,n,E,F,d]:=I.pin p aC;let y:=λz=>(t p.1 z).2.2.2 p aC Z;show#[keep p.1 p.2 E F y e n,free p.1 p.2 y e n,E,F,d]
def aN.un{t':Nat}(I:aN X ah σ H s)(u:ia X.bb [] H ab s.heap h')(d:f8 X.prog X.w ab h'):aN X ah σ ab {s with heap:=h',toks:=t'}:=by
 let#[m,#[o,k,l,c,r],v]:=id I.loc;let#[j,f]:=u.any c I.free bg;show I.step (h9:=s.gens) (kN:=s.drawn) (ch:=[]) (λv z=>nomatch z) (λb o v ae v e n=>u.keep b o e n ae bg) (λb o v ae v e n=>u.slot b o e n ae bg) (λb o v e n=>u.free b o e n bg) (λb o v e=>u.there b o e bg) u.mQ u.lf u.mR (λq hm=>by let#[p,h,g,a,i]:=hm;rw[c]at a;cases a;show#[_,h,g,f,i]) d I.f9
def aN.call{ch:List ao}(I:aN X ah σ H s)(u:ia (eT X.stack) ch H ab s.heap h')(j:f8 X.prog X.w ab h')(i:s9 h9)
  (f:∀b∈ch,(b∈X.ex\/X.eb.heap.objs.size<=b)/\b≠X.env.locals/\(∀x c,X.env.cells.lookup x=Y c->c≠b)/\∀p∈X.f6++ah,p.1≠b):
  aN X ah σ ab {s with heap:=h',gens:=h9,drawn:=kN,toks:=t'}:=by
 let#[m,#[o,y,A,h,r],W]:=id I.loc
 let#[v,d]:=u.any h I.free λz=>(f _ z).2.1 Z
 show I.step f (λb o d ae a e n=>u.keep b o e n (λz=>(eG.mp<|I.yw b z).elim d ae) a) (λb o W W a e n=>u.any e n a) (λb o a e n=>u.free b o e n a) (λb o a e=>u.there b o e a) u.mQ u.lf u.mR (λt hm=>by let#[B,l,k,g,q]:=hm;rw[h]at g;cases g;show#[_,l,k,d,q]) j i
def aN.qp{it:ao}(I:aN X ah σ H s)(k:∀b o,b≠it->s.heap.get? b=Y o->h'.get? b=Y o)(l:H it=U)(f:it≠X.env.locals)
  (h1:it∈X.ex\/X.eb.heap.objs.size<=it) (g:∀x c,X.env.cells.lookup x=Y c->c≠it) (j:∀p∈X.f6++ah,p.1≠it):aN X ah σ H {s with heap:=h',toks:=t'}:=by
 let d:∀b u,H b=Y u->b≠it:=λb u e z=>by rw[z,l]at e;cases e
 show I.step (h9:=s.gens) (kN:=s.drawn) (ch:=[it]) (λb ae=>?_) (λb o w w a e w=>k b o (λz=>a<|by simp[z]) e) (λb o w w a e w=>#[o.slots,k b o (λz=>a<|by simp[z]) e]) (λw w w w n=>n)
  (λb o a e=>#[o,k b o (λz=>a<|by simp[z]) e]) (λw w e=>e) (λw w w e=>e) (λb ps e=>#[[].toArray,by rw[e];simp]) (λm hm=>?_) (λb u e=>?_) I.f9
 .let e:b=it:=by simpa using ae
  subst e;show#[h1,f,g,j]
 .let#[o,h,i,t,r]:=hm;show#[o,h,i,k _ o (c5 f) t,r]
 .show(I.bL b u e).oO (λc v a q=>k c v ?_ q) (λw q=>q) λw w q=>q;obtain z|z:=a
  .rw[z];show d b u e
  .show d c _ z
def aN.tok(I:aN X ah σ H s)(t:Nat):aN X ah σ H {s with toks:=t}:=I.un (h':=s.heap) (t':=t) ia.refl I.bL
theorem aN.kept{t':Nat}(I:aN X ah σ H s)(k:∀b u,s.heap.get? b=Y u->h'.get? b=Y u):aN X ah σ H {s with heap:=h',toks:=t'}:=I.un (ia.kept k)<|I.bL.kept k
theorem aN.oP(I:aN X ah σ H s)(k:∀b u,s.heap.get? b=Y u->h'.get? b=Y u)(aC:s.heap.objs.size<=a)(c:ht X.prog X.w (aE H a o) h' a o):
  aN X ah σ (aE H a o) {s with heap:=h',toks:=t'}:=I.un (ia.oP k aC<|I.bL.fresh aC)<|I.bL.oP k aC c
theorem aN.write(I:aN X ah σ H s)(c:uQ (H x))(d:e=x\/H e=Y (.own x))(k:∀b u,b≠e->s.heap.get? b=Y u->h'.get? b=Y u)(f:∃u,h'.get? e=Y u)
  (a:ht X.prog X.w (aE H x o) h' x o):aN X ah σ (aE H x o) {s with heap:=h',toks:=t'}:=I.un (ia.write c d k f)<|I.bL.write c d k f a
def aN.weak(I:aN X ah σ H s)(c:cr.length=σ.length)(w:∀(i:Nat) v,cr[i]?=Y (Y v)->σ[i]?=Y (Y v)):aN X ah cr H s:=
 #[I.ok,I.os,I.f9,I.base,let ⟨m,aJ,FW⟩:=I.loc;#[m,aJ,λi x v a b d=>FW i x v a (w i v b) d],I.cell,I.free,I.mS,I.pin,I.bL,c.trans I.len]
def aN.Rf(I:aN X ah σ H s)(h:∀p∈e,s.heap.get? p.1=Y p.2/\H p.1=U/\p.1≠X.env.locals/\p.1∉X.bb/\∀v,p.2.data≠.cell v):aN X e σ H s:=
 #[I.ok,I.os,I.f9,I.base,I.loc,I.cell,I.free,I.mS,λp aC=>(iV.mp aC).elim (λz=>I.pin p<|r2 _ z)<|h p,I.bL,I.len]
def Gd{N:List Str}(c:N.Nodup){i j:Nat}{x:Str}(a:N[i]?=Y x)(b:N[j]?=Y x):i=j:=by let#[f,d]:=jP.mp a;let#[g,e]:=jP.mp b;show(List.getElem_inj c).mp<|d.trans e.symm
def Rg{M:Model}{A:e0}{E:aB->bl->Prop}{i:Nat}{x:Str}{v:V}{u:aB}{Q:Unit->bl->Prop}(I:aN X ah σ H s)(fM:X.N.Nodup)(ak:X.N[i]?=Y x)(g:Loc X.env.scope x)(r:dq v u)
  (h:∀s',aN X ah (σ.set i<|Y v) H s'->(∃a,p9 a s.heap s'.heap/\(a=X.env.locals\/X.env.cells.lookup x=Y a))->Q () s') (hf:X.fn x=O\/X.env.scope.names.lookup x=Y .local:=by first|show .inl Z|show .inr Z|assumption):bP M A (storeName X.env x u) Q E s:=by
 let#[m,S,hl]:=id I.loc
 let Ko:(X.env.scope.kind==.class||(X.env.scope.kind==.module&&X.env.locals != X.env.globals))=false:=by rw[I.ok.kind];rfl
 let Ge:i<σ.length:=by rw[I.len];show(jP.mp ak).1
 let si:=I.si
 let Gf:∀{a:ao}{h':df},(∃o,s.heap.get? a=Y o/\H a=U)->p9 a s.heap h'->f8 X.prog X.w H h':=λ{a h'} ax ai b ob e=>by
  let#[_,_,uS]:=ax;show(I.bL b ob e).oO (λc C hc q=>(ai.2 c ?_).trans q) (λ_ q=>q) λ_ _ q=>q;rintro rfl;obtain rfl|hc:=hc
  .rw[uS]at e;cases e
  .rw[uS]at hc;cases hc
 obtain aD|aD:=g
 .show wpAny_storeName_local aD S (λh' jC ai=>?_) Ko;let#[Zg,_,_,Zh,_]:=id S;show h _ #[I.ok,I.os,I.f9,#[λb o e n ae g=>?_,λb o e n ae g=>?_,I.base.free,λb o e g=>?_,I.base.mQ,I.base.lf,I.base.mR],#[_,jC,λj y K f l G=>?_],λy c e=>?_,I.free,I.mS,λp aC=>?_,Gf #[Zg,Zh,I.free] ai,by simpa using I.len] #[_,ai,.inl Z]
  .show(ai.2 b<|eg<|eR (dF e) I.ok.above).trans<|I.base.keep b o e n ae g
  .let#[P,f]:=I.base.slot b o e n ae g;show#[P,(ai.2 b<|eg<|eR (dF e) I.ok.above).trans f]
  .let#[R,f]:=I.base.there b o e g;show#[R,(ai.2 b<|eg<|eR (dF e) I.ok.above).trans f]
  .by_cases t:j=i
   .subst t;rw[ak]at f;cases f;rw[zL Ge]at l;cases l;show#[u,r,.inl #[aD,bg]]
   .rw[zM<|c5 t]at l;let#[F,W,q]:=hl j y K f l G;show#[F,W,?_];obtain⟨k,e⟩|⟨k,c,e,z⟩:=q
    .show .inl #[k,?_];have:y≠x:=λe=>t<|Gd fM f<|e▸ak;simp[this,e]
    .show .inr #[k,c,e,z.sameBut ai<|si y c e]
  .let#[C,z]:=I.cell y c e;show#[C,z.sameBut ai<|si y c e]
  .let#[e,n,D,L,d]:=I.pin p aC;show#[(ai.2 p.1 D).trans e,n,D,L,d]
 .let T:X.fn x=true:=by
   obtain z|z:=hf
   .show z
   .rw[z]at aD;cases aD
  let#[c,hc]:=I.ok.has x<|.inl aD;let#[C,z]:=I.cell x c hc;show wpAny_storeName_cell I.ok.kind aD hc z λh' Am ai=>?_;let#[sd,Rh,Zi]:=id z;show h {s with heap:=h'} #[I.ok,I.os,I.f9,#[λb o e n ae g=>?_,λb o e n ae g=>?_,I.base.free,λb o e g=>?_,I.base.mQ,I.base.lf,I.base.mR],#[m,S.sameBut ai<|c5<|si x c hc,λj y K f l G=>?_],λy B e=>?_,I.free,I.mS,λp aC=>?_,Gf #[sd,Rh,I.mS x c hc] ai,by simpa using I.len] #[c,ai,.inr hc]
  .show(ai.2 b<|eg<|eR (dF e)<|I.ok.yt x c T hc).trans<|I.base.keep b o e n ae g
  .let#[P,f]:=I.base.slot b o e n ae g;show#[P,(ai.2 b<|eg<|eR (dF e)<|I.ok.yt x c T hc).trans f]
  .let#[R,f]:=I.base.there b o e g;show#[R,(ai.2 b<|eg<|eR (dF e)<|I.ok.yt x c T hc).trans f]
  .by_cases t:j=i
   .subst t;rw[ak]at f;cases f;rw[zL Ge]at l;cases l;show#[u,r,.inr #[.inl aD,c,hc,Am]]
   .rw[zM<|c5 t]at l;let#[F,W,q]:=hl j y K f l G;show#[F,W,?_];obtain q|⟨k,B,e,jV⟩:=q
    .show .inl q
    .show .inr #[k,B,e,jV.sameBut ai ?_];rintro rfl;show t<|Gd fM f<|I.ok.inj _ _ _ e hc▸ak
  .by_cases An:B=c
   .subst An;show#[_,Am]
   .let#[f7,cc]:=I.cell y B e;show#[f7,cc.sameBut ai An]
  .let#[e,n,D,L,d]:=I.pin p aC;show#[(ai.2 p.1 ?_).trans e,n,D,L,d];intro q;rw[q,Rh]at e;let c8:sd=p.2:=iX e;show d C (by rw[<-c8];show Zi)
def CZ(I:aN X ah σ H s)(a:X.N.Nodup)(ak:X.N[i]?=Y x)(d:Loc X.env.scope x)(r:dq v u)
  (h:∀s',aN X ah (σ.set i<|Y v) H s'->Q () s') (b:X.fn x=O\/X.env.scope.names.lookup x=Y .local:=by first|show .inl Z|show .inr Z|assumption):bP M A (storeName X.env x u) Q E s:=
 Rg I a ak d r (λs' c q=>h s' c) b
def aN.yx(I:aN X ah σ H s)(f:s'.os=s.os)(u:ia (eT X.stack) ch H ab s.heap s'.heap)(d:f8 X.prog X.w ab s'.heap)(a:s9 s'.gens)
  (e:∀b∈ch,(b∈X.ex\/X.eb.heap.objs.size<=b)/\b≠X.env.locals/\(∀x c,X.env.cells.lookup x=Y c->c≠b)/\∀p∈X.f6++ah,p.1≠b):aN X ah σ ab s':=by
 let#[h',h9,kN,t',g]:=s'
 subst f
 show I.call (h9:=h9) (t':=t') (kN:=kN) u d a e
end
abbrev dG:=aB->Option ao->aw->Prop
abbrev St:=List<|Option V
abbrev ck:=V->aw->Prop
abbrev TE:=St->aw->ck->Prop
abbrev TT:=St->aw->(Bool->aw->Prop)->Prop
abbrev j2:=St->aw->(List V->aw->Prop)->Prop
structure nt where
 cM:St->aw->Prop
 n9:ck
 kn:St->aw->Prop:=λq q=>False
 fI:St->aw->Prop:=λq q=>False
abbrev hu:=nt->St->aw->Prop
inductive lK(X:b9)(ah:List (ao×Obj))(σ:St)(Q:ck)(u:aB)(s':bl):Prop
 |mk (v ab) (_:aN X ah σ ab s') (_:dq v u) (_:Q v ab):lK X ah σ Q u s'
inductive C0(X:b9)(ah:List (ao×Obj))(σ:St)(Q:Bool->aw->Prop)(b:Bool)(s':bl):Prop
 |mk (ab) (_:aN X ah σ ab s') (_:Q b ab):C0 X ah σ Q b s'
inductive Ri(X:b9)(ah:List (ao×Obj))(σ:St)(Q:List V->aw->Prop)(us:List aB)(s':bl):Prop
 |mk (ac ab) (_:aN X ah σ ab s') (_:dA ac us) (_:Q ac ab):Ri X ah σ Q us s'
def yy(X:b9)(ah:List (ao×Obj))(D:nt)(f:Flow)(s':bl):Prop:=
 match f with
 |.next=>∃b a,aN X ah b a s'/\D.cM b a
 |.brk=>∃b a,aN X ah b a s'/\D.kn b a
 |.cont=>∃b a,aN X ah b a s'/\D.fI b a
 |.ret u=>∃v b a,aN X ah b a s'/\dq v u/\D.n9 v a
def bS(X:b9)(e:Expr)(t:TE):Prop:=
 ∀(b:List (ao×Obj)) (s:bl) (a:St) (H:aw) (Q:ck),aN X b a H s->t a H Q->bP (bJ X.prog X.w) X.A (eval e X.env) (lK X b a Q) X.er s
def lg(X:b9)(e:Expr)(t:TT):Prop:=
 ∀(b:List (ao×Obj)) (s:bl) (a:St) (H:aw) (Q:Bool->aw->Prop),aN X b a H s->t a H Q->bP (bJ X.prog X.w) X.A (xO e X.env<|eval e X.env) (C0 X b a Q) X.er s
def me(X:b9)(e:Expr)(t:TT):Prop:=
 ∀(a:Sem aB) (c:List (ao×Obj)) (s:bl) (b:St) (H:aw) (Q:Bool->aw->Prop),aN X c b H s->t b H Q->bP (bJ X.prog X.w) X.A (xO e X.env a) (C0 X c b Q) X.er s
def me.pt(h:me X e t):lg X e t:=h _
def mf(X:b9)(es:List Expr)(t:j2):Prop:=
 ∀(a:Pos) (c:List (ao×Obj)) (s:bl) (b:St) (H:aw) (Q:List V->aw->Prop),aN X c b H s->t b H Q->bP (bJ X.prog X.w) X.A (spliced<|jN a<|eN es X.env) (Ri X c b Q) X.er s
def kp(X:b9)(st:Stmt)(t:hu):Prop:=
 ∀(a:List (ao×Obj)) (s:bl) (b:St) (H:aw) (D:nt),aN X a b H s->t D b H->bP (bJ X.prog X.w) X.A (exec st X.env) (yy X a D) X.er s
def lh(X:b9)(st:List Stmt)(t:hu):Prop:=
 ∀(a:List (ao×Obj)) (s:bl) (b:St) (H:aw) (D:nt),aN X a b H s->t D b H->bP (bJ X.prog X.w) X.A (execs st X.env) (yy X a D) X.er s
def ct(h:bP M A t Q E s)(b:∀a s,Q a s->uT a s):bP M A t uT E s:=nR h b λq q x=>x
section
variable {X:b9}
def bin(i:bS X a dc)(ae:bS X b dv){R:V->V->aw->Prop}(I:aN X ah σ H s)(h:dc σ H λx H1=>dv σ H1 λy c=>R x y c)
  {α:Type}{Q:α->bl->Prop}{f:aB->aB->Sem α}
  (e:∀v u d x y c,aN X ah σ c d->dq x v->dq y u->R x y c->bP (bJ X.prog X.w) X.A (f v u) Q X.er d):
  bP (bJ X.prog X.w) X.A (eval a X.env) (λv o=>bP (bJ X.prog X.w) X.A (eval b X.env) (λu n=>bP (bJ X.prog X.w) X.A (f v u) Q X.er n) X.er o) X.er s:=by
 show ct (i ah s σ H _ I h) λv j z=>?_;let#[x,H1,q,k,m]:=z
 show ct (ae ah j σ H1 _ q m) λu d z=>?_;let#[y,c,l,p,g]:=z
 show e v u d x y c l k p g
inductive Rj(σ:St)(i:Nat)(Q:ck)(H:aw):Prop
 |mk (v) (_:σ[i]?=Y (Y v)) (_:Q v H):Rj σ i Q H
def hM(i:Nat):TE:=λa H Q=>Rj a i Q H
def rl(v:V):TE:=λq H Q=>Q v H
def Rk(g:X.N[i]?=Y x)(q:CX X.env.scope x)(b:(x==("__debug__":Str))=false:=by decide)(k:(x==("__classdict__":Str))=false:=by decide):bS X (.Name x pos) (hM i):=by
 intro n s o H Q I h;let#[v,e,h]:=h;let#[m,p,j]:=I.loc;let#[u,r,l]:=j i x v g e q;let a:lK X n o Q u s:=#[v,H,I,r,h];obtain⟨aD,hm⟩|⟨aD,c,f,d⟩:=l
 .show IG (Ot I.ok.kind aD p hm a) b
 .obtain aD|aD:=aD
  .show IG (Ow I.ok.kind aD f d a) b
  .show IG (wpAny_loadName_free I.ok.kind aD f d a k) b
def cE:bS X (.Constant (.int i) j pos) (rl<|.int i):=λq q q H q I h=>wpAny_Constant_int #[.int i,H,I.tok _,#[9],h]
def oS:bS X (.Constant (.bool b) j pos) (rl<|.cC b):=λq q q H q I h=>Constant_bool #[.cC b,H,I,Z,h]
def lL:bS X (.Constant .none j pos) (rl .bB):=λq q q H q I h=>Constant_none #[.bB,H,I,Z,h]
def fc:bS X (.Constant (.str x) j pos) (rl<|.str x):=λq q q H q I h=>Calls.Constant_str #[.str x,H,I.tok _,#[9],h]
def pJ(X:b9)(x:Str):Prop:=X.env.kindOf x=Y .globalImplicit
def Kp(I:aN X ah σ H s)(b:pJ X x)(hm:X.aL x=Y u)(h:Q u s)
  (a:(x==("__debug__":Str))=false:=by decide):bP (bJ X.prog X.w) X.A (eval (.Name x pos) X.env) Q E s:=
 Pw I.ok.kind b (Calls.loadGlobal_global (by rw[I.ok.sh];show I.mod.sh.keeps I.kn) hm h) a
def Ao(I:aN X ah σ H s)(b:pJ X x)(hm:X.aL x=U)(e:oA x=Y u)(h:Q u s)
  (c:x≠"__name__":=by decide) (a:(x==("__debug__":Str))=false:=by decide):bP (bJ X.prog X.w) X.A (eval (.Name x pos) X.env) Q E s:=by
 let#[g,d,f]:=I.mod.lJ
 show Pw I.ok.kind b (Calls.loadGlobal_builtin (by rw[I.ok.sh];show I.mod.sh.keeps I.kn) hm (by rw[I.ok.lJ];show d.keeps I.kn) ((f x c).trans e) h) a
variable {a b:Expr}{dc dv:TE}{pos:Pos}
def Gh(X:b9)(f:CmpOp)(a b:Expr)(t:TE):Prop:=
 ∀(d:List (ao×Obj)) (s:bl) (c:St) (H:aw) (Q:ck),aN X d c H s->t c H Q->
  bP (bJ X.prog X.w) X.A (eval a X.env) (λv e=>bP (bJ X.prog X.w) X.A (eval b X.env) (λu g=>bP (bJ X.prog X.w) X.A (lY f v u) (lK X d c Q) X.er g) X.er e) X.er s
def Zj(b:Expr)(h:e≠.In)(d:e≠.NotIn):vC e b=false:=by
 let a:(e==CmpOp.In)=false:=by cases e<;>first|rfl|show a8 Z h
 let c:(e==CmpOp.NotIn)=false:=by cases e<;>first|rfl|show a8 Z d
 cases b<;>simp[vC,a,c]
inductive Rl(Q:Bool->aw->Prop)(x:V)(H1:aw):Prop
 |mk (c) (_:x=.cC c) (_:Q c H1):Rl Q x H1
def Zk(t:TE):TT:=λa H Q=>t a H λx H1=>Rl Q x H1
def wA(h:Gh X op a b t)(h1:vC op b=false:=by first|show Zj _ cn cn|rfl):lg X (.Compare a [op] [b] pos) (Zk t):=by intro g s k H Q I e;show Op (ct (h g s k H _ I e) λv m h1=>ct h1 λu o i=>ct i λc n w=>?_) h1;let#[x,H1,l,f,j]:=w;let#[d,rfl,q]:=j;cases f;show zx #[H1,l,q]
variable {rm Gi:TT}{aT:List Expr}
def Zl(t u:TT):TT:=λa H Q=>t a H λc H1=>if c=O then u a H1 Q else Q J H1
def Zm(t u:TT):TT:=λa H Q=>t a H λc H1=>if c=O then Q O H1 else u a H1 Q
def Zn(t:TT):TT:=λa H Q=>t a H λc H1=>Q (!c) H1
def C1(b:lg X a rm):me X (.BoolOp .And [a] pos) rm:=by
 intro g d s f H Q I h
 show isTrue_and<|ct (b d s f H Q I h) λc i e=>?_
 cases c with
 |true=>show isTrue_and_nil e
 |false=>show e
def Ap(b:lg X a rm):me X (.BoolOp .Or [a] pos) rm:=by
 intro g d s f H Q I h
 show isTrue_or<|ct (b d s f H Q I h) λc i e=>?_
 cases c with
 |false=>show isTrue_or_nil e
 |true=>show e
def Aq(i:lg X a rm)(ae:me X (.BoolOp .And (b::aT) pos) Gi):me X (.BoolOp .And (a::b::aT) pos) (Zl rm Gi):=by
 intro k d s e H Q I h
 show isTrue_and<|ct (i d s e H _ I h) λc j q=>?_;let#[H1,g,f]:=q
 cases c with
 |true=>show ae k d j e H1 Q g f
 |false=>show#[H1,g,f]
def Ar(i:lg X a rm)(ae:me X (.BoolOp .Or (b::aT) pos) Gi):me X (.BoolOp .Or (a::b::aT) pos) (Zm rm Gi):=by
 intro k d s e H Q I h
 show isTrue_or<|ct (i d s e H _ I h) λc j q=>?_;let#[H1,g,f]:=q
 cases c with
 |true=>show#[H1,g,f]
 |false=>show ae k d j e H1 Q g f
def qq(d:lg X a rm):lg X (.UnaryOp .Not a pos) (Zn rm):=by intro e s f H Q I h;show isTrue_not<|ct (d e s f H (λc H1=>Q (!c) H1) I h) λ_ _ #[a,b,c]=>#[a,b,c]
def Zo(t:TT)(dc dv:TE):TE:=λa H Q=>t a H λc H1=>if c=O then dc a H1 Q else dv a H1 Q
def oT(l:lg X c rm)(k:bS X a dc)(ae:bS X b dv):bS X (.IfExp c a b pos) (Zo rm dc dv):=by
 intro e s f H Q I h
 show wpAny_IfExp<|ct (l e s f H _ I h) λd i q=>?_;let#[H1,g,j]:=q
 cases d with
 |true=>show k e i f H1 Q g j
 |false=>show ae e i f H1 Q g j
end
def bM(K:b2)(H:aw)(a:ao)(xs:List V):Prop:=
 qm H a (.bq xs)\/
  ∃(o:Obj) (b:Array aB) (n:Nat),K.lookup a=Y o/\o.cls=.type "list"/\o.dict=U/\o.data=.seq b n/\b.size<=sizeLine/\dA xs b.toList
def gb(K:b2)(H:aw)(a:ao)(xs:List V):Prop:=
 qm H a (.cu xs)\/
  ∃(o:Obj) (b:Array aB) (n:Nat),K.lookup a=Y o/\o.cls=.type "tuple"/\o.data=.seq b n/\b.size<=sizeLine/\dA xs b.toList
noncomputable def uU:aB->Option V
 |.none=>Y .bB
 |.bool b=>Y<|.cC b
 |.int i _=>Y<|.int i
 |.str x _=>Y<|.str x
 |.bytes b _=>Y<|.hr b
 |.float b _=>Y<|.yo b
 |.ref a=>Y<|.ref a
 |.type n=>Y<|.ty n
 |_=>U
def dq.abs(r:dq x u):uU u=Y x:=by
 cases x with
 |bB=>cases r;rfl
 |cC _=>cases r;rfl
 |int _=>let#[t,rfl]:=r;rfl
 |str _=>let#[t,rfl]:=r;rfl
 |hr _=>let#[t,rfl]:=r;rfl
 |yo _=>let#[t,rfl]:=r;rfl
 |ref _=>cases r;rfl
 |ty _=>cases r;rfl
def dq.inj(r:dq x u)(q:dq y u):x=y:=iX<|r.abs.symm.trans q.abs
theorem dA.inj:∀{xs ys:List V}{us:List aB},dA xs us->dA ys us->xs=ys:=by
 intro xs ys us h k
 induction h generalizing ys with
 |nil=>cases k;rfl
 |cons r _ a=>cases k with
  |cons q w=>rw[r.inj q,a w]
section
variable {X:b9}{ah:List (ao×Obj)}{σ:St}{H:aw}{s:bl}{a:ao}{xs ys:List V}
def bM.of{K:b2}(h:H a=Y (.bq xs)):bM K H a xs:=.inl<|.inl h
def gb.of{K:b2}(h:H a=Y (.cu xs)):gb K H a xs:=.inl<|.inl h
def aN.list(I:aN X ah σ H s)(h:bM X.K H a xs):∃b:List aB,dA xs b/\PlainL s.heap a b.toArray/\xs.length<=sizeLine:=by
 obtain h|⟨o,b,n,d,f,c,ai,g,r⟩:=h
 .let#[z,b,n,r,e]:=h.ok I.bL;show#[b,r,#[_,n,e,Z,Z,Z],z]
 .show#[b.toList,r,#[o,n,I.fS a o d,f,c,by simpa using ai],?_];let e:=r.length;simp only[zQ]at e;lia
def aN.tuple(I:aN X ah σ H s)(h:gb X.K H a xs):∃b:List aB,dA xs b/\IsTup s.heap a b.toArray/\xs.length<=sizeLine:=by
 obtain h|⟨o,b,n,c,d,ai,f,r⟩:=h
 .let#[z,b,r,p]:=h.ok I.bL;show#[b,r,p,z]
 .show#[b.toList,r,#[o,I.fS a o c,d,n,by simpa using ai],?_];let e:=r.length;simp only[zQ]at e;lia
def aN.Gj(I:aN X ah σ H s)(h:bM X.K H a xs)(h':bM X.K H a ys):xs=ys:=by
 let#[f,r,#[o,n,e,q,q,d],q]:=I.list h;let#[sk,i,#[k,j,b,q,q,c],q]:=I.list h';rw[e]at b;cases b;rw[d]at c;injection c with g _
 have:f=sk:=by simpa using congrArg Jv g
 subst this;show r.inj i
def aN.Zp(I:aN X ah σ H s)(h:gb X.K H a xs)(h':gb X.K H a ys):xs=ys:=by
 let#[f,r,#[o,e,q,n,d],q]:=I.tuple h;let#[sk,i,#[k,b,q,j,c],q]:=I.tuple h';rw[e]at b;cases b;rw[d]at c;injection c with g _
 have:f=sk:=by simpa using congrArg Jv g
 subst this;show r.inj i
end
abbrev b9.gN(X:b9)(E:aB->bl->Prop):b9:={X with er:=E}
abbrev b9.wB(X:b9):b9:=X.gN λq q=>False
theorem b9.Ok.gN{X:b9}(ok:X.Ok)(E:aB->bl->Prop):(X.gN E).Ok:=
 #[ok.mod,ok.kind,ok.sh,ok.lJ,ok.above,ok.inj,ok.has,ok.yt,ok.hd,ok.frames,ok.jU,ok.Ak,ok.bs,ok.qo,ok.yu,ok.yv,ok.oQ,ok.tp]
def b9.Ok.tq{X:b9}{E:aB->bl->Prop}(ok:(X.gN E).Ok):X.Ok:=
 #[ok.mod,ok.kind,ok.sh,ok.lJ,ok.above,ok.inj,ok.has,ok.yt,ok.hd,ok.frames,ok.jU,ok.Ak,ok.bs,ok.qo,ok.yu,ok.yv,ok.oQ,ok.tp]
section
variable {X:b9}{ah:List (ao×Obj)}{σ:St}{H:aw}{s:bl}{E:aB->bl->Prop}
theorem aN.gN(I:aN X ah σ H s)(E:aB->bl->Prop):aN (X.gN E) ah σ H s:=#[I.ok.gN E,I.os,I.f9,I.base,I.loc,I.cell,I.free,I.mS,I.pin,I.bL,I.len]
theorem aN.tq(I:aN (X.gN E) ah σ H s):aN X ah σ H s:=#[I.ok.tq,I.os,I.f9,I.base,I.loc,I.cell,I.free,I.mS,I.pin,I.bL,I.len]
theorem yy.tq{D:nt}{f:Flow}{s':bl}(h:yy (X.gN E) ah D f s'):yy X ah D f s':=by
 cases f with
 |next=>let#[a,b,I,q]:=h;show#[a,b,I.tq,q]
 |brk=>let#[a,b,I,q]:=h;show#[a,b,I.tq,q]
 |cont=>let#[a,b,I,q]:=h;show#[a,b,I.tq,q]
 |ret u=>let#[v,a,b,I,r,q]:=h;show#[v,a,b,I.tq,r,q]
theorem bS.wB(h:bS X.wB e t):bS X e t:=λah s σ H Q I a=>
 nR (h ah s σ H Q (I.gN _) a) (λ_ _ y=>by let#[v,c,b,r,q]:=y;show#[v,c,b.tq,r,q]) λw w z=>gY z
theorem lg.wB(h:lg X.wB e t):lg X e t:=λah s σ H Q I a=>
 nR (h ah s σ H Q (I.gN _) a) (λ_ _ v=>by let#[c,b,q]:=v;show#[c,b.tq,q]) λw w z=>gY z
theorem lh.wB{st:List Stmt}{t:hu}(h:lh X.wB st t):lh X st t:=λah s σ H D I a=>
 nR (h ah s σ H D (I.gN _) a) (λw w q=>q.tq) λw w z=>gY z
end
section
variable {X:b9}{st:Stmt}{aT:List Stmt}{t u:hu}{e:Expr}{eF:TE}{pos:Pos}
def Kq:hu:=λD a H=>D.cM a H
def Gk(t u:hu):hu:=λD a H=>t {D with cM:=u D} a H
def eP:lh X [] Kq:=λq q a H q I h=>BH #[a,H,I,h]
def aU(h1:kp X st t)(d:lh X aT u):lh X (st::aT) (Gk t u):=by
 intro a s c H D I h
 show wpAny_execs_cons<|ct (h1 a s c H {D with cM:=u D} I h) λf b q=>?_
 cases f with
 |next=>let#[g,i,e,q]:=q;show d a b g i D e q
 |ret v=>show q
 |brk=>show q
 |cont=>show q
def aP(h1:kp X st t):lh X [st] t:=by
 intro a s b H D I h
 show wpAny_execs_cons<|ct (h1 a s b H D I h) λf c q=>?_
 cases f with
 |next=>show BH q
 |ret v=>show q
 |brk=>show q
 |cont=>show q
def Kr:kp X (.Pass pos) Kq:=λq q a H q I h=>wpAny_Pass #[a,H,I,h]
def aN.quiet(I:aN X ah σ H s):interactive X.env=false:=by simp[interactive,I.ok.kind]
def Ks(eF:TE):hu:=λD a H=>eF a H λq H1=>D.cM a H1
def cU(b:bS X e eF)(ai:rU e U pos.line X.env=pure false:=by rfl):kp X (.Expr e pos) (Ks eF):=by intro d s a H D I h;show wpAny_Expr_any (ct (b d s a H _ I h) λv g q=>by let#[x,H1,c,i,f]:=q;show#[a,H1,c,f]) I.quiet ai
def Rm(eF:TE):hu:=λD a H=>eF a H D.n9
def cS(b:bS X e eF):kp X (.Return (Y e) pos) (Rm eF):=by intro d s a H D I h;show wpAny_Return_some<|ct (b d s a H _ I h) λv i #[x,H1,c,f,g]=>#[x,a,H1,c,f,g]
def Zq:hu:=λD q H=>D.n9 .bB H
def Kt:kp X (.Return U pos) Zq:=λq q a H q I h=>wpAny_Return_none #[.bB,a,H,I,Z,h]
def Zr(c:TT)(t u:hu):hu:=λD a H=>c a H λb H1=>if b=O then t D a H1 else u D a H1
def ed(l:lg X c k7)(k:lh X a t)(ae:lh X b u):kp X (.If c a b pos) (Zr k7 t u):=by
 intro e s f H D I h
 show wpAny_If<|ct (l e s f H _ I h) λd i q=>?_;let#[H1,g,j]:=q
 cases d with
 |true=>show k e i f H1 D g j
 |false=>show ae e i f H1 D g j
end
abbrev mU:=V->St->aw->(St->aw->Prop)->Prop
abbrev yz:=List V->St->aw->(St->aw->Prop)->Prop
def wC(X:b9)(a:Expr)(t:mU):Prop:=
 ∀(c:List (ao×Obj)) (s:bl) (d:St) (H:aw) (v:V) (u:aB) (Q:St->aw->Prop),aN X c d H s->dq v u->t v d H Q->
  bP (bJ X.prog X.w) X.A (BP a X.env u) (λq f=>∃b e,aN X c b e f/\Q b e) X.er s
def Gl(X:b9)(ts:List Expr)(t:yz):Prop:=
 ∀(c:List (ao×Obj)) (s:bl) (d:St) (H:aw) (ac:List V) (a:List aB) (Q:St->aw->Prop),aN X c d H s->dA ac a->t ac d H Q->
  bP (bJ X.prog X.w) X.A (assignInOrder ((BL ts X.env).map (·.2)) a) (λq f=>∃b e,aN X c b e f/\Q b e) X.er s
abbrev Ku:=V->V->aw->ck->Prop
def Rn(X:b9)(c:Operator)(t:Ku):Prop:=
 ∀(a:List (ao×Obj)) (s:bl) (b:St) (H:aw) (x y:V) (v u:aB) (Q:ck),aN X a b H s->dq x v->dq y u->t x y H Q->
  bP (bJ X.prog X.w) X.A (inplaceOp c v u) (lK X a b Q) X.er s
section
variable {X:b9}{pos:Pos}
def sl(i:Nat):mU:=λv a H Q=>Q (a.set i<|Y v) H
def C3(a:X.N.Nodup)(ak:X.N[i]?=Y x)(d:Loc X.env.scope x)(b:X.fn x=O\/X.env.scope.names.lookup x=Y .local:=by first|show .inl Z|show .inr Z|assumption):wC X (.Name x pos) (sl i):=by intro f s g H v u Q I r h;show wpAny_assign_Name<|CZ I a ak d r (λe c=>#[_,H,c,h]) b
def Zs:yz:=λac a H Q=>ac=[]/\Q a H
inductive Ro(t:mU)(u:yz)(ac:List V)(σ:St)(H:aw)(Q:St->aw->Prop):Prop
 |mk (v) (r) (_:ac=v::r) (_:t v σ H λcr ab=>u r cr ab Q):Ro t u ac σ H Q
def Zt(t:mU)(u:yz):yz:=λac a H Q=>Ro t u ac a H Q
def Rp:Gl X [] Zs:=by intro c s a H ac b Q I r h;let#[e,h]:=h;subst e;cases r;show assignInOrder_nil #[a,H,I,h]
def Gm(h1:wC X e t)(g:Gl X es u)
  (ai:(BL (e::es) X.env).map (·.2)=BP e X.env::(BL es X.env).map (·.2):=by rfl):Gl X (e::es) (Zt t u):=by
 intro a s j H ac m Q I r h
 let#[v,c,k,h]:=h
 subst k
 cases r with
 |cons r f=>rw[ai];show assignInOrder_cons<|ct (h1 a s j H _ _ _ I r h) λ_ d #[b,H1,l,i]=>?_;show g a d b H1 _ _ Q l f i
inductive Rq(K:b2)(n:Nat)(t:yz)(v:V)(σ:St)(H:aw)(Q:St->aw->Prop):Prop
 |mk (a) (xs) (_:v=.ref a) (_:gb K H a xs) (_:xs.length=n) (_:t xs σ H Q):Rq K n t v σ H Q
def Zu(K:b2)(n:Nat)(t:yz):mU:=λv a H Q=>Rq K n t v a H Q
def Rr(y:X.tn=O)(h:Gl X es t)
  (x:(BL es X.env).length=n:=by rfl) (q:(BL es X.env).findIdx? (·.1)=none:=by rfl):wC X (.Tuple es k pos) (Zu X.K n t):=by
 intro f s g H v u Q I r c
 let#[a,xs,i,p,m,c]:=c
 subst i
 cases r
 let#[A,d,l,B]:=I.tuple p
 show assign_Tuple_tuple (I.ok.hd y) l (by simp[x,<-m,d.length]) q λj z=>?_
 let w:aN X f g H {s with heap:=j}:=I.kept (t':=s.toks) λb o e=>z b o (eg<|dF e) e
 show h f _ g H xs _ Q w (by simpa using d) c
def Gn(eF:TE)(g:mU):hu:=λD a H=>eF a H λx H1=>g x a H1 D.cM
def Zv(a:X.N.Nodup)(ak:X.N[i]?=Y x)(m:Loc X.env.scope x)(k:bS X e eF)(ai:rU e (Y<|.Name x kq) pos.line X.env=pure false:=by rfl)(b:X.fn x=O\/X.env.scope.names.lookup x=Y .local:=by first|show .inl Z|show .inr Z|assumption):
  kp X (.Assign [.Name x kq] e pos) (Gn eF<|sl i):=by
 intro f s g H D I h
 show wpAny_Assign_Name (ct (k f s g H _ I h) λv n q=>?_) ai;let#[y,H1,l,d,j]:=q
 show CZ l a ak m d (λo c=>#[_,H1,c,j]) b
def Zw(i:Nat)(eF:TE)(c:Ku):hu:=λD a H=>∃x,a[i]?=Y (Y x)/\eF a H λy H1=>c x y H1 λz b=>D.cM (a.set i<|Y z) b
def Kv(f:X.N.Nodup)(ak:X.N[i]?=Y x)(b:Loc X.env.scope x)(Q:bS X e eF)(K:Rn X op nq)(E:X.fn x=O\/X.env.scope.names.lookup x=Y .local:=by first|show .inl Z|show .inr Z|assumption):
  kp X (.AugAssign (.Name x kq) op e pos) (Zw i eF nq):=by
 intro a s d H D I h
 let#[v,t,h]:=h
 let#[m,S,G]:=I.loc
 let kJ:CX X.env.scope x:=by obtain k|k:=b;show .inl k;show .inr<|.inl k
 let#[u,r,l]:=G i x v ak t kJ
 show wpAny_AugAssign_Name ?_
 let go:bP (bJ X.prog X.w) X.A (eval e X.env) (λw q=>bP (bJ X.prog X.w) X.A (inplaceOp op u w) (λr o=>bP (bJ X.prog X.w) X.A (storeName X.env x r) (λ_=>yy X a D .next) X.er o) X.er q) X.er s:=by show ct (Q a s d H _ I h) λw L h0=>?_;let#[y,H1,R,P,p]:=h0;show ct (K a L d H1 v y u w _ R r P p) λz V h0=>?_;let#[F,M,n,B,g]:=h0;show CZ n f ak b B (λW C=>#[_,M,C,g]) E
 obtain⟨aD,hm⟩|⟨aD,c,T,j⟩:=l
 .show Ot I.ok.kind aD S hm go
 .obtain aD|aD:=aD
  .show Ow I.ok.kind aD T j go
  .obtain k|k:=b
   .have:X.env.scope.names.lookup x=Y .free:=aD;rw[k]at this;cases this
   .have:X.env.scope.names.lookup x=Y .free:=aD;rw[k]at this;cases this
def Zx(f:Int->Int->Int):Ku:=λx y H Q=>∃i j,x=.int i/\y=.int j/\Q (.int<|f i j) H
def Kw:Rn X .Add (Zx λi j=>i+j):=by intro f s g H x y v u Q I b d h;let#[i,j,c,a,q]:=h;subst c;subst a;let#[t,rfl]:=b;let#[e,rfl]:=d;show PQ #[.int _,H,I.tok _,#[9],q]
end
section
variable {X:b9}{pos:Pos}
def Zy(c:TT)(dv:hu):hu:=λD a H=>∃W:Nat->St->aw->Prop,(∃m,W m a H)/\∀m a H,W m a H->
 c a H λb H1=>if b=O then ∃N:St->aw->Prop,(∀d e,N d e->∃f,f<m/\W f d e)/\dv {D with cM:=N,fI:=N,kn:=D.cM} a H1 else D.cM a H1
def pL(aC:EJ (bJ X.prog X.w) X.A X.env X.er)(K:lg X c k7)(ae:lh X body dv):kp X (.While c body [] pos) (Zy k7 dv):=by
 intro o s F H D I h
 let#[W,#[m0,z],e]:=h
 show wpAny_While<|codeAny_whileLoop (λn y=>∃t u,aN X o t u y/\W n t u) ?_ m0 #[F,H,I,z]
 rintro n C ⟨i,H1,G,E⟩
 show xI aC<|ct (K o C i H1 _ G<|e n i H1 E) λb B V=>?_;let#[x,r,g]:=V
 cases b with
 |true=>
  let#[N,q,g]:=g
  rw[aR Z]
  show xI aC<|ct (ae o B i x _ r g) λf L j=>?_
  cases f with
  |next=>let#[a,d,l,p]:=j;let#[m,hm,k]:=q a d p;show#[m,hm,a,d,l,k]
  |cont=>let#[a,d,l,p]:=j;let#[m,hm,k]:=q a d p;show#[m,hm,a,d,l,k]
  |brk=>show j
  |ret v=>show j
 |false=>show(aM jv)▸(BH #[i,x,r,g])
end
structure rn where
 go:Nat->aw->Prop
 tr:Nat->aw->V->aw->Prop
 stop:Nat->aw->Prop
def qr(X:b9)(ah:List (ao×Obj))(H:aw)(b:ao):Prop:=
 H b=U/\b≠X.env.locals/\b∉X.bb/\(b∈X.ex\/X.eb.heap.objs.size<=b)/\(∀x c,X.env.cells.lookup x=Y c->c≠b)/\∀p∈X.f6++ah,p.1≠b
def aN.C4(I:aN X ah σ H s)(ae:s.heap.objs.size<=b)(a:ab b=U):qr X ah ab b:=by
 show#[a,lZ<|eR I.lt ae,I.Gb ae,.inr<|dK I.jh ae,λx c e z=>?_,λp aC z=>?_]
 .let#[v,q]:=I.cell x c e;show a8 (eR q.lt (by rw[z];show ae))<|m8 _
 .show a8 (eR (dF (I.pin p aC).1) (by rw[z];show ae))<|m8 _
structure wF(P:eZ)(w:dM)(K:b2)(fe:Expr)(J:rn)(dH:List ao)(it:ao)(hv:Nat->df->Prop):Prop where
 mem:it∈dH
 obj:∀i h,hv i h->∀b∈dH,∃o,h.get? b=Y o/\∀v,o.data≠.cell v
 keep:∀i h h',hv i h->(∀b∈dH,∀o,h.get? b=Y o->h'.get? b=Y o)->hv i h'
 item:∀(X:b9),X.prog=P->X.w=w->X.K=K->X.tn=O->∀(i:Nat) (ah:List (ao×Obj)) (s:bl) (σ:St) (H:aw) (E:aB->bl->Prop),aN X ah σ H s->(∀b∈dH,qr X ah H b)->hv i s.heap->J.go i H->
  bP (bJ P w) X.A (vH<|.ref it) (λr s1=>∃u,r=Y u/\
   bP (bJ P w) X.A (IB fe (.ref it) u) (λq s2=>∃x ab,aN X ah σ ab s2/\dq x u/\J.tr i H x ab/\hv (i+1) s2.heap/\∀b∈dH,ab b=U) E s1) E s
 done:∀(X:b9),X.prog=P->X.w=w->X.K=K->X.tn=O->∀(i:Nat) (ah:List (ao×Obj)) (s:bl) (σ:St) (H:aw) (E:aB->bl->Prop),aN X ah σ H s->(∀b∈dH,qr X ah H b)->hv i s.heap->J.stop i H->
  bP (bJ P w) X.A (vH<|.ref it) (λr s1=>r=U/\aN X ah σ H s1) E s
 self:∀(A:e0) (i:Nat) (s:bl) (Q:aB->bl->Prop) (E:aB->bl->Prop),hv i s.heap->Q (.ref it) s->bP (bJ P w) A (pyIter<|.ref it) Q E s
abbrev TI:=St->aw->(rn->aw->Prop)->Prop
inductive Kx(X:b9)(ah:List (ao×Obj))(σ:St)(fe:Expr)(R:rn->aw->Prop)(Gp:aB)(s2:bl):Prop
 |mk (it:ao) (dH:List ao) (hv:Nat->df->Prop) (J:rn) (ab:aw) (_:Gp=.ref it) (_:aN X ah σ ab s2) (_:wF X.prog X.w X.K fe J dH it hv) (_:hv 0 s2.heap) (_:(∀b∈dH,qr X ah ab b)) (_:R J ab):Kx X ah σ fe R Gp s2
def tu(X:b9)(d iter:Expr)(c:TI):Prop:=
 ∀(b:List (ao×Obj)) (s:bl) (a:St) (H:aw) (R:rn->aw->Prop),aN X b a H s->c a H R->
  bP (bJ X.prog X.w) X.A (eval iter X.env) (λv e=>bP (bJ X.prog X.w) X.A (pyIter v) (Kx X b a d R) X.er e) X.er s
def C5(d:s.heap.get? it=Y o)(c:o.cls=.type n)(b:o.data=.fields ac)
  (f:["enumerate","zip","dict_itemiterator","dict_reverseitemiterator","odict_iterator","itertools.zip_longest","itertools.pairwise"].contains n=J) (a:Q () s):bP M A (IB e (.ref it) u) Q E s:=by
 cases e<;>first
  |show c0 a
  |(cases u<;>first
    |show c0 a
    |(show aY (wpAny_load d ?_)
      rw[c,b]
      show bP M A (if (["enumerate","zip","dict_itemiterator","dict_reverseitemiterator","odict_iterator","itertools.zip_longest","itertools.pairwise"].contains n&&ac[0]?==Y (k1 _))=O then _ else _) Q E s
      rw[aM (by intro h;rw[f,Pf]at h;cases h)]
      show c0 a))
def wG(K:b2)(a:ao):rn:=
 #[λi H=>∃xs x,bM K H a xs/\xs[i]?=Y x,λi H x b=>b=H/\∀xs,bM K H a xs->xs[i]?=Y x,λi H=>∃xs,bM K H a xs/\xs.length<=i]
def C6(K:b2)(a:ao):rn:=
 #[λi H=>∃xs x,gb K H a xs/\xs[i]?=Y x,λi H x b=>b=H/\∀xs,gb K H a xs->xs[i]?=Y x,λi H=>∃xs,gb K H a xs/\xs.length<=i]
def Zz{P:eZ}{w:dM}{K:b2}{R:Expr}(a it:ao):wF P w K R (wG K a) [it] it (λi h=>h.IsListIter it a i) where
 mem:=by simp
 obj:=λi h st b ae=>by
  let e:b=it:=by simpa using ae
  subst e;let#[o,e,c,d]:=st;show#[o,e,λv z=>by rw[d]at z;cases z]
 keep:=λi h q st k=>st.at λo e=>k it bg o e
 item:=by intro X m A D M i G s L H E I f st j;subst m A D;let#[xs,x,g,C]:=j;let#[N,y,p,V]:=I.list g;let#[u,S,T]:=y.get C;let#[n,r,f2,t,B,l]:=f it bg;show wpAny_pyNext_list_item st p.isList (by simpa using S) λq F W=>?_;let aZ:aN X G L H {s with heap:=q}:=I.qp (t':=s.toks) (λb o ae e=>(W.2 b ae).trans e) n r t B l;let#[o,e,c,d]:=id F;show#[u,Z,C5 e c d cn #[x,H,aZ,T,#[Z,λys Q=>by rwa[I.Gj Q g]],F,λb ae=>(f b ae).1]]
 done:=by intro X m A D M i G s L H E I f st j;subst m A D;let#[xs,g,C]:=j;let#[N,y,p,V]:=I.list g;let#[n,r,f2,t,B,l]:=f it bg;let hl:=y.length;show wpAny_pyNext_list_end (I.ok.hd M) st p.isList (by simp;lia) λq fB=>#[Z,I.qp (t':=s.toks) (λb o ae e=>fB b o ae e) n r t B l]
 self:=λ_ _ _ _ _ st h=>wpAny_pyIter_listiter st h
def ZA{P:eZ}{w:dM}{K:b2}{R:Expr}(a it:ao):wF P w K R (C6 K a) [it] it (λi h=>h.IsTupleIter it a i) where
 mem:=by simp
 obj:=λi h st b ae=>by
  let e:b=it:=by simpa using ae
  subst e;let#[o,e,c,d]:=st;show#[o,e,λv z=>by rw[d]at z;cases z]
 keep:=λi h r st k=>st.at λo e=>k it bg o e
 item:=by intro X n B F N i L s M H E I f st l;subst n B F;let#[xs,x,g,D]:=l;let#[j,A,p,V]:=I.tuple g;let#[u,S,T]:=A.get D;let#[q,t,f2,y,C,m]:=f it bg;show wpAny_pyNext_tuple_item st (show s.heap.IsTuple a j.toArray from p) (by simpa using S) λr G W=>?_;let aZ:aN X L M H {s with heap:=r}:=I.qp (t':=s.toks) (λb o ae e=>(W.2 b ae).trans e) q t y C m;let#[o,e,c,d]:=id G;show#[u,Z,C5 e c d cn #[x,H,aZ,T,#[Z,λys Q=>by rwa[I.Zp Q g]],G,λb ae=>(f b ae).1]]
 done:=by intro X n B F N i L s M H E I f st l;subst n B F;let#[xs,g,D]:=l;let#[j,A,p,V]:=I.tuple g;let#[q,t,f2,y,C,m]:=f it bg;let hl:=A.length;show wpAny_pyNext_tuple_end (I.ok.hd N) st (show s.heap.IsTuple a j.toArray from p) (by simp;lia) λr fB=>#[Z,I.qp (t':=s.toks) (λb o ae e=>fB b o ae e) q t y C m]
 self:=λ_ _ _ _ _ st h=>wpAny_pyIter_tupleiter st h
section
variable {X:b9}{fe:Expr}
inductive Rt(K:b2)(R:rn->aw->Prop)(x:V)(H1:aw):Prop
 |mk (a) (_:x=.ref a) (_:(∃xs,bM K H1 a xs)) (_:R (wG K a) H1):Rt K R x H1
def ZB(K:b2)(ft:TE):TI:=λa H R=>ft a H λx H1=>Rt K R x H1
def ZC(K:b2)(ft:TE):TI:=λb H R=>ft b H λx H1=>∃a,x=.ref a/\(∃xs,gb K H1 a xs)/\R (C6 K a) H1
def uV{l:Expr}{ft:TE}(f:bS X l ft):tu X fe l (ZB X.K ft):=by
 intro j s k H R I h;show ct (f j s k H _ I h) λv c w=>?_;let#[x,H1,d,i,m]:=w;let#[a,e,#[xs,g],q]:=m;subst e;cases i;let#[n,t,p,r]:=d.list g;show wpAny_pyIter_list p.isList ?_;show#[c.heap.objs.size,[c.heap.objs.size],7,H1,Z,d.kept (t':=c.toks) λb o e=>fv _ e,Zz a _,#[_,jO _ Z,Z,Z],λb ae=>?_,q];let e:b=c.heap.objs.size:=by simpa using ae
 subst e;show d.C4 (bK _)<|d.bL.fresh<|bK _
def Ru{l:Expr}{ft:TE}(g:bS X l ft):tu X fe l (ZC X.K ft):=by
 intro k s m H R I h;show ct (g k s m H _ I h) λv c w=>?_;let#[x,H1,d,j,n]:=w;let#[a,e,#[xs,i],q]:=n;subst e;cases j;let#[f,t,p,r]:=d.tuple i;show wpAny_pyIter_tuple (show c.heap.IsTuple a f.toArray from p) ?_;show#[c.heap.objs.size,[c.heap.objs.size],7,H1,Z,d.kept (t':=c.toks) λb o e=>fv _ e,ZA a _,#[_,jO _ Z,Z,Z],λb ae=>?_,q];let e:b=c.heap.objs.size:=by simpa using ae
 subst e;show d.C4 (bK _)<|d.bL.fresh<|bK _
def ZD(h:TI)(g:mU)(dv:hu):hu:=λD a H=>h a H λo H1=>∃W:Nat->Nat->St->aw->Prop,(∃m,W 0 m a H1)/\∀i m a H,W i m a H->
 (o.stop i H/\D.cM a H)\/(o.go i H/\∃N:St->aw->Prop,(∀c b,N c b->∃d,d<m/\W (i+1) d c b)/\∀x b,o.tr i H x b->g x a b λe f=>dv {D with cM:=N,fI:=N,kn:=D.cM} e f)
def C7(a:List ao)(h:df):List (ao×Obj):=a.filterMap λb=>(h.get? b).map λo=>(b,o)
def Ky(ae:b∈dH)(e:h.get? b=Y o):(b,o)∈C7 dH h:=EZ.mpr #[b,ae,by rw[e];rfl]
def ZE(aC:p∈C7 dH h):p.1∈dH/\h.get? p.1=Y p.2:=by
 let#[b,ae,e]:=EZ.mp aC
 cases q:h.get? b with
 |none=>rw[q]at e;cases e
 |some o=>rw[q]at e;let a:=iX e;subst a;show#[ae,q]
def aN.pinned(I:aN X ah σ H s)(c:∀b∈g,qr X ah H b)(j:∀b∈g,∃o,s.heap.get? b=Y o/\∀v,o.data≠.cell v):aN X (ah++C7 g s.heap) σ H s:=
 I.Rf λp aC=>(iV.mp aC).elim (λz=>I.pin p<|q7 _ z) λz=>by let#[ae,e]:=ZE z;let#[f,i,h,q]:=c p.1 ae;let#[o,a,d]:=j p.1 ae;rw[e]at a;cases a;show#[e,f,i,h,d]
def aN.Gq(I:aN X (ah++pl) σ H s):aN X ah σ H s:=I.Rf λp aC=>I.pin p<|q7 _<|r2 _ aC
def qs(aC:EJ (bJ X.prog X.w) X.A X.env X.er)(V:X.tn=O)(ak:tu X fe iter kr)(cL:wC X fe g)(ae:lh X body dv)
  (ai:∀x,EB iter X.env x=pure x:=by intro _;rfl):kp X (.For fe iter body [] pos) (ZD kr g dv):=by
 intro l s P H D I h
 show wpAny_For (ct (ak l s P H _ I h) λv s1 h1=>ct h1 λGp s2 aj=>?_) ai
 let#[it,t,S,J,ay,e,cy,T,z5,Q,W,#[m0,sm],B]:=aj
 subst e
 let K:∀{ab:aw},(∀b∈t,ab b=U)->∀b∈t,qr X l ab b:=λaJ b ae=>#[aJ b ae,(Q b ae).2]
 show codeAny_forLoop_any (λn s'=>∃i z ab,aN X l z ab s'/\S i s'.heap/\(∀b∈t,ab b=U)/\W i n z ab) ?_ m0 #[0,P,ay,cy,z5,λb ae=>(Q b ae).1,sm]
 rintro n R ⟨i,q,C,M,Gr,Rv,iJ⟩
 obtain⟨p,ZF⟩|⟨go,N,fM,step⟩:=B i n q C iJ
 .show xI aC<|ct (T.done X Z Z Z V i l R q C X.er M (K Rv) Gr p) λr s4 #[F,nu]=>?_;subst F;show BH #[q,C,nu,ZF]
 .show xI aC (ct (T.item X Z Z Z V i l R q C X.er M (K Rv) Gr go) λr s4 h0=>?_);let#[u,F,fF]:=h0
  subst F
  show xI aC<|ct fF λ_ s5 h0=>?_;let#[x,L,ro,wi,ZG,G,ZH]:=h0
  let ZI:=ro.pinned (K ZH)<|T.obj _ _ G
  show xI aC<|ct (cL _ s5 q L x u _ ZI wi<|step x L ZG) λ_ pA h0=>?_;let#[yB,tv,wH,mV]:=h0
  show xI aC<|ct (ae _ pA yB tv _ wH mV) λf E k=>?_
  let again:∀{c:St}{a:aw},aN X (l++C7 t s5.heap) c a E->N c a->∃m,m<n/\∃i z ab,aN X l z ab E/\S i E.heap/\(∀b∈t,ab b=U)/\W i m z ab:=λ{c a} j y=>by let#[aO,hm,ZJ]:=fM c a y;show#[aO,hm,i+1,c,a,j.Gq,T.keep _ _ _ G λb ae o e=>(j.pin (b,o)<|q7 _<|q7 _<|Ky ae e).1,λb ae=>?_,ZJ];let#[o,e,d]:=T.obj _ _ G b ae;show(j.pin (b,o)<|q7 _<|q7 _<|Ky ae e).2.1
  cases f with
  |next=>let#[c,a,j,y]:=k;show again j y
  |cont=>let#[c,a,j,y]:=k;show again j y
  |brk=>let#[c,a,j,k]:=k;show#[c,a,j.Gq,k]
  |ret v=>let#[sq,c,a,j,Kz,k]:=k;show#[sq,c,a,j.Gq,Kz,k]
end
def yD{K:b2}{a:ao}{xs:List V}{g:mU}{dv:hu}{D:nt}{σ:St}{H:aw}(Pv:Nat->St->aw->Prop)(l:Pv 0 σ H)(n:∀i σ H,i<=xs.length->Pv i σ H->bM K H a xs)
  (ai:∀i x σ H,xs[i]?=Y x->Pv i σ H->g x σ H λd f=>dv {D with cM:=Pv<|i+1,fI:=Pv<|i+1,kn:=D.cM} d f) (j:∀σ H,Pv xs.length σ H->D.cM σ H):
  ∃W:Nat->Nat->St->aw->Prop,(∃m,W 0 m σ H)/\∀i m σ H,W i m σ H->
   ((wG K a).stop i H/\D.cM σ H)\/((wG K a).go i H/\∃N:St->aw->Prop,(∀c b,N c b->∃aO,aO<m/\W (i+1) aO c b)/\∀x b,(wG K a).tr i H x b->g x σ b λd f=>dv {D with cM:=N,fI:=N,kn:=D.cM} d f):=by
 show#[λi m σ H=>m=xs.length-i/\i<=xs.length/\Pv i σ H,#[xs.length,bg,hQ _,l],?_]
 rintro i m σ H ⟨rfl,ak,p⟩
 let q:=n i σ H ak p
 by_cases h:i<xs.length
 .show .inr #[#[xs,xs[i],q,by simp[h]],Pv<|i+1,λc b k=>#[xs.length-(i+1),aV,Z,h,k],λx b y=>?_];let#[e,y]:=y;subst e;show ai i x σ _ (y xs q) p
 .let e:i=xs.length:=by lia
  subst e;show .inl #[#[xs,q,bK _],j σ H p]
def Rw{K:b2}{a:ao}{xs:List V}{g:mU}{dv:hu}{D:nt}{σ:St}{H:aw}(Pv:Nat->St->aw->Prop)(l:Pv 0 σ H)(n:∀i σ H,i<=xs.length->Pv i σ H->gb K H a xs)
  (ai:∀i x σ H,xs[i]?=Y x->Pv i σ H->g x σ H λd f=>dv {D with cM:=Pv<|i+1,fI:=Pv<|i+1,kn:=D.cM} d f) (j:∀σ H,Pv xs.length σ H->D.cM σ H):
  ∃W:Nat->Nat->St->aw->Prop,(∃m,W 0 m σ H)/\∀i m σ H,W i m σ H->
   ((C6 K a).stop i H/\D.cM σ H)\/((C6 K a).go i H/\∃N:St->aw->Prop,(∀c b,N c b->∃aO,aO<m/\W (i+1) aO c b)/\∀x b,(C6 K a).tr i H x b->g x σ b λd f=>dv {D with cM:=N,fI:=N,kn:=D.cM} d f):=by
 show#[λi m σ H=>m=xs.length-i/\i<=xs.length/\Pv i σ H,#[xs.length,bg,hQ _,l],?_]
 rintro i m σ H ⟨rfl,ak,p⟩
 let q:=n i σ H ak p
 by_cases h:i<xs.length
 .show .inr #[#[xs,xs[i],q,by simp[h]],Pv<|i+1,λc b k=>#[xs.length-(i+1),aV,Z,h,k],λx b y=>?_];let#[e,y]:=y;subst e;show ai i x σ _ (y xs q) p
 .let e:i=xs.length:=by lia
  subst e;show .inl #[#[xs,q,bK _],j σ H p]
abbrev dB:=V->V->aw->ck->Prop
def ib(X:b9)(f:aB->aB->Sem aB)(r:dB):Prop:=
 ∀(a:List (ao×Obj)) (s:bl) (b:St) (H:aw) (x y:V) (v u:aB) (Q:ck),aN X a b H s->dq x v->dq y u->r x y H Q->
  bP (bJ X.prog X.w) X.A (f v u) (lK X a b Q) X.er s
def KA(X:b9)(f:aB->Sem aB)(r:V->aw->ck->Prop):Prop:=
 ∀(a:List (ao×Obj)) (s:bl) (b:St) (H:aw) (x:V) (v:aB) (Q:ck),aN X a b H s->dq x v->r x H Q->
  bP (bJ X.prog X.w) X.A (f v) (lK X a b Q) X.er s
def rp(X:b9)(f:aB)(r:List V->aw->ck->Prop):Prop:=
 ∀(b:List (ao×Obj)) (s:bl) (c:St) (H:aw) (xs:List V) (a:List aB) (Q:ck),aN X b c H s->dA xs a->r xs H Q->
  bP (bJ X.prog X.w) X.A (ph f a) (lK X b c Q) X.er s
def ZK(X:b9)(r:V->aw->(Bool->aw->Prop)->Prop):Prop:=
 ∀(a:List (ao×Obj)) (s:bl) (b:St) (H:aw) (x:V) (v:aB) (Q:Bool->aw->Prop),aN X a b H s->dq x v->r x H Q->
  bP (bJ X.prog X.w) X.A (truthy v) (C0 X a b Q) X.er s
def Av(r:dB)(b dv:TE):TE:=λa H Q=>b a H λx H1=>dv a H1 λy c=>r x y c Q
def ZL(r:V->aw->ck->Prop)(a:TE):TE:=λb H Q=>a b H λx H1=>r x H1 Q
inductive Rx(C:Int->Int->Prop)(g:Int->Int->V)(Q:ck)(x y:V)(H:aw):Prop
 |mk (i) (j) (_:x=.int i) (_:y=.int j) (_:C i j) (_:Q (g i j) H):Rx C g Q x y H
def Gs(C:Int->Int->Prop)(g:Int->Int->V):dB:=λx y H Q=>Rx C g Q x y H
inductive Ry(g:Int->Int->V)(Q:ck)(x y:V)(H:aw):Prop
 |mk (i) (j) (_:x=.int i) (_:y=.int j) (_:Q (g i j) H):Ry g Q x y H
def sr(g:Int->Int->V):dB:=λx y H Q=>Ry g Q x y H
def Rz(g:Int->V):V->aw->ck->Prop:=λx H Q=>∃i,x=.int i/\Q (g i) H
section
variable {X:b9}{a b c:Expr}{dc dv k7:TE}{pos:Pos}
def KB(i:bS X a dc)(ae:bS X b dv){R:V->V->aw->Prop}(I:aN X ah σ H s)
  (h:dc σ H λx H1=>dv σ H1 λy c=>R x y c) {Q:aB->bl->Prop}{f:aB->aB->Sem aB}
  (e:∀v u d x y c,aN X ah σ c d->dq x v->dq y u->R x y c->bP (bJ X.prog X.w) X.A (f v u) Q X.er d):
  bP (bJ X.prog X.w) X.A (eval a X.env) (λv o=>bP (bJ X.prog X.w) X.A (eval b X.env) (λu n=>bP (bJ X.prog X.w) X.A (f v u) Q X.er n) X.er o) X.er s:=by
 show ct (i ah s σ H _ I h) λv j z=>?_;let#[x,H1,q,k,m]:=z
 show ct (ae ah j σ H1 _ q m) λu d z=>?_;let#[y,c,l,p,g]:=z
 show e v u d x y c l k p g
def iO{r:dB}(l:ib X (xM op) r)(c:bS X a dc)(ae:bS X b dv):bS X (.BinOp a op b pos) (Av r dc dv):=by intro f s i H Q I h;show wpAny_BinOp<|KB c ae I h λv u k x y d e g j q=>l f k i d x y v u Q e g j q
def tw(i:KA X (unaryOp op) r)(e:bS X a dc):bS X (.UnaryOp op a pos) (ZL r dc):=by intro b s c H Q I h;show UnaryOp_<|ct (e b s c H _ I h) λv f #[x,H1,d,g,j]=>i b f c H1 x v Q d g j
def KC{f:aB->aB->Sem aB}{C:Int->Int->Prop}{g:Int->Int->Int}
  (rule:∀(i j:Int) (t u:Tok) (s:bl) (Q:aB->bl->Prop) (E:aB->bl->Prop),C i j->Q (.int (g i j) s.toks) {s with toks:=s.toks+1}->bP (bJ X.prog X.w) X.A (f (.int i t)<|.int j u) Q E s):
  ib X f (Gs C λi j=>.int<|g i j):=by
 intro e s k H x y v u Q I b c h
 let#[i,j,rfl,rfl,d,q]:=h
 let#[t,rfl]:=b
 let#[a,rfl]:=c
 show rule i j t a s _ _ d #[.int<|g i j,H,I.tok _,#[9],q]
def RA{g:Int->Int->Int}
  (rule:∀(i j:Int) (t u:Tok) (s:bl) (Q:aB->bl->Prop) (E:aB->bl->Prop),Q (.int (g i j) s.toks) {s with toks:=s.toks+1}->bP (bJ X.prog X.w) X.A (f (.int i t)<|.int j u) Q E s):
  ib X f (sr λi j=>.int<|g i j):=by
 intro d s e H x y v u Q I b c h
 let#[i,j,rfl,rfl,q]:=h
 let#[t,rfl]:=b
 let#[a,rfl]:=c
 show rule i j t a s _ _ #[.int<|g i j,H,I.tok _,#[9],q]
def Gu{g:Int->Int->Bool}
  (rule:∀(i j:Int) (t u:Tok) (s:bl) (Q:aB->bl->Prop) (E:aB->bl->Prop),Q (.bool<|g i j) s->bP (bJ X.prog X.w) X.A (f (.int i t)<|.int j u) Q E s):
  ib X f (sr λi j=>.cC<|g i j):=by
 intro d s e H x y v u Q I b c h
 let#[i,j,rfl,rfl,q]:=h
 let#[t,rfl]:=b
 let#[a,rfl]:=c
 show rule i j t a s _ _ #[.cC<|g i j,H,I,Z,q]
def KD(i j:Int):Prop:=(-(2 ^ 64)<i/\i<2 ^ 64)\/(-(2 ^ 64)<j/\j<2 ^ 64)
def KD.ok{i j:Int}(h:KD i j):IntMulOk i j:=by
 obtain⟨a,b⟩|⟨a,b⟩:=h
 .show .of_left<|intBits_le_64 a b
 .show .of_right<|intBits_le_64 a b
def mW:ib X (xM .Add) (sr λi j=>.int<|i+j):=RA λw w w w w w w q=>add_int q
def Gv:ib X (xM .Sub) (sr λi j=>.int<|i-j):=RA λw w w w w w w q=>sub_int q
def KE:ib X (xM .Mult) (Gs KD λi j=>.int<|i*j):=KC λw w w w w w w a q=>mul_int q a.ok
def ZM:ib X (xM .Mod) (Gs (λw j=>0<j) λi j=>.int<|i % j):=KC λi j w w w w w a q=>by show mod_int' aV (by rwa[Int.fmod_eq_emod_of_nonneg i aV])
def ZN{g:Int->Int}
  (rule:∀(i:Int) (t:Tok) (s:bl) (Q:aB->bl->Prop) (E:aB->bl->Prop),Q (.int (g i) s.toks) {s with toks:=s.toks+1}->bP (bJ X.prog X.w) X.A (f<|.int i t) Q E s):
  KA X f (Rz λi=>.int<|g i):=by
 intro b s c H x v Q I a h
 let#[i,rfl,q]:=h
 let#[t,rfl]:=a
 show rule i t s _ _ #[.int<|g i,H,I.tok _,#[9],q]
def tx:KA X (unaryOp .USub) (Rz λi=>.int<|-i):=ZN λw w w w w q=>neg_int q
end
noncomputable def RB:V->V->Bool
 |.bB,.bB=>O|.bB,.int _=>O|.int _,.bB=>O|.bB,.cC _=>O|.cC _,.bB=>O|.bB,.str _=>O|.str _,.bB=>O
 |.int _,.int _=>O|.cC _,.cC _=>O|.str _,.str _=>O|.hr _,.hr _=>O
 |.int _,.str _=>O|.str _,.int _=>O|.cC _,.str _=>O|.str _,.cC _=>O
 |_,_=>J
def ZO:dB:=λx y H Q=>RB x y=O/\Q (.cC<|decide<|x=y) H
def RC:dB:=λx y H Q=>RB x y=O/\Q (.cC<|!decide (x=y)) H
def RD{i j:Int}:decide (V.int i=V.int j)=(i==j):=by rw[Fb];simp
def RE{i j:Bool}:decide (V.cC i=V.cC j)=(i==j):=by rw[Fb];simp
def RF{i j:Str}:decide (V.str i=V.str j)=(i==j):=by rw[Fb];simp
def RG{i j:Array UInt8}:decide (V.hr i=V.hr j)=(i.toList==j.toList):=by rw[Fb];cases i;cases j;simp
section
variable {X:b9}{a b c:Expr}{dc dv k7:TE}{pos:Pos}
def hN(I:aN X ah σ H s)(q:Q (.cC k) H)(e:k=jy):lK X ah σ Q (.bool jy) s:=by subst e;show#[.cC k,H,I,Z,q]
def lM:ib X (lY .Eq) ZO:=by
 intro d s e H x y v u Q I c a h
 let#[ai,q]:=h
 cases x with
 |bB=>
  cases c
  cases y with
  |bB=>cases a;show PySem.EqNone.eq_none_none<|hN I q bg
  |cC j=>cases a;show PySem.EqNone.eq_none_bool<|hN I q bg
  |int j=>let#[b,rfl]:=a;show PySem.EqNone.eq_none_int<|hN I q bg
  |str j=>let#[b,rfl]:=a;show PySem.EqNone.eq_none_str<|hN I q bg
  |_=>show a8 (show J=O from ai) jv
 |cC i=>
  cases c
  cases y with
  |bB=>cases a;show PySem.EqNone.eq_bool_none<|hN I q bg
  |cC j=>cases a;show eq_bool<|hN I q RE
  |str j=>let#[b,rfl]:=a;show PySem.EqMixed.eq_bool_str<|hN I q bg
  |_=>show a8 (show J=O from ai) jv
 |int i=>
  let#[t,rfl]:=c
  cases y with
  |bB=>cases a;show PySem.EqNone.eq_int_none<|hN I q bg
  |int j=>let#[b,rfl]:=a;show eq_int<|hN I q RD
  |str j=>let#[b,rfl]:=a;show PySem.EqMixed.eq_int_str<|hN I q bg
  |_=>show a8 (show J=O from ai) jv
 |str i=>
  let#[t,rfl]:=c
  cases y with
  |bB=>cases a;show PySem.EqNone.eq_str_none<|hN I q bg
  |cC j=>cases a;show PySem.EqMixed.eq_str_bool<|hN I q bg
  |int j=>let#[b,rfl]:=a;show PySem.EqMixed.eq_str_int<|hN I q bg
  |str j=>let#[b,rfl]:=a;show eq_str<|hN I q RF
  |_=>show a8 (show J=O from ai) jv
 |hr i=>
  let#[t,rfl]:=c
  cases y with
  |hr j=>let#[b,rfl]:=a;show PySem.W.eq_bytes<|hN I q RG
  |_=>show a8 (show J=O from ai) jv
 |_=>cases y<;>show a8 (show J=O from ai) jv
def pM:ib X (lY .NotEq) RC:=by
 intro d s e H x y v u Q I c a h
 let#[ai,q]:=h
 cases x with
 |bB=>
  cases c
  cases y with
  |bB=>cases a;show PySem.EqNone.ne_none_none<|hN I q bg
  |cC j=>cases a;show PySem.EqNone.ne_none_bool<|hN I q bg
  |int j=>let#[b,rfl]:=a;show PySem.EqNone.ne_none_int<|hN I q bg
  |str j=>let#[b,rfl]:=a;show PySem.EqNone.ne_none_str<|hN I q bg
  |_=>show a8 (show J=O from ai) jv
 |cC i=>
  cases c
  cases y with
  |bB=>cases a;show PySem.EqNone.ne_bool_none<|hN I q bg
  |cC j=>cases a;show ne_bool<|hN I q<|congrArg not RE
  |str j=>let#[b,rfl]:=a;show PySem.EqMixed.ne_bool_str<|hN I q bg
  |_=>show a8 (show J=O from ai) jv
 |int i=>
  let#[t,rfl]:=c
  cases y with
  |bB=>cases a;show PySem.EqNone.ne_int_none<|hN I q bg
  |int j=>let#[b,rfl]:=a;show ne_int<|hN I q<|congrArg not RD
  |str j=>let#[b,rfl]:=a;show PySem.EqMixed.ne_int_str<|hN I q bg
  |_=>show a8 (show J=O from ai) jv
 |str i=>
  let#[t,rfl]:=c
  cases y with
  |bB=>cases a;show PySem.EqNone.ne_str_none<|hN I q bg
  |cC j=>cases a;show PySem.EqMixed.ne_str_bool<|hN I q bg
  |int j=>let#[b,rfl]:=a;show PySem.EqMixed.ne_str_int<|hN I q bg
  |str j=>let#[b,rfl]:=a;show ne_str<|hN I q<|congrArg not RF
  |_=>show a8 (show J=O from ai) jv
 |hr i=>
  let#[t,rfl]:=c
  cases y with
  |hr j=>let#[b,rfl]:=a;show PySem.W.ne_bytes<|hN I q<|congrArg not RG
  |_=>show a8 (show J=O from ai) jv
 |_=>cases y<;>show a8 (show J=O from ai) jv
def wJ:ib X (lY .Lt) (sr λi j=>.cC<|decide<|i<j):=Gu λw w w w w w w q=>lt_int q
def wK:ib X (lY .LtE) (sr λi j=>.cC<|decide<|i<=j):=Gu λw w w w w w w q=>le_int q
def tA:ib X (lY .Gt) (sr λi j=>.cC<|decide<|j<i):=Gu λw w w w w w w q=>gt_int q
def RH:ib X (lY .GtE) (sr λi j=>.cC<|decide<|j<=i):=Gu λw w w w w w w q=>ge_int q
def su:ib X (lY .Is) (λx y H Q=>y=.bB/\Q (.cC<|decide<|x=.bB) H):=by
 intro c s d H x y v u Q I a b h;let#[rfl,q]:=h;cases b;show is_none_gen<|hN I q ?_;cases x<;>first
  |(cases a;rfl)
  |(let#[t,rfl]:=a;rfl)
def Gw:ib X (lY .IsNot) (λx y H Q=>y=.bB/\Q (.cC<|!decide (x=.bB)) H):=by
 intro c s d H x y v u Q I a b h;let#[rfl,q]:=h;cases b;show isnot_none_gen<|hN I q ?_;cases x<;>first
  |(cases a;rfl)
  |(let#[t,rfl]:=a;rfl)
def ib.or(h:ib X f r)(h':ib X f bt):ib X f (λx y H Q=>r x y H Q\/bt x y H Q):=by
 intro a s c H x y v u Q I b d q;obtain q|q:=q
 .show h a s c H x y v u Q I b d q
 .show h' a s c H x y v u Q I b d q
def Aw(b:Expr)(h:e≠.In:=by decide)(d:e≠.NotIn:=by decide):vC e b=false:=by
 let a:(e==CmpOp.In)=false:=by cases e<;>first|rfl|show a8 Z h
 let c:(e==CmpOp.NotIn)=false:=by cases e<;>first|rfl|show a8 Z d
 cases b<;>simp[vC,a,c]
def C8{r:dB}(l:ib X (lY op) r)(c:bS X a dc)(ae:bS X b dv)(hm:vC op b=J):bS X (.Compare a [op] [b] pos) (Av r dc dv):=by intro f s i H Q I h;show wpAny_Compare1 (KB c ae I h λv u k x y d e g j q=>l f k i d x y v u Q e g j q) hm
inductive RI(Q:Bool->aw->Prop)(x:V)(ab:aw):Prop
 |mk (k) (_:x=.cC k) (_:Q k ab):RI Q x ab
def Gx(t:TE):TT:=λa H Q=>t a H λx b=>RI Q x b
def ZP(D:ib X (lY op) r)(j:bS X a dc)(ae:bS X b dv)(hm:vC op b=J):lg X (.Compare a [op] [b] pos) (Gx<|Av r dc dv):=by
 intro d s f H Q I h;show Op (ct (j d s f H _ I h) λv l #[x,H1,A,n,t]=>ct (ae d l f H1 _ A t) λu B #[y,o,m,w,g]=>
  ct (D d B f o x y v u _ m n w g) λc E W=>?_) hm;let#[z,q,C,p,k,e,i]:=W
 subst e;cases p;show zx #[q,C,i]
def KG(r d:dB)(dc dv k7:TE):TE:=λa H Q=>dc a H λx H1=>dv a H1 λy e=>r x y e λz b=>∃k,z=.cC k/\
 (if k=O then k7 a b λc f=>d y c f Q else Q (.cC J) b)
def ZQ(T:ib X (lY op) r)(t:ib X (lY C9) bt)(D:bS X a dc)(ae:bS X b dv)(S:bS X c k7)
  (hm:lastMarks [op,C9] [b,c]=false:=by with_unfolding_all rfl):bS X (.Compare a [op,C9] [b,c] pos) (KG r bt dc dv k7):=by
 intro f s g H Q I h
 show Compare_chain (ct (D f s g H _ I h) λv F #[x,H1,R,L,q]=>chain_link (ct (ae f F g H1 _ R q) λu w #[y,G,p,i,n]=>
  ct (T f w g G x y v u _ p L i n) λd P W=>?_)) hm;let#[z,m,j,K,k,e,l]:=W
 subst e
 cases K
 show zx ?_
 cases k with
 |false=>show ite_ff #[.cC J,m,j,Z,l]
 |true=>show ite_tt<|chain_last<|ct (S f P g m _ j l) λA o #[C,B,E,M,N]=>t f o g B y C u A Q E i M N
def RJ(bv:ib X (lY op) r)(C:ib X (lY C9) bt)(N:bS X a dc)(ae:bS X b dv)(hc:bS X c k7)
  (hm:lastMarks [op,C9] [b,c]=false:=by with_unfolding_all rfl):lg X (.Compare a [op,C9] [b,c] pos) (Gx<|KG r bt dc dv k7):=by
 intro f s g H Q I h
 show isTrue_chain (ct (N f s g H _ I h) λv R #[x,H1,aZ,V,B]=>test_link (ct (ae f R g H1 _ aZ B) λu D #[y,S,A,i,o]=>
  ct (bv f D g S x y v u _ A V i o) λd s3 h0=>?_)) hm;let#[z,m,j,T,k,e,l]:=h0
 subst e
 cases T
 show zx ?_
 cases k with
 |false=>let#[jy,L,w]:=l;cases L;show ite_ff #[m,j,w]
 |true=>show ite_tt<|test_last<|ct (hc f s3 g m _ j l) λE p #[M,G,P,W,mg]=>ct (C f p g G y M u E _ P i W mg) λkN s5 #[cc,F,t,n,e2,q,K]=>?_;subst q;cases n;show zx #[F,t,K]
def wL(K:b2)(x:V)(H:aw)(k:Bool):Prop:=
 match x with
 |.bB=>k=J
 |.cC b=>k=b
 |.int i=>k=(i != 0)
 |.str y=>y.length<=sizeLine/\k=((y.length:Int) != 0)
 |.hr y=>y.size<=sizeLine/\k=((y.size:Int) != 0)
 |.ref p=>(∃xs,bM K H p xs/\k=!xs.isEmpty)\/(∃xs,gb K H p xs/\k=!xs.isEmpty)\/∃av,H p=Y (.cY av)/\k=!av.isEmpty
 |_=>False
def ZR(r:jG av ac):(!ac.isEmpty)=!av.isEmpty:=by cases r<;>rfl
def RK(r:dA xs bF):(!bF.toArray.isEmpty)=!xs.isEmpty:=by cases r<;>simp
def Gy:(sizeLine:Nat)<2 ^ 63:=by rw[EE];decide
def ZS:ZK X (λx H Q=>∃k,wL X.K x H k/\Q k H):=by
 intro o s u H x v Q I c h
 let#[k,e,q]:=h
 let ai:=EE
 cases x with
 |bB=>cases c;let a:=e;subst a;show truthy_none #[H,I,q]
 |cC b=>cases c;let a:=e;subst a;show zx #[H,I,q]
 |int i=>let#[t,rfl]:=c;let a:=e;subst a;show PySem.P.truthy_int #[H,I,q]
 |str y=>let#[t,rfl]:=c;obtain⟨l,a⟩:y.length<=sizeLine/\k=((y.length:Int) != 0):=e;subst a;show PySem.P.truthy_str aV #[H,I.tok _,q]
 |hr y=>let#[t,rfl]:=c;obtain⟨l,a⟩:y.size<=sizeLine/\k=((y.size:Int) != 0):=e;subst a;show PySem.W.truthy_bytes aV #[H,I.tok _,q]
 |ref p=>
  cases c;let a:=e;obtain⟨xs,d,a⟩|⟨xs,d,a⟩|⟨av,d,a⟩:=a
  .subst a;let#[j,r,pl,f]:=I.list d;let g:=r.length;show wpAny_truthy_list pl.isList (by simp only[iU];lia) #[H,I.tok _,by rwa[RK r]]
  .subst a;let#[j,r,pl,f]:=I.tuple d;let g:=r.length;show truthy_tuple pl (by simp only[iU];lia) #[H,I.tok _,by rwa[RK r]]
  .subst a;obtain⟨f,n,ac,r,m⟩:av.length<=sizeLine/\(p==nQ)=J/\∃ac,jG av ac/\s.heap.DictOf (jF X.prog X.w) p ac:=I.bL p _ d;let g:=zY r;show wpAny_truthy_dict n m aV #[H,I.tok _,by rwa[ZR r]]
 |_=>show(show False from e).elim
def RL(e:bS X a dc)(j:∀b,xO a X.env b=(do let v <-b;vF a.pos;vG [v] (truthy v))):
  lg X a (λσ H Q=>dc σ H λx d=>∃k,wL X.K x d k/\Q k d):=by
 intro c s σ H Q I h
 show isTrue_plain (ct (e c s σ H _ I h) λv f q=>by let#[x,H1,l,g,i]:=q;show ZS c f σ H1 x v Q l g i)<|j _
def Ax(r:dA [x] us):∃u,us=[u]/\dq x u:=by
 cases r with
 |cons b a=>cases a;show#[9,b]
def RM:rp X (.builtin "abs") (λxs H Q=>∃i,xs=[.int i]/\Q (.int<|if i<0 then -i else i) H):=by intro a s b H xs c Q I r h;let#[i,rfl,q]:=h;let#[u,rfl,t,rfl]:=Ax r;show call_abs_int λu a3=>#[.int (if i<0 then -i else i),H,I.tok _,#[9],q]
def ZT:rp X (.type "str") (λxs H Q=>∃i,xs=[.int i]/\i.natAbs.log2<1920/\Q (.str<|toString i) H):=by intro b s c H xs d Q I r h;let#[i,rfl,a,q]:=h;let#[u,rfl,t,rfl]:=Ax r;show PySem.P.str_of_int a #[.str _,H,I.tok _,#[9],q]
def KH:rp X (.builtin "ord") (λxs H Q=>∃x,xs=[.str x]/\x.length=1/\Q (.int (x.cps.getD 0 0:Nat)) H):=by intro b s c H xs d Q I r h;let#[x,rfl,a,q]:=h;let#[u,rfl,t,rfl]:=Ax r;show ord_of_one a #[.int _,H,I.tok _,#[9],q]
end
structure yE(h:df)(x dx C:ao)(gy:Str->Option aB):Prop where
 obj:h.get? x=Y (q0 C dx)
 ns:h.Ns1 dx gy
 ne:dx≠x
set_option tactic.hygienic true in
def RN{h:df}(n:h.Ns1 dx gy):∃c,h.get? dx=Y c/\∀name,ER name c=Y (gy name):=by
 let#[o,b,l,k,d,g,w,hm]:=n;show#[o,k,λname=>?_];let e:=hm name;unfold nsFind findBy at e;rw[<-Array.find?_toList]at e;unfold ER;rw[d];dsimp only;split
 .rename_i y q;rw[q]at e;show congrArg Y e
 .rename_i q;rw[q]at e;let a:b.toList.any (·.refKey)=false:=by rw[Jk];intro y f;let#[z,t,j]:=g y<|Pk.mp f;simp[DictEntry.refKey,j]
  let i:¬b.toList.any (·.refKey)=true:=by rw[a];show jv
  show(aM i)▸(congrArg Y e)
def yE.look(I:yE h x dx C gy):∃a,ES h x (q0 C dx) C (Y a)/\∀name,ER name a=Y (gy name):=
 let ⟨a,bv,hl⟩:=RN I.ns
 #[a,#[I.obj,Z,Z,bv],hl]
section
variable {prog:eZ}{w:dM}{A:e0}{E:aB->bl->Prop}{s:bl}{K:b2}{x dx C f:ao}{gy:Str->Option aB}{name:Str}{v:aB}
def get_map(X:K.In s.heap)(I:yE s.heap x dx C gy)(a:BR K C name=O)(b3:zG K C=O)
  (d:fJ K (.ref C) name=Y U) (e:gy name=Y v) (c:IW v=O) (h:Q v {s with toks:=s.toks+1}):
  bP (bJ prog w) A (BN (.ref x) name expr) Q E s:=by
 let#[f,g,b]:=I.look
 show PySem.W.get_value X g (IT a).1 (OK b3 d Z<|by rw[b,e]) c h
def ZU(X:K.In s.heap)(I:yE s.heap x dx C gy)(a:BR K C name=O)
  (b:fJ K (.ref C) name=Y (Y<|.ref f)) (d:BU K (.ref f)=O) (g:gy name=U) (h:Q (.ref f,[.ref x]) s):
  bP (bJ prog w) A (uh (.ref x) name pl) Q E s:=by
 let#[e,o,c]:=I.look
 show PySem.W.method_fn X o (IT a).1 (IT a).2 b (beq_iff_eq.mp d) (by show(ER name e).map (·.isSome)=Y J;rw[c,g];rfl) h
def ZV(X:K.In s.heap)(I:yE s.heap x dx C gy)
  (ai:fJ K (.ref C) "__setattr__"=Y (Y<|.builtin "object.__setattr__")) (aC:I1 K C=O) (f:IZ K C name=Y U) (b3:zG K C=O)
  (d:IA gy ns) (hsz:ns.length<=sizeLine)
  (h:∀h',yE h' x dx C (λy=>if y=name then Y v else gy y)->p9 dx s.heap h'->Q () {s with heap:=h',toks:=s.toks+2}):
  bP (bJ prog w) A (setAttr (.ref x) name v) Q E s:=by
 let#[o,q,l]:=I.look
 show OL X q ai<|PySem.W.osa_open X q aC f λb=>?_
 let#[cd,j,i]:=PySem.W.any_some b3
 show aY<|c0<|aY<|aY<|wpAny_loadPart I.obj<|aY<|PySem.W.Looks.here (PySem.W.looks_clsIn X j) ?_
 rw[i]
 show c0<|aY<|c0<|aY ?_
 show wpAny_nsSet1 I.ns λh' a c=>?_
 let#[n,m,k,g,e,KM]:=a.count<|P1 name v d
 show aY (wpAny_lookBehind g (by rw[e];show pastItsLine_dict<|dK KM (by rw[gi];lia)) ?_)
 show c0<|h _ #[(c.2 _<|c5 I.ne).trans I.obj,a,I.ne] c
def ZZ(X:K.In s.heap)(hm:p7 K C=O)
  (ak:fJ K (.ref C) "__init__"=Y (Y<|.ref f)) (b:BS K (.ref f)=Y (.type "function"))
  (h:pg (bJ prog w) (A.under<|.builtin "type.__call__" #[.ref C::ac,kw]) (.call (.ref f) #[.ref (s.heap.objs.size+1)::ac,kw]) (IX (s.heap.objs.size+1) R)
   {s with heap:=(s.heap.push qZ).push (q0 C s.heap.objs.size)}):
  pg (bJ prog w) A (.call (.ref C) #[ac,kw]) R s:=by
 let#[b3,g,d,t,os]:=s
 show OM (IY X hm) (zF X ak) (λa=>OQ X a b) (.inl Z) h
def Z0(X:K.In s.heap)(hm:p7 K C=O)
  (ak:fJ K (.ref C) "__init__"=Y (Y<|.builtin "object.__init__"))
  (ae:∀a,vM (bJ prog w) s.heap (bindSpecial (.builtin "object.__init__") a) (.builtin "object.__init__",[a]))
  (h:pg (bJ prog w) (A.under<|.builtin "type.__call__" #[[.ref C],[]]) (.call (.builtin "object.__init__") #[[.ref<|s.heap.objs.size+1],[]]) (IX (s.heap.objs.size+1) R)
   {s with heap:=(s.heap.push qZ).push (q0 C s.heap.objs.size)}):
  pg (bJ prog w) A (.call (.ref C) #[[],[]]) R s:=by
 let#[b3,g,d,t,os]:=s
 show OM (IY X hm) (zF X ak) ae (.inr #[Z,Z]) h
end
noncomputable def lN(f:Str)(v:V):List (Str×V)->List (Str×V)
 |[]=>[(f,v)]
 |(g,x)::r=>if g=f then (g,v)::r else (g,x)::lN f v r
theorem RP(f g:Str)(v:V):∀bb:List (Str×V),(lN f v bb).lookup g=if g=f then Y v else bb.lookup g
 |[]=>by
  show uw g [(f,v)]=_;by_cases h:g=f
  .let ae:(g==f)=true:=beq_iff_eq.mpr h;simp only[uw,ae,aR h]
  .let ae:(g==f)=false:=beq_eq_false_iff_ne.mpr h;simp only[uw,ae,aM h]
 |(k,x)::r=>by
  let b:=RP f g v r;rw[show lN f v ((k,x)::r)=(if k=f then (k,v)::r else (k,x)::lN f v r)from Z];by_cases a:k=f
  .rw[aR a];by_cases h:g=k
   .let ae:(g==k)=true:=beq_iff_eq.mpr h;simp only[uw,ae,aR<|h.trans a]
   .let ae:(g==k)=false:=beq_eq_false_iff_ne.mpr h;simp only[uw,ae,aM (λe:g=f=>h<|e.trans a.symm)]
  .rw[aM a];by_cases h:g=k
   .let ae:(g==k)=true:=beq_iff_eq.mpr h;simp only[uw,ae,aM (λe:g=f=>a<|h.symm.trans e)]
   .let ae:(g==k)=false:=beq_eq_false_iff_ne.mpr h;simp only[uw,ae];show b
theorem KN(f:Str)(v:V):∀bb:List (Str×V),f∈(lN f v bb).map (·.1)/\∀g,g∈bb.map (·.1)->g∈(lN f v bb).map (·.1)
 |[]=>#[by simp[lN],λg h=>by simp at h]
 |(k,x)::r=>by
  let#[c,b]:=KN f v r;rw[show lN f v ((k,x)::r)=(if k=f then (k,v)::r else (k,x)::lN f v r)from Z];by_cases a:k=f
  .rw[aR a];subst a;show#[bg,λg h=>by simpa using h]
  .rw[aM a];show#[?_,λg h=>?_]
   .rw[mH];show e9 _ c
   .rw[mH]at h ⊢;obtain e|e:=eG.mp h
    .show eG.mpr<|.inl e
    .show e9 _<|b g e
theorem RQ(f:Str)(v:V):∀bb:List (Str×V),(lN f v bb).length<=bb.length+1
 |[]=>by simp[lN]
 |(k,x)::r=>by
  let a:=RQ f v r;rw[show lN f v ((k,x)::r)=(if k=f then (k,v)::r else (k,x)::lN f v r)from Z];split
  .rw[gi,gi];lia
  .rw[gi,gi];lia
def la.Ay(r:la (Y v) o):∃u,o=Y u/\dq v u:=by
 cases o with
 |none=>show(show False from r).elim
 |some u=>show#[u,Z,r]
def la.none_of(r:la U o):o=none:=by
 cases o with
 |none=>rfl
 |some u=>show(show False from r).elim
def Z1(r:dq v u):IW u=true:=by
 cases v with
 |bB=>cases (show u=ka from r);rfl
 |cC b=>cases (show u=Fc b from r);rfl
 |int i=>let#[t,e]:=(show ∃t,u=s7 i t from r);cases e;rfl
 |str x=>let#[t,e]:=(show ∃t,u=zP x t from r);cases e;rfl
 |hr b=>let#[t,e]:=(show ∃t,u=Value.bytes b t from r);cases e;rfl
 |yo b=>let#[t,e]:=(show ∃t,u=Jt b t from r);cases e;rfl
 |ref a=>cases (show u=e3 a from r);rfl
 |ty n=>cases (show u=vY n from r);rfl
section
variable {P:eZ}{w:dM}{H ab:aw}{h h':df}{a C dx:ao}{bb ww:List (Str×V)}
def Gz(c:f8 P w H h)(e:H a=Y (.b7 C dx bb)):∃b,yE h a dx C b/\(∀f,la (bb.lookup f) (b f))/\IA b (bb.map (·.1))/\bb.length<=1000/\H dx=Y (.own a):=by let#[d,z,g,ob,b,n,r,q]:=(show ht P w H h a (.b7 C dx bb)from c a _ e);show#[b,#[ob,n,g],r,q,z,d]
end
structure ku(K:b2)(C:ao):Prop where
 Az:BR K C Str.empty=O
 hd:zG K C=O
 po:I1 K C=O
 nv:fJ K (.ref C) "__setattr__"=Y (Y<|.builtin "object.__setattr__")
def ku.get{K:b2}{C:ao}(c:ku K C)(f:Str):BR K C f=true:=c.Az
def pN(K:b2)(C:ao)(f:Str):Prop:=fJ K (.ref C) f=Y U
def pN.taker{K:b2}(n:pN K C f):IZ K C f=Y none:=by unfold IZ;rw[show fJ K (.ref C) f=Y U from n];rfl
structure c6(K:b2)(C:ao)(m:Str)(f:ao):Prop where
 at_:fJ K (.ref C) m=Y (Y<|.ref f)
 fn:BU K (.ref f)=O
 dX:nV K (.ref f)=O
section
variable {X:b9}{ah:List (ao×Obj)}{σ:St}{H:aw}{s:bl}{a C dx:ao}{bb:List (Str×V)}{f:Str}{v:V}{A:e0}{E:aB->bl->Prop}
def RR(I:aN X ah σ H s)(e:H a=Y (.b7 C dx bb))(c:ku X.K C)(n:pN X.K C f)(l:bb.lookup f=Y v)
  (h:∀u s',aN X ah σ H s'->dq v u->Q u s'):bP (bJ X.prog X.w) A (BN (.ref a) f b) Q E s:=by
 let#[i,o,r,q,q,q]:=Gz I.bL e
 let#[u,g,d]:=la.Ay (by rw[<-l];show r f)
 show get_map I.fS o (c.get f) c.hd n g (Z1 d)<|h u _ (I.tok _) d
def RS(I:aN X ah σ H s)(e:H a=Y (.b7 C dx bb))(c:ku X.K C)(k:c6 X.K C m g)(l:bb.lookup m=U)
  (h:Q (.ref g,[.ref a]) s):bP (bJ X.prog X.w) A (uh (.ref a) m pl) Q E s:=by
 let#[d,o,r,q,q,q]:=Gz I.bL e
 let b:d m=none:=la.none_of (by rw[<-l];show r m)
 show ZU I.fS o (c.get m) k.at_ k.fn b h
def RT(I:aN X ah σ H s)(e:H a=Y (.b7 C dx bb))(c:ku X.K C)(n:pN X.K C f)(x:bb.length<1000)(t:dq y u)
  (h:∀s',aN X ah σ (aE H a<|.b7 C dx<|lN f y bb) s'->Q () s'):bP (bJ X.prog X.w) A (setAttr (.ref a) f u) Q E s:=by
 let#[j,L,r,i,W,k]:=Gz I.bL e
 let p:(bb.map (·.1)).length<=sizeLine:=by rw[hR,EE];lia
 show ZV I.fS L c.nv c.po n.taker c.hd i p λv d m=>h _ ?_
 let hd:∃o,v.get? dx=Y o:=let ⟨o,_,_,cG,_⟩:=d.ns;#[o,cG]
 show I.write (by rw[e];show kb) (.inr k) (λb q ae z=>(m.2 b ae).trans z) hd ?_
 show#[by rwa[aK L.ne],?_,L.ne,d.obj,_,d.ns,λg=>?_,λg l=>?_]
 .have:=RQ f y bb;lia
 .show la ((lN f y bb).lookup g) (if g=f then Y u else j g);rw[RP];by_cases q:g=f
  .rw[aR q,aR q];show t
  .rw[aM q,aM q];show r g
 .by_cases q:g=f
  .rw[q];show(KN f y bb).1
  .show(KN f y bb).2 g<|i g λz=>l ?_;show(if g=f then Y u else j g)=U;rwa[aM q]
def aN.made(I:aN X ah σ H s):aN X ah σ (aE (aE H s.heap.objs.size<|.own<|s.heap.objs.size+1) (s.heap.objs.size+1)<|.b7 C s.heap.objs.size [])
  {s with heap:=(s.heap.push qZ).push (q0 C s.heap.objs.size)}:=by
 let a:(s.heap.push qZ).get? s.heap.objs.size=Y qZ:=jO s.heap Z
 let d:((s.heap.push qZ).push<|q0 C s.heap.objs.size).get? (s.heap.objs.size+1)=Y (q0 C s.heap.objs.size):=by
  have:=jO (s.heap.push qZ) (o:=q0 C s.heap.objs.size) Z
  rwa [nX]at this
 let h:(s.heap.push qZ).Ns s.heap.objs.size (λw=>U):=#[qZ,[].toArray,_,a,Z,(λe g=>a8 g bg),λw=>rfl]
 show(I.oP (o:=.own<|s.heap.objs.size+1) (h':=s.heap.push qZ) (t':=s.toks) (λb u q=>fv _ q) (bK _) #[_,a]).oP (t':=s.toks) (λb u q=>fv _ q) (qY<|nX _ _) ?_
 let c:s.heap.objs.size≠s.heap.objs.size+1:=eg<|k2 _
 show#[by rw[aK c,bj],hQ _,c,d,λw=>U,(PZ h).at λo q=>fv _ q,λw=>kb,λy f=>a8 Z f]
def RU(ae:ug e f env (eval e env)=eval e env)
  (h:bP (bJ prog w) A (eval e env) (λo a=>bP (bJ prog w) A (BN o f O) Q E a) E s):bP (bJ prog w) A (eval (.Attribute e f pos) env) Q E s:=
 Attribute_any_ h (by rw[arm_eval_Attribute,ae])
end
inductive RV(K:b2)(f:Str)(Q:ck)(x:V)(H1:aw):Prop
 |mk (a) (C) (dx) (bb) (v) (_:x=.ref a) (_:H1 a=Y (.b7 C dx bb)) (_:ku K C) (_:pN K C f) (_:bb.lookup f=Y v) (_:Q v H1):RV K f Q x H1
def RW(K:b2)(a:TE)(f:Str):TE:=λb H Q=>a b H λx H1=>RV K f Q x H1
inductive RX(K:b2)(f:Str)(y:V)(D:nt)(σ:St)(x:V)(ay:aw):Prop
 |mk (a) (C) (dx) (bb) (_:x=.ref a) (_:ay a=Y (.b7 C dx bb)) (_:ku K C) (_:pN K C f) (_:bb.length<1000) (_:D.cM σ (aE ay a<|.b7 C dx<|lN f y bb)):RX K f y D σ x ay
def GA(K:b2)(b d:TE)(f:Str):hu:=λD a H=>d a H λy H1=>b a H1 λx c=>RX K f y D a x c
def KP(X:b9)(c:Operator)(bG:V->V->aw->ck->Prop):Prop:=
 ∀(a:List (ao×Obj)) (s:bl) (b:St) (H:aw) (x y:V) (u v:aB) (Q:ck),aN X a b H s->dq x u->dq y v->bG x y H Q->bP (bJ X.prog X.w) X.A (inplaceOp c u v) (lK X a b Q) X.er s
inductive RY(K:b2)(dd:TE)(bG:V->V->aw->ck->Prop)(f:Str)(D:nt)(σ:St)(x:V)(H1:aw):Prop
 |mk (a C dx bb v) (_:x=.ref a) (_:H1 a=Y (.b7 C dx bb)) (_:ku K C) (_:pN K C f) (_:bb.lookup f=Y v) (_:dd σ H1 λy ay=>bG v y ay λz bT=>∃KQ ww,bT a=Y (.b7 C KQ ww)/\ww.length<1000/\D.cM σ (aE bT a<|.b7 C KQ<|lN f z ww)):RY K dd bG f D σ x H1
def Z2(K:b2)(b c:TE)(bG:V->V->aw->ck->Prop)(f:Str):hu:=λD a H=>b a H λx H1=>RY K c bG f D a x H1
section
variable {X:b9}{o e value:Expr}{f:Str}{pos kq AA:Pos}{dc dd:TE}
def Z3(m:bS X e dc)(ae:ug e f X.env (eval e X.env)=eval e X.env):bS X (.Attribute e f pos) (RW X.K dc f):=by intro i s k H Q I h;show RU ae<|ct (m i s k H _ I h) λu r z=>?_;let#[x,H1,o,j,a,C,dx,bb,v,b,d,c,n,l,q]:=z;subst b;obtain rfl:u=e3 a:=j;show RR o d c n l λt w g p=>#[v,H1,g,p,q]
def KR(t:bS X o dc)(z:bS X value dd)(ai:rU value (Y<|.Attribute o f kq) pos.line X.env=pure J):kp X (.Assign [.Attribute o f kq] value pos) (GA X.K dc dd f):=by intro d s b H D I h;show On (ct (z d s b H _ I h) λu v #[y,H1,w,m,q]=>ct (t d v b H1 _ w q) λk A W=>?_) ai;let#[x,B,i,j,a,C,dx,bb,e,r,c,n,l,g]:=W;subst e;obtain rfl:k=e3 a:=j;show RT i r c n l m λE p=>#[b,_,p,g]
def uW(G:bS X o dc)(T:bS X value dd)(k:KP X op bG):kp X (.AugAssign (.Attribute o f AA) op value pos) (Z2 X.K dc dd bG f):=by intro d s b H D I h;show wpAny_AugAssign_AttributeAny<|ct (G d s b H _ I h) λp s1 h0=>?_;let#[x,H1,S,j,a,C,dx,bb,v,e,E,c,n,l,q]:=h0;subst e;obtain rfl:p=e3 a:=j;show RR S E c n l λu t i w=>ct (T d t b H1 _ i q) λm Q #[y,N,B,r,F]=>ct (k d Q b N v y u m _ B w r F) λnk V h0=>?_;let#[z,bT,L,A,KQ,W,M,R,P]:=h0;show RT L M c n R A λs5 g=>#[b,_,g,P]
inductive RZ(Q:ck)(x y:V)(H:aw):Prop
 |mk (i) (j) (_:x=.int i) (_:y=.int j) (_:Q (.int<|i+j) H):RZ Q x y H
def Z6:V->V->aw->ck->Prop:=λx y H Q=>RZ Q x y H
inductive R0(Q:ck)(x y:V)(H:aw):Prop
 |mk (i) (j) (_:x=.int i) (_:y=.int j) (_:Q (.int<|i-j) H):R0 Q x y H
def Z7:V->V->aw->ck->Prop:=λx y H Q=>R0 Q x y H
def yF:KP X .Add Z6:=by rintro d s e H x y u v Q I b c ⟨i,j,rfl,rfl,q⟩;let#[t,rfl]:=(show ∃t,u=s7 i t from b);let#[a,rfl]:=(show ∃a,v=s7 j a from c);show PQ #[.int<|i+j,H,I.tok _,#[9],q]
def R1:KP X .Sub Z7:=by rintro d s e H x y u v Q I b c ⟨i,j,rfl,rfl,q⟩;let#[t,rfl]:=(show ∃t,u=s7 i t from b);let#[a,rfl]:=(show ∃a,v=s7 j a from c);show PyProof.Rows.isub_int #[.int<|i-j,H,I.tok _,#[9],q]
end
section
variable {X:b9}{ah:List (ao×Obj)}{σ:St}{H:aw}{s:bl}{A:e0}{E:aB->bl->Prop}{Q:aB->bl->Prop}{c:aB}{b:Bool}
inductive qv(K:b2)(H:aw):V->aB->Prop where
 |bB:qv K H .bB (.type "NoneType")
 |cC (x:Bool):qv K H (.cC x) (.type "bool")
 |int (i:Int):qv K H (.int i) (.type "int")
 |str (x:Str):qv K H (.str x) (.type "str")
 |yo (x:UInt64):qv K H (.yo x) (.type "float")
 |bq {a:ao}{xs:List V}(e:H a=Y (.bq xs)):qv K H (.ref a) (.type "list")
 |fH {a:ao}{o:Obj}{xs:List V}(e:H a=Y (.fH o<|.bq xs)):qv K H (.ref a) (.type "list")
 |cu {a:ao}{xs:List V}(e:H a=Y (.cu xs)):qv K H (.ref a) (.type "tuple")
 |cY {a:ao}{av:List (Key×V)}(e:H a=Y (.cY av)):qv K H (.ref a) (.type "dict")
 |eE {a:ao}{av:List (List Key×V)}(e:H a=Y (.eE av)):qv K H (.ref a) (.type "dict")
 |b7 {a C dx:ao}{bb:List (Str×V)}(e:H a=Y (.b7 C dx bb)) (cl:ku K C) (ax:fJ K (.ref C) "__class__"=Y (Y<|.builtin "object.__class__"))
   (aJ:zH K (.builtin "object.__class__") "__get__"=Y (Y<|.builtin "getset_descriptor.__get__")) (n7:I0 K (.builtin "object.__class__")=Y O)
   (hm:I2 K C (.type "object")=Y O):qv K H (.ref a) (.ref C)
def Z8(I:aN X ah σ H s)(d:dq x u)(r:qv X.K H x t)(e:ET X.K t c=Y b)(h:∀a3,Q (.bool b) {s with toks:=a3}):
  bP (bJ X.prog X.w) A (ph (.builtin "isinstance") [u,c]) Q E s:=by
 cases r with
 |bB=>cases (show u=ka from d);show rX PySem.W.kitx_none I.fS kb e (λz=>nomatch z) h
 |cC y=>cases (show u=Fc y from d);show rX PySem.W.kitx_bool I.fS kb e (λz=>nomatch z) h
 |int i=>let#[t,q]:=(show ∃t,u=s7 i t from d);cases q;show rX PySem.W.kitx_int I.fS kb e (λz=>nomatch z) h
 |str y=>let#[t,q]:=(show ∃t,u=zP y t from d);cases q;show rX PySem.W.kitx_str I.fS kb e (λz=>nomatch z) h
 |yo y=>let#[t,q]:=(show ∃t,u=Jt y t from d);cases q;show rX PySem.W.kitx_float I.fS kb e (λz=>nomatch z) h
 |@bq a xs f=>cases (show u=e3 a from d);let#[V,V,n,V,g]:=(show ht X.prog X.w H s.heap a (.bq xs)from I.bL a _ f);show rX ON I.fS #[_,g,Z] e (λz=>nomatch z) h
 |@fH a ob xs f=>cases (show u=e3 a from d);let#[V,V,V,n,V,g]:=(show ht X.prog X.w H s.heap a (.fH ob<|.bq xs)from I.bL a _ f);show rX ON I.fS #[_,g,Z] e (λz=>nomatch z) h
 |@cu a xs f=>cases (show u=e3 a from d);let#[V,V,V,p]:=(show ht X.prog X.w H s.heap a (.cu xs)from I.bL a _ f);let#[o,g,j,V]:=p;show rX PySem.W.kitx_tuple I.fS #[o,g,j] e (λz=>nomatch z) h
 |@cY a av f=>cases (show u=e3 a from d);let#[V,V,ac,V,p]:=(show ht X.prog X.w H s.heap a (.cY av)from I.bL a _ f);let#[o,m,v,g,j,V]:=p;show rX OO I.fS #[o,g,j.1] e (λz=>nomatch z) h
 |@eE a av f=>cases (show u=e3 a from d);let#[V,V,xs,V,o,m,v,g,j,V]:=(show ht X.prog X.w H s.heap a (.eE av)from I.bL a _ f);show rX OO I.fS #[o,g,j.1] e (λz=>nomatch z) h
 |@b7 a C dx bb f cl l B k hm=>cases (show u=e3 a from d);let#[D,M,V]:=Gz I.bL f;let#[F,L,V]:=M.look;show rX (PySem.W.kitx_own (cl.get _) cl.hd l B k hm) I.fS L e (λz=>nomatch z) h
end
structure e5(k:Nat)(A:e0):Prop where
 hd:A.handled=U
 hF:A.depth+k+5<recursionLimit
 un:A.units+16*k+200<nT
def e5.cI(r:e5 k A)(h:j<=k):e5 j A:=#[r.hd,by have:=r.hF;lia,by have:=r.un;lia]
def e5.bH(r:e5 k A)(h:j<=k:=by first|decide|lia):e5 j A:=r.cI h
theorem e5.deeper{k:Nat}{A:e0}(r:e5 (k+1) A)(a:Env):e5 k (A.deeper a):=
 #[r.hd,by have:=r.hF;show A.depth+1+k+5<_;lia,by have:=r.un;show A.units+3+16*k+200<_;lia]
theorem e5.in1(r:e5 (k+1) A):e5 k A.in1:=
 #[r.hd,by have:=r.hF;show A.depth+k+5<_;lia,by have:=r.un;show A.units+1+16*k+200<_;lia]
def Z9{A:e0}:(A.under<|.builtin "type.__call__" #[.ref C::us,kw]).depth=A.depth+1:=by first|rfl|simp[JI,Code.weight,Code.isCreation,Code.isGuard,Code.isCaller,Code.frames,JJ,guardIds]
def aaa{A:e0}:(A.under<|.builtin "type.__call__" #[.ref C::us,kw]).units=A.units+1:=by first|rfl|simp[JI,Code.cUnits,Code.frames,JJ]
def e5.make(r:e5 (k+1) A)(C:ao)(us:List aB)(kw:List (Str×aB)):e5 k (A.under<|.builtin "type.__call__" #[.ref C::us,kw]):=
 #[r.hd,by have:=r.hF;rw[Z9];lia,by have:=r.un;rw[aaa];lia]
theorem e5.depth{k:Nat}{A:e0}(r:e5 k A):A.depth<recursionLimit:=by have:=r.hF;lia
theorem e5.units(r:e5 k A):A.units+64<nT:=by have:=r.un;lia
def kP:j2:=λq H Q=>Q [] H
def lk(b:TE)(fz:j2):j2:=λa H Q=>b a H λx H1=>fz a H1 λxs c=>Q (x::xs) c
section
variable {X:b9}{e:Expr}{es:List Expr}{eF:TE}{t:j2}{pos:Pos}
def nx:mf X [] kP:=λq q q q H Q I h=>zV #[[],H,I,.nil,h]
def fX(d:bS X e eF)(j:mf X es t)(ai:eN (e::es) X.env=(J,eval e X.env)::eN es X.env:=by rfl):mf X (e::es) (lk eF t):=by intro pos a s b H Q I h;rw[ai];show xV<|ct (d a s b H _ I h) λu f q=>?_;let#[x,H1,n,k,l]:=q;show ct (j pos a f b H1 _ n l) λo p #[xs,i,g,m,c]=>#[x::xs,i,g,.cons k m,c]
def aab(t:j2):TE:=λa H Q=>t a H λxs H1=>xs.length<=sizeLine/\∀p,H1 p=U->Q (.ref p) (aE H1 p<|.cu xs)
def aac(t:j2):TE:=λa H Q=>t a H λxs H1=>xs.length<=sizeLine/\∀p,H1 p=U->Q (.ref p) (aE H1 p<|.bq xs)
def ll(h:mf X es t):bS X (.Tuple es gr pos) (aab t):=by intro g s i H Q I f;show wpAny_Tuple_spliced (ct (h pos g s i H _ I f) λj a #[xs,H1,c,r,z,q]=>#[by rwa[<-r.length],?_]);let d:H1 a.heap.objs.size=none:=c.bL.fresh<|bK _;show#[.ref a.heap.objs.size,aE H1 a.heap.objs.size<|.cu xs,c.oP (t':=a.toks) (λb u e=>fv _ e) (bK _) ?_,Z,q _ d];show#[z,j,r,#[_,jO _ Z,Z,9]]
def oa(h:mf X es t):bS X (.List es pos) (aac t):=by intro g s i H Q I f;show wpAny_List_spliced (ct (h pos g s i H _ I f) λj a #[xs,H1,c,r,z,q]=>#[by rwa[<-r.length],?_]);let d:H1 a.heap.objs.size=none:=c.bL.fresh<|bK _;show#[.ref a.heap.objs.size,aE H1 a.heap.objs.size<|.bq xs,c.oP (t':=a.toks) (λb u e=>fv _ e) (bK _) ?_,Z,q _ d];show#[z,j,0,r,jO _ Z]
end
abbrev j4:=List V->aw->ck->dG->Prop
abbrev jl:=List Env->aw->bl->dG->aB->bl->Prop
structure sv(P:eZ)(w:dM)(K:b2)(aL:Str->Option aB)(base:df)(A:e0)(bc:List Env)(s:bl)(H:aw):Prop where
 frames:A.frames=Y bc
 mod:Mod K aL base
 bs:∀b o,base.get? b=Y o->s.heap.get? b=Y o/\H b=U
 qo:base.objs.size<=s.heap.objs.size
 oQ:s.heap.FunFrames base bc
 tp:∀b∈eT bc,H b=U
 bL:f8 P w H s.heap
 f9:s9 s.gens
inductive GB(bc:List Env)(P:eZ)(w:dM)(H:aw)(s:bl)(Q:ck)(u:aB)(s':bl):Prop
 |mk (v ab) (_:s'.os=s.os) (_:s9 s'.gens) (_:ia (eT bc) [] H ab s.heap s'.heap) (_:f8 P w ab s'.heap) (_:dq v u) (_:Q v ab):GB bc P w H s Q u s'
def tB(c9:jl)(bc:List Env)(P:eZ)(w:dM)(H:aw)(s:bl)(Q:ck)(E:dG)(r:Result)(s':bl):Prop:=
 match r with
 |.ok (.ret u)=>GB bc P w H s Q u s'
 |.ok _=>False
 |.error e=>c9 bc H s E e s'
structure ny(P:eZ)(w:dM)(K:b2)(aL:Str->Option aB)(base:df)(c9:jl)(k:Nat)(f:ao)(fd:oB)(ps:List Str)(sp:j4):Prop where
 len:∀ac H Q E,sp ac H Q E->ac.length=ps.length
 run:∀(A:e0) (bc:List Env) (s:bl) (H:aw) (args:Args) (us:List aB) (ac:List V) (Q:ck) (E:dG),e5 k A->sv P w K aL base A bc s H->zB s fd args (ps.zip us)->dA ac us->sp ac H Q E->
  pg (bJ P w) A (.call (.ref f) args) (tB c9 bc P w H s Q E) s
theorem ny.cI{w:dM}{K:b2}{aL:Str->Option aB}{base:df}{c9:jl}{j k:Nat}{f:ao}{fd:oB}{ps:List Str}{sp:j4}(F:ny P w K aL base c9 j f fd ps sp)(h:j<=k):
  ny P w K aL base c9 k f fd ps sp:=#[F.len,λA bc s H args b ac Q E a=>F.run A bc s H args b ac Q E<|a.cI h]
def ny.imp{w:dM}{K:b2}{aL:Str->Option aB}{base:df}{c9:jl}{k:Nat}{f:ao}{fd:oB}{ps:List Str}{sp GC:j4}(F:ny P w K aL base c9 k f fd ps sp)
  (h:∀ac H Q E,GC ac H Q E->sp ac H Q E):ny P w K aL base c9 k f fd ps GC:=
 #[λac H Q E q=>F.len ac H Q E<|h _ _ _ _ q,λA bc s H args b ac Q E a c ae d ai=>F.run A bc s H args b ac Q E a c ae d<|h _ _ _ _ ai]
def sv.make{w:dM}{K:b2}{aL:Str->Option aB}{base:df}{A:e0}{bc:List Env}{s:bl}{H:aw}(e:sv P w K aL base A bc s H)(C:ao)(us:List aB)(kw:List (Str×aB)):
  sv P w K aL base (A.under<|.builtin "type.__call__" #[.ref C::us,kw]) bc s H:=#[by first|show e.frames|(simpa [JI,Code.envs,JJ,pushEnvs] using e.frames),e.mod,e.bs,e.qo,e.oQ,e.tp,e.bL,e.f9]
theorem sv.in1{w:dM}{K:b2}{aL:Str->Option aB}{base:df}{A:e0}{bc:List Env}{s:bl}{H:aw}(e:sv P w K aL base A bc s H):
  sv P w K aL base A.in1 bc s H:=#[e.frames,e.mod,e.bs,e.qo,e.oQ,e.tp,e.bL,e.f9]
section
variable {X:b9}{ah:List (ao×Obj)}{σ:St}{H:aw}{s s':bl}
def aN.CT(I:aN X ah σ H s):sv X.prog X.w X.K X.aL X.base X.A X.stack s H:=
 #[I.ok.frames,I.ok.mod,I.bs,dK I.ok.qo I.jh,I.stack,I.Al,I.bL,I.f9]
def aN.after(I:aN X ah σ H s)(h:GB X.stack X.prog X.w H s Q u s'):lK X ah σ Q u s':=by let#[v,f,os,e,un,c,r,q]:=h;let#[b3,g,d,t,a]:=s';obtain rfl:a=s.os:=os;show#[v,f,I.call (h':=b3) (h9:=g) (kN:=d) (t':=t) un c e (λb z=>a8 z bg),r,q]
end
def Binds(K:b2)(fd:oB)(ps:List Str)(ds:List aB):Prop:=
 ∀(s:bl) (a:List aB),K.In s.heap->(a++ds).length=ps.length->zB s fd #[a,[]] (ps.zip<|a++ds)
def Binds.all{K:b2}(h:∀us:List aB,us.length=ps.length->bindArgs fd #[us,[]]=pure (ps.zip us)):Binds K fd ps []:=λs us q a=>by rw[uv]at a ⊢;show .of_eq<|h us a
def nz(c9:jl)(X:b9)(E:dG):Prop:=∀(b:List (ao×Obj)) (c:St) (H:aw) (s:bl) (e:aB) (a:bl),aN X b c H s->c9 X.stack H s E e a->X.er e a
section
variable {X:b9}{c9:jl}{k:Nat}{f C:ao}{fd:oB}{ps:List Str}{sp:j4}{AB:List V}{ds:List aB}{E:dG}{x m:Str}{p pos gH:Pos}{e o:Expr}{es:List Expr}{dc:TE}{t:j2}
def aae(F:ny X.prog X.w X.K X.aL X.base c9 k f fd ps sp)(i:e5 k X.A)(ae:Binds X.K fd ps ds)(c:dA AB ds)(j:nz c9 X E)
  (I:aN X ah σ H s) (r:dA ac us) (h:sp (ac++AB) H Q E):bP (bJ X.prog X.w) X.A (ph (.ref f) us) (lK X ah σ Q) X.er s:=by
 let b:=r.append c
 let g:(us++ds).length=ps.length:=by rw[<-b.length];show F.len _ _ _ _ h
 show zz<|xJ (F.run X.A X.stack s H #[us,[]] (us++ds) (ac++AB) Q E i I.CT (ae s us I.fS g) b h) λr d a=>?_
 cases r with
 |error e=>show j ah σ H s e d I a
 |ok jH=>
  cases jH with
  |ret u=>show I.after a
  |next=>show gY a
  |brk=>show gY a
  |cont=>show gY a
structure hk(K:b2)(C f:ao):Prop where
 makes:p7 K C=O
 init:fJ K (.ref C) "__init__"=Y (Y<|.ref f)
 fn:BU K (.ref f)=O
 dX:nV K (.ref C)=O
def aaf(M:hk X.K C f)(F:ny X.prog X.w X.K X.aL X.base c9 k f fd ps sp)(n:e5 (k+1) X.A)(ae:Binds X.K fd ps ds)(g:dA AB ds)
  (q:nz c9 X E) (I:aN X ah σ H s) (r:dA ac us)
  (h:∀x dx,H x=U->H dx=U->dx≠x->sp (.ref x::(ac++AB)) (aE (aE H dx<|.own x) x<|.b7 C dx []) (λv m=>v=.bB/\Q (.ref x) m) E):
  bP (bJ X.prog X.w) X.A (ph (.ref C) us) (lK X ah σ Q) X.er s:=by
 let c:=h (s.heap.objs.size+1) s.heap.objs.size (I.bL.fresh<|iT _) (I.bL.fresh<|bK _)<|eg<|k2 _
 let b:=aN.made (C:=C) I
 let d:dA (V.ref (s.heap.objs.size+1)::(ac++AB)) (e3 (s.heap.objs.size+1)::(us++ds)):=.cons Z<|r.append g
 let l:(e3 (s.heap.objs.size+1)::us++ds).length=ps.length:=by let e:=d.length;rw[F.len _ _ _ _ c]at e;show e.symm
 show zz (ZZ I.fS M.makes M.init (beq_iff_eq.mp M.fn) (xJ (F.run _ X.stack _ _ #[e3 (s.heap.objs.size+1)::us,[]] (e3 (s.heap.objs.size+1)::(us++ds)) _ _ E (n.make C us [])
  (b.CT.make C us []) (ae _ (e3 (s.heap.objs.size+1)::us) b.fS l) d c) λr i a=>?_))
 cases r with
 |error e=>show q ah σ _ _ e i b a
 |ok jH=>
  cases jH with
  |ret u=>let#[v,p,o,t,ev,j]:=b.after a;subst ev;show#[t,#[V.ref<|s.heap.objs.size+1,p,o,Z,j]]
  |next=>show gY a
  |brk=>show gY a
  |cont=>show gY a
end
structure rq(N P:List Str)(sc:iH):Prop where
 kind:sc.kind=.function
 co:sc.isCoroutine=J
 gen:sc.isGenerator=J
 aG:N.Nodup
 pre:N.take P.length=P
 par:∀x∈P,sc.names.lookup x=Y .local\/sc.names.lookup x=Y .cell
 aag:∀y∈sc.names,y.2≠.free
theorem R2{kindOf:Str->Option nS}{x:Str}:∀{binds:List (Str×aB)}{m:Str->Option aB},(∀v,(x,v)∉binds)->vJ kindOf binds m x=m x
 |[],_,_=>rfl
 |(n,v)::r,m,h=>by
  unfold vJ;rw[R2 λw a=>h w<|e9 _ a];split
  .have:x≠n:=by rintro rfl;show h v fD
   simp[this]
  .rfl
theorem R3{kindOf:Str->Option nS}{x:Str}:∀{binds:List (Str×aB)}{m:Str->Option aB},(∀v,(x,v)∉binds)->vK kindOf binds m x=m x
 |[],_,_=>rfl
 |(n,v)::r,m,h=>by
  unfold vK;rw[R3 λw a=>h w<|e9 _ a];split
  .rfl
  .have:x≠n:=by rintro rfl;show h v fD
   simp[this]
theorem R4{kindOf:Str->Option nS}:∀{P:List Str}{ac:List aB}{i:Nat}{m:Str->Option aB},P.Nodup->P[i]?=Y x->ac[i]?=Y v->kindOf x=Y .local->
  vJ kindOf (P.zip ac) m x=Y v
 |[],_,_,_,_,h,_,_=>by simp at h
 |_::_,[],_,_,_,_,h,_=>by simp at h
 |p::P,w::ac,0,m,c,b,a,d=>by simp at b a;subst b;subst a;show vJ kindOf ((p,w)::P.zip ac) m p=_;unfold vJ;rw[R2 λv e=>(l2.mp c).1 (Jl e).1,aR d];simp
 |p::P,w::ac,i+1,m,c,b,a,d=>by show vJ kindOf ((p,w)::P.zip ac) m x=_;unfold vJ;show R4 (i:=i) (l2.mp c).2 (by simpa using b) (by simpa using a) d
theorem R5{kindOf:Str->Option nS}:∀{P:List Str}{ac:List aB}{i:Nat}{m:Str->Option aB},P.Nodup->P[i]?=Y x->ac[i]?=Y v->kindOf x≠Y .local->
  vK kindOf (P.zip ac) m x=Y v
 |[],_,_,_,_,h,_,_=>by simp at h
 |_::_,[],_,_,_,_,h,_=>by simp at h
 |p::P,w::ac,0,m,c,b,a,d=>by simp at b a;subst b;subst a;show vK kindOf ((p,w)::P.zip ac) m p=_;unfold vK;rw[R3 λv e=>(l2.mp c).1 (Jl e).1,aM d];simp
 |p::P,w::ac,i+1,m,c,b,a,d=>by show vK kindOf ((p,w)::P.zip ac) m x=_;unfold vK;show R5 (i:=i) (l2.mp c).2 (by simpa using b) (by simpa using a) d
def start(N:List Str)(ac:List V):St:=ac.map Y++E4 (N.length-ac.length) U
noncomputable def hx(c9:jl)(P:eZ)(w:dM)(K:b2)(aL:Str->Option aB)(base:df)(N:List Str)(b:Str)(a:iH)(f:ao)(cd:aB)(A:e0)(bc:List Env)(s:bl)(H:aw)(E:dG):b9 where
 prog:=P
 w:=w
 K:=K
 aL:=aL
 base:=base
 A:=A.deeper<|oE b a s.heap.objs.size f cd
 N:=N
 eb:=s
 gS:=H
 env:=oE b a s.heap.objs.size f cd
 bc:=bc
 stack:=oE b a s.heap.objs.size f cd::bc
 ex:=[]
 tn:=O
 fn:=λq=>O
 f6:=[]
 er:=λe d=>bP (bJ P w) (A.deeper<|oE b a s.heap.objs.size f cd) («leaving» (oE b a s.heap.objs.size f cd) e) (λq c=>c9 bc H s E e c) (λg c=>c9 bc H s E g c) d
def R6{sc:iH}(h:sc.names.lookup x=Y .cell):∃c,(i7 n sc.names []).lookup x=Y c:=by let q:=OJ sc.names n []<|.inl h;show B3.mp q
def aah{c9:jl}{P:eZ}{w:dM}{K:b2}{aL:Str->Option aB}{base:df}{N ps:List Str}{g:Str}{d:iH}{f:ao}{cd:aB}{A:e0}{bc:List Env}{s s1:bl}{H:aw}{E:dG}{us:List aB}{ac:List V}
  (S:rq N ps d) (C:A.handled=U) (l:sv P w K aL base A bc s H) (G:ac.length=ps.length) (r:dA ac us)
  (x:InCallC s s.heap.objs.size (vJ (oE g d s.heap.objs.size f cd).kindOf (ps.zip us) λW=>U) (i7 (s.heap.objs.size+1) d.names []) (vK (oE g d s.heap.objs.size f cd).kindOf (ps.zip us) λW=>U) s1):
  aN (hx c9 P w K aL base N g d f cd A bc s H E) [] (start N ac) H s1:=by
 let I:ps.length<=N.length:=by have:=congrArg Jq S.pre;rw[mG]at this;lia
 let#[m,a3,rfl,o]:=x.done
 let n:∀b:ao,b∉(hx c9 P w K aL base N g d f cd A bc s H E).ex:=λb z=>a8 (show b∈([]:List ao)from z) bg
 show#[#[l.mod,S.kind,Z,Z,bK _,λy z c m j=>?_,λy dI=>?_,λy c W h=>?_,λW=>C,Around.frames_deeper l.frames,.inr #[Z,Z],λb z=>a8 z<|n b,l.bs,l.qo,λb W W=>n b,λb z=>a8 z<|n b,l.oQ,l.tp],
  rfl,l.f9,ia.kept o,#[_,x.toInCall.ns,λi y v m j L=>?_],λy c h=>#[_,x.cell y c h],l.bL.fresh (bK _),λy c h=>?_,λp aC=>a8 (show p∈([]:List (ao×Obj))from aC) bg,l.bL.kept o,?_]
 .show name_of_addr x.apart (oz m)<|oz j
 .let dI:=dI;obtain dI|dI:=dI
  .show R6 dI
  .show a8 Z<|S.aag _<|oz dI
 .show ul<|x.above y c<|oz h
 .let ak:i<ac.length:=by
   unfold start at j;by_cases ak:i<ac.length
   .show ak
   .rw[OW (by simpa using ak),List.getElem?_replicate]at j;split at j<;>cases j
  let F:ac[i]?=Y v:=by
   unfold start at j
   rw[vQ (by simpa using ak),r4]at j
   cases e:ac[i]? with
   |none=>rw[e]at j;cases j
   |some a=>rw[e]at j;cases j;rfl
  let#[u,t,D]:=r.get F;let aC:ps[i]?=Y y:=by rwa[<-S.pre,EW aV]
  let B:ps.Nodup:=by rw[<-S.pre];show S.aG.sublist<|List.take_sublist _ _
  show#[u,D,?_];obtain k|k:=S.par y (mF aC)
  .show .inl #[k,R4 B aC t k]
  .let#[c,e]:=R6 k;show .inr #[.inl k,c,e,?_];let q:=x.cell y c e;rwa[R5 B aC t (by show d.names.lookup y≠_;rw[k];decide)]at q
 .show l.bL.fresh<|ul<|x.above y c<|oz h
 .unfold start;show _=N.length;rw[ju,hR,List.length_replicate];lia
def R8{c9:jl}{P:eZ}{w:dM}{K:b2}{aL:Str->Option aB}{base:df}{k:Nat}{f:ao}{name c:Str}{params:Arguments}{body:List Stmt}{a:iH}{B ez j pm g G L:aB}{F dV:Option ao}
  {AC:Array (Option aB)}{N ps:List Str}{sp:j4}(eu:K.lookup f=Y #[L,dV,.func<|zI name c params body a B ez j pm F g G,AC]) (sj:I4 K g c=O) (S:rq N ps a)
  (len:∀ac H Q E,sp ac H Q E->ac.length=ps.length)
  (KW:∀(A:e0) (bc:List Env) (s:bl) (H:aw) (ac:List V) (Q:ck) (E:dG),e5 k (A.deeper<|oE c a s.heap.objs.size f g)->sp ac H Q E->
   ∃t,lh (hx c9 P w K aL base N c a f g A bc s H E) body t/\t {cM:=λ_ d=>Q .bB d,n9:=Q} (start N ac) H):
  ny P w K aL base c9 (k+1) f (zI name c params body a B ez j pm F g G) ps sp:=by
 show#[len,λA bc s H args X ac Q E m i ae r D=>?_]
 let R:=len _ _ _ _ D
 let C:K.In s.heap:=i.mod.CW.keeps λb o e=>(i.bs b o e).1
 let wr:s.heap.NoLimit:=i.mod.nolimit.keeps λb o e=>(i.bs b o e).1
 let p:∀y∈ps.zip X,a.names.lookup y.1=Y .local\/(a.names.lookup y.1=Y .cell/\((i7 (s.heap.objs.size+1) a.names []).lookup y.1).isSome=O):=λ#[n,v] dI=>by
  obtain q|q:=S.par n (Jl dI).1
  .show .inl q
  .show .inr #[q,OJ _ _ _<|.inl q]
 show codeAny_call_function m.depth (C _ _ eu) Z S.co S.gen Z (PySem.W.codeRec_of C sj)<|ae _ _ _ _ ?_
 show wpAny_newFunctionEnv_cells S.kind p λenv he s1 x=>?_
 subst he
 show#[wr.keeps x.toInCall.keep,codeAny_func ?_]
 let#[t,M,T]:=KW A bc s H ac Q E (m.deeper _) D
 let I:aN (hx c9 P w K aL base N c a f g A bc s H E) [] (start N ac) H s1:=aah S m.hd i R r x
 show nR (M [] s1 (start N ac) H _ I T) (λjH s' ai=>?_) λe s' ai=>ai
 let h:∀{l:St}{d:aw}{v:V}{u:aB},aN (hx c9 P w K aL base N c a f g A bc s H E) [] l d s'->dq v u->Q v d->GB bc P w H s Q u s':=
  λ{l d v u} J z q=>#[v,d,J.os,J.f9,J.base,J.bL,z,q]
 cases jH with
 |ret u=>let#[v,l,d,J,z,q]:=ai;show h J z q
 |next=>let#[l,d,J,q]:=ai;show h (v:=V.bB) (u:=ka) J Z q
 |brk=>let#[_,_,_,q]:=ai;show gY q
 |cont=>let#[_,_,_,q]:=ai;show gY q
section
variable {X:b9}{x:Str}{p pos:Pos}{e:Expr}{es:List Expr}{t:j2}{id T:String}{r:List V->aw->ck->Prop}
def R9(r:List V->aw->ck->Prop)(t:j2):TE:=λa H Q=>t a H λac H1=>r ac H1 Q
def j5(q:rp X (.builtin id) r)(c:pJ X x)(hm:X.aL x=U)(u:oA x=Y (.builtin id))(d:mf X (e::es) t)(n:x≠"__name__":=by decide)(o:(x==("__debug__":Str))=false:=by decide)
  (l:eN (e::es) X.env=(J,eval e X.env)::eN es X.env:=by rfl) (f:(jN pos<|eN es X.env).any (·.1)=false:=by rfl):bS X (.Call (.Name x p) (e::es) [] pos) (R9 r t):=by
 intro a s b H Q I h
 show Ox<|Ao I c hm u ?_ n o
 show PO (ct (d pos a s b H _ I h) λk g w=>by let#[ac,H1,m,i,j]:=w;show q a g b H1 ac k Q m i j) l f
def GD(q:rp X (.type T) r)(c:pJ X x)(hm:X.aL x=U)(u:oA x=Y (.type T))(d:mf X (e::es) t)(n:x≠"__name__":=by decide)(o:(x==("__debug__":Str))=false:=by decide)
  (l:eN (e::es) X.env=(J,eval e X.env)::eN es X.env:=by rfl) (f:(jN pos<|eN es X.env).any (·.1)=false:=by rfl):bS X (.Call (.Name x p) (e::es) [] pos) (R9 r t):=by
 intro a s b H Q I h
 show Ox<|Ao I c hm u ?_ n o
 show Fi (ct (d pos a s b H _ I h) λk g w=>by let#[ac,H1,m,i,j]:=w;show q a g b H1 ac k Q m i j) l f
end
end L2
namespace mX
open PySem PyProof.Rows
section
variable {prog:eZ}{w:dM}{A:e0}{E:aB->bl->Prop}{s:bl}
def oc(n d:Nat):Option Int->Nat
 |none=>d
 |some v=>if v<0 then (v+(n:Int)).toNat else min v.toNat n
def Sa(n d k:Nat):oc n d (Y (k:Int))=min k n:=by show(if (k:Int)<0 then ((k:Int)+(n:Int)).toNat else min (k:Int).toNat n)=min k n;rw[aM aV,Jy]
end
end mX
namespace L2
open PySem PySem.Spec PyProof.Rows
abbrev dO:=St->aw->(Option Int->aw->Prop)->Prop
def KX(X:b9)(e:Option Expr)(t:dO):Prop:=
 ∀(b:List (ao×Obj)) (s:bl) (a:St) (H:aw) (Q:Option Int->aw->Prop),aN X b a H s->t a H Q->
  bP (bJ X.prog X.w) X.A (evalPart e X.env) (λu d=>∃o c,aN X b a c d/\IsPart u o/\Q o c) X.er s
def aaj(t:TE):dO:=λa H Q=>t a H λx H1=>∃i,x=.int i/\Q (Y i) H1
section
variable {X:b9}{e:Expr}{eF:TE}{lo ak:Option Expr}{ft ip:dO}{pos eD:Pos}
def GE(h:bS X e eF):KX X (Y e) (aaj eF):=by intro b s d H Q I a;rw[evalPart_some];show ct (h b s d H _ I a) λu j w=>?_;let#[x,H1,g,c,f]:=w;let#[i,rfl,q]:=f;let#[t,rfl]:=c;show#[Y i,H1,g,.int i t,q]
def AD(X:b9)(r:V->Option Int->Option Int->aw->ck->Prop):Prop:=
 ∀(c:List (ao×Obj)) (s:bl) (e:St) (H:aw) (x:V) (v d b:aB) (lo ak:Option Int) (a:ao) (Q:ck),aN X c e H s->dq x v->s.heap.IsSliceOf a d b .none->IsPart d lo->IsPart b ak->r x lo ak H Q->
  ∃T id,IH (.type T) "__getitem__"=pure (Y<|.builtin id)/\s.TypeIs v T/\bP (bJ X.prog X.w) X.A (zC v<|.ref a) (lK X c e Q) X.er s
def AD.or(h:AD X r)(h':AD X bt):AD X (λx lo ak H Q=>r x lo ak H Q\/bt x lo ak H Q):=by
 intro c s e H x v g f lo ak a Q I d ai pl b q;obtain q|q:=q
 .show h c s e H x v g f lo ak a Q I d ai pl b q
 .show h' c s e H x v g f lo ak a Q I d ai pl b q
def aak(r:V->Option Int->Option Int->aw->ck->Prop)(eF:TE)(ft ip:dO):TE:=λa H Q=>eF a H λx H1=>ft a H1 λl b=>ip a b λu c=>r x l u c Q
def Sb(B:AD X r)(C:bS X e eF)(t:KX X lo ft)(F:KX X ak ip):bS X (.Subscript e (.Slice lo ak U eD) pos) (aak r eF ft ip):=by intro c s d H Q I h;show JD<|ct (C c s d H _ I h) λv z W=>?_;let#[x,H1,L,K,m]:=W;show wpAny_Slice<|ct (t c z d H1 _ L m) λg E #[l,A,k,pl,j]=>ct (F c E d A _ k j) λf a W=>?_;let#[u,i,p,y,G]:=W;rw[evalPart_none];show c0 ?_;let w:aN X c d i {a with heap:=a.heap.push {cls:=.type "slice",data:=.fields [g,f,.none].toArray}}:=p.kept (t':=a.toks) λb ob q=>fv _ q;let#[T,id,o,n,D]:=B c {a with heap:=a.heap.push {cls:=.type "slice",data:=.fields [g,f,.none].toArray}} d i x v g f l u a.heap.objs.size Q w K (Heap.IsSliceOf.new ..) pl y G;show tail_any n o D (by with_unfolding_all rfl)
def yG(xs:List V)(lo ak:Option Int):List V:=(xs.drop<|mX.oc xs.length 0 lo).take<|mX.oc xs.length xs.length ak-mX.oc xs.length 0 lo
def aal(xs:List V)(lo ak:Option Int):(yG xs lo ak).length<=xs.length:=by unfold yG;rw[mG,ho];lia
end
def AE(n:Nat)(i:Int):Option Nat:=if 0<=i then (if i<n then Y i.toNat else U)else if -(n:Int)<=i then Y (i+n).toNat else U
def uX{α:Type}(xs:List α)(i:Int):Option α:=(AE xs.length i).bind λj=>xs[j]?
def aam(h:AE n i=Y j):EK i n=Y j/\j<n/\-(n:Int)<=i/\i<n:=by
 unfold AE at h;by_cases b:0<=i
 .rw[aR b]at h;by_cases a:i<n
  .rw[aR a]at h;let e:=iX h;show#[by rw[seqIndex_of b a,e],aV,aV,a]
  .rw[aM a]at h;cases h
 .rw[aM b]at h;by_cases a:-(n:Int)<=i
  .rw[aR a]at h;let e:=iX h;show#[by rw[seqIndex_neg aV a,e],aV,a,aV]
  .rw[aM a]at h;cases h
def KY(h:uX xs i=Y v):∃j,EK i xs.length=Y j/\xs[j]?=Y v/\j<xs.length/\-(xs.length:Int)<=i/\i<xs.length:=by
 unfold uX at h
 cases e:AE xs.length i with
 |none=>rw[e]at h;cases h
 |some j=>rw[e]at h;let#[b,d,a,c]:=aam e;show#[j,b,h,d,a,c]
def qw{xs:List α}{j:Nat}{v:α}(h:xs[j]?=Y v):uX xs (j:Int)=Y v:=by
 let a:=(jP.mp h).1;let e:AE xs.length (j:Int)=Y j:=by unfold AE;rw[aR aV,aR aV];simp
 unfold uX;rwa[e]
def Sd(b:Expr):Prop:=∀o i,EF b J o i=operate [o,i] (zC o i)
def uY(X:b9)(r:dB):Prop:=
 ∀(value a:Expr) (b:List (ao×Obj)) (s:bl) (c:St) (H:aw) (x y:V) (v u:aB) (Q:ck),aN X b c H s->dq x v->dq y u->r x y H Q->
  EF a J v u=operate [v,u] (zC v u)->bP (bJ X.prog X.w) X.A (subscriptTail value a v u) (lK X b c Q) X.er s
def wN(X:b9)(id:String)(r:V->List V->aw->ck->Prop):Prop:=
 ∀(b:List (ao×Obj)) (s:bl) (c:St) (H:aw) (x:V) (xs:List V) (v:aB) (a:List aB) (Q:ck),aN X b c H s->dq x v->dA xs a->r x xs H Q->
  bP (bJ X.prog X.w) X.A (ph (.builtin id) (v::a)) (lK X b c Q) X.er s
section
variable {X:b9}{a b:Expr}{dc dv:TE}{pos:Pos}
def uY.or(h:uY X r)(h':uY X bt):uY X (λx y H Q=>r x y H Q\/bt x y H Q):=by
 intro value a b s d H x y v u Q I c e q ai;obtain q|q:=q
 .show h value a b s d H x y v u Q I c e q ai
 .show h' value a b s d H x y v u Q I c e q ai
def wN.or{id:String}{r f:V->List V->aw->ck->Prop}(h:wN X id r)(h':wN X id f):wN X id (λx xs H Q=>r x xs H Q\/f x xs H Q):=by
 intro b s d H x xs v e Q I c a q;obtain q|q:=q
 .show h b s d H x xs v e Q I c a q
 .show h' b s d H x xs v e Q I c a q
def aan(e:uY X r)(c:bS X a dc)(ae:bS X b dv)(ai:Sd b):bS X (.Subscript a b pos) (Av r dc dv):=by intro g s j H Q I h;show JD<|KB c ae I h λv u l x y d f i k q=>e a b g l j d x y v u Q f i k q<|ai _ _
inductive Se(K:b2)(Q:ck)(x y:V)(H:aw):Prop
 |mk (p) (xs) (i) (v) (_:x=.ref p) (_:y=.int i) (_:bM K H p xs) (_:uX xs i=Y v) (_:Q v H):Se K Q x y H
def Sf(K:b2):dB:=λx y H Q=>Se K Q x y H
inductive Sg(K:b2)(Q:ck)(x y:V)(H:aw):Prop
 |mk (p) (xs) (i) (v) (_:x=.ref p) (_:y=.int i) (_:gb K H p xs) (_:uX xs i=Y v) (_:Q v H):Sg K Q x y H
def Sh(K:b2):dB:=λx y H Q=>Sg K Q x y H
def Si:dB:=λx y H Q=>∃z i c,x=.str z/\y=.int i/\z.length<=sizeLine/\uX z.cps.toList i=Y c/\Q (.str #[[c].toArray]) H
def aao:uY X (Sf X.K):=by
 intro value c C s D H x y v u Q I l n h ai;let#[p,xs,i,z,rfl,rfl,B,E,q]:=h;cases l;let#[t,rfl]:=n;let#[g,r,pl,G]:=I.list B;let#[j,b,m,L,k,o]:=KY E;let#[w,f,F]:=r.get m;let A:=r.length;let M:=Gy;let a:lK X C D Q w s:=#[z,H,I,F,q];by_cases e:0<=i
 .let d:i.toNat=j:=by rw[seqIndex_of e o]at b;show iX b
  show item_listR pl.isList e aV (by rw[d];simpa using f) a ai
 .let d:(i+(g.toArray.size:Int)).toNat=j:=by rw[seqIndex_neg aV k]at b;rw[iU,<-A];show iX b
  show PP pl.isList.typeIs slot_list_getitem.lookup
   (wpAny_getItem_list_neg pl.isList aV (by rw[iU]<;>lia) aV (by rw[d];simpa using f) #[Z,a]) ai
def aap:uY X (Sh X.K):=by
 intro value a l s m H x y v u Q I c f h ai;let#[p,xs,i,z,rfl,rfl,k,n,q]:=h;cases c;let#[t,rfl]:=f;let#[A,r,pl,C]:=I.tuple k;let#[j,g,d,E,B,D]:=KY n;let#[w,e,o]:=r.get d;let F:=Gy;let b:lK X l m Q w s:=#[z,H,I,o,q];show PP pl.typeIs slot_tuple_getitem.lookup
  (getItem_tuple pl aV aV (by rwa[iU,<-r.length]) (by simpa using e) #[Z,b]) ai
def aaq:uY X Si:=by
 intro value a w s A H x y v u Q I f l h ai;let#[z,i,c,rfl,rfl,r,o,q]:=h;let#[t,rfl]:=f;let#[p,rfl]:=l;let#[j,b,g,B,e,m]:=KY o;let n:z.cps.toList.length=z.length:=by simp[Str.length]
 rw[n]at b e m;let C:=Gy;show tail_any (II s z t) slot_str_getitem.lookup (getItem_str (by let k:decide (i < -(2 ^ 63:Int))=false:=i9 aV;let d:decide (i>=2 ^ 63)=false:=i9 aV;rw[k,d,Ph]) (by rw[b];simpa using g) #[.str #[[c].toArray],H,I.tok _,#[9],q]) ai
def KZ(K:b2):dB:=λx y H Q=>Sf K x y H Q\/Sh K x y H Q\/Si x y H Q
def aar:uY X (KZ X.K):=aao.or<|aap.or aaq
theorem aN.bq(I:aN X ah σ H s)(h:H p=Y (.bq xs)):
  ∃(a:List aB) (n:Nat),dA xs a/\s.heap.get? p=Y {cls:=.type "list",data:=.seq a.toArray n}/\xs.length<=sizeLine:=by
 let#[z,a,n,r,e]:=I.bL p _ h
 show#[a,n,r,e,z]
def aas(lo ak:Option Int)(n:Nat):(xK lo ak U n).1=((mX.oc n 0 lo:Nat):Int)/\(xK lo ak U n).2.1=((mX.oc n n ak:Nat):Int)/\(xK lo ak U n).2.2=1:=by
 show#[?_,?_,Z]
 .cases lo with
  |none=>simp[xK,mX.oc]
  |some i=>
   simp only[xK,mX.oc,Pe,show(1:Int)>0 by decide,if_true];by_cases h:i<0
   .simp only[h,if_true]<;>lia
   .simp only[h,if_false]<;>lia
 .cases ak with
  |none=>simp[xK,mX.oc]
  |some i=>
   simp only[xK,mX.oc,Pe,show(1:Int)>0 by decide,if_true];by_cases h:i<0
   .simp only[h,if_true]<;>lia
   .simp only[h,if_false]<;>lia
def aat(a:List aB)(lo ak:Option Int):slicePick a.toArray lo ak U=((a.drop<|mX.oc a.length 0 lo).take<|mX.oc a.length a.length ak-mX.oc a.length 0 lo).toArray:=by let#[c,d,b]:=aas lo ak a.toArray.size;unfold slicePick;rw[c,d,b];simp only[sliceRange_one,pick_run,iU]<;>rfl
def aau(K:b2):V->Option Int->Option Int->aw->ck->Prop:=λx lo ak H Q=>∃a xs,x=.ref a/\bM K H a xs/\∀p,H p=U->Q (.ref p) (aE H p<|.bq<|yG xs lo ak)
def Sj:AD X (aau X.K):=by intro l s m H x v o n lo ak j Q I g ai pl f h;let#[a,xs,rfl,i,q]:=h;cases g;let#[k,r,c,e]:=I.list i;let d:=r.length;show#["list",_,slot_list_getitem.lookup,c.isList.typeIs,?_];show wpAny_getItem_list_slice c.isList ai pl f .none bg ?_ (by rw[iU]<;>lia);rw[aat,<-d];show#[.ref s.heap.objs.size,_,I.oP (t':=s.toks) (λb ob q=>fv _ q) (bK _) ?_,Z,q _<|I.bL.fresh<|bK _];show#[dK (aal xs lo ak) e,_,0,(r.drop<|mX.oc xs.length 0 lo).take<|mX.oc xs.length xs.length ak-mX.oc xs.length 0 lo,jO _ Z]
def wO:V->Bool
 |.bB=>O
 |.cC _=>O
 |.int _=>O
 |.str _=>O
 |_=>J
noncomputable def wP:V->V->Bool
 |.bB,.bB=>O
 |.cC a,.cC b=>a==b
 |.cC a,.int b=>(if a then 1 else 0)==b
 |.int a,.cC b=>a==(if b then 1 else 0)
 |.int a,.int b=>a==b
 |.str a,.str b=>a==b
 |_,_=>J
def aav(e:dq y u)(c:dq x v)(g:wO y=O)(f:wO x=O):SeqAt.EqAt A s u v (wP y x):=by
 cases y with
 |bB=>
  cases e
  cases x with
  |bB=>cases c;show SeqAt.EqAt.same _
  |cC b=>cases c;show SeqAt.EqAt.none_bool b
  |int b=>let#[t,rfl]:=c;show SeqAt.EqAt.none_int b t
  |str b=>let#[t,rfl]:=c;show SeqAt.EqAt.none_str b t
  |_=>show a8 (show J=O from f) jv
 |cC a=>
  cases e
  cases x with
  |bB=>cases c;show SeqAt.EqAt.bool_none a
  |cC b=>cases c;show SeqAt.EqAt.bool_bool a b
  |int b=>let#[t,rfl]:=c;show SeqAt.EqAt.bool_int a b t
  |str b=>let#[t,rfl]:=c;show SeqAt.EqAt.bool_str a b t
  |_=>show a8 (show J=O from f) jv
 |int a=>
  let#[d,rfl]:=e
  cases x with
  |bB=>cases c;show SeqAt.EqAt.int_none a d
  |cC b=>cases c;show SeqAt.EqAt.int_bool a d b
  |int b=>let#[t,rfl]:=c;show SeqAt.EqAt.int_int a d b t
  |str b=>let#[t,rfl]:=c;show PW a d b t
  |_=>show a8 (show J=O from f) jv
 |str a=>
  let#[d,rfl]:=e
  cases x with
  |bB=>cases c;show SeqAt.EqAt.str_none a d
  |cC b=>cases c;show SeqAt.EqAt.str_bool a d b
  |int b=>let#[t,rfl]:=c;show PX a d b t
  |str b=>let#[t,rfl]:=c;show SeqAt.EqAt.str_str a d b t
  |_=>show a8 (show J=O from f) jv
 |_=>show a8 (show J=O from g) jv
def uZ(x:V)(u:aB):Bool:=match u with
 |.none=>wP .bB x
 |.bool b=>wP (.cC b) x
 |.int i _=>wP (.int i) x
 |.str z _=>wP (.str z) x
 |_=>J
def Sk(r:dq y u)(f:wO y=O):uZ x u=wP y x:=by
 cases y with
 |bB=>cases r;rfl
 |cC b=>cases r;rfl
 |int i=>let#[t,rfl]:=r;rfl
 |str z=>let#[t,rfl]:=r;rfl
 |_=>show a8 (show J=O from f) jv
theorem K0:∀{xs:List V}{us:List aB},dA xs us->xs.all wO=O->us.any (uZ x)=xs.any λy=>wP y x
 |_,_,.nil,_=>rfl
 |y::xs,u::us,.cons r t,f=>by rw[Pc,vX]at f;rw[B0,B0,Sk r f.1,K0 t f.2]
theorem K1(b:dq x v)(a:wO x=O):∀{xs:List V}{us:List aB},dA xs us->xs.all wO=O->∀u∈us,SeqAt.EqAt A s u v (uZ x u)
 |_,_,.nil,_=>λu bY=>by cases bY
 |y::xs,u::us,.cons r t,f=>λc bY=>by
  rw[Pc,vX]at f;obtain rfl|bY:=eG.mp bY
  .rw[Sk r f.1];show aav r b f.1 a
  .show K1 b a t f.2 c bY
def Da(x:V)(xs:List V):Bool:=xs.any λy=>wP y x
def aaw(K:b2)(neg:Bool):dB:=λx y H Q=>∃p xs,y=.ref p/\(bM K H p xs\/gb K H p xs)/\wO x=O/\xs.all wO=O/\Q (.cC<|if neg then !Da x xs else Da x xs) H
def aax:ib X (lY .In) (aaw X.K J):=by
 intro g s i H x y v u Q I c e h;let#[p,xs,rfl,aS,d,bb,q]:=h;cases e;obtain aS|aS:=aS
 .let#[a,r,pl,f]:=I.list aS;show SeqAt.in_listAt (uZ x) pl.isList (λw b=>K1 c d r bb w<|by simpa using b) #[.cC _,H,I,Z,?_];rwa[show a.toArray.any (uZ x)=a.any (uZ x)by simp,K0 r bb]
 .let#[a,r,pl,f]:=I.tuple aS;show SeqAt.in_tupleAt (uZ x) pl (λw b=>K1 c d r bb w<|by simpa using b) #[.cC _,H,I,Z,?_];rwa[show a.toArray.any (uZ x)=a.any (uZ x)by simp,K0 r bb]
def mY:rp X (.builtin "len") (λxs H Q=>∃p ys,xs=[.ref p]/\(bM X.K H p ys\/gb X.K H p ys)/\Q (.int ys.length) H):=by
 intro f s g H xs i Q I r h;let#[p,ys,rfl,aS,q]:=h;let#[u,rfl,d]:=Ax r;cases d;let j:=Gy;obtain aS|aS:=aS
 .let#[c,b,pl,e]:=I.list aS;let a:=b.length;show Calls.call_len_list pl.isList (by simp only[iU]<;>lia) #[.int ys.length,H,I.tok _,#[s.toks+1,by rw[iU,a]],q]
 .let#[c,b,pl,e]:=I.tuple aS;let a:=b.length;show len_tuple pl (by simp only[iU]<;>lia) #[.int ys.length,H,I.tok _,#[s.toks+1,by rw[iU,a]],q]
def rp.or(h:rp X f r)(h':rp X f bt):rp X f (λxs H Q=>r xs H Q\/bt xs H Q):=by
 intro c s d H xs b Q I a q;obtain q|q:=q
 .show h c s d H xs b Q I a q
 .show h' c s d H xs b Q I a q
def K2:rp X (.type "tuple") (λxs H Q=>∃p ys,xs=[.ref p]/\((bM X.K H p ys/\∀l,H l=U->Q (.ref l) (aE H l<|.cu ys))\/(gb X.K H p ys/\Q (.ref p) H))):=by
 intro i s j H xs x Q I r h;let#[p,ys,rfl,h]:=h;let#[u,rfl,n]:=Ax r;cases n;obtain⟨d,q⟩|⟨d,q⟩:=h
 .let#[c,f,pl,g]:=I.list d;let v:=f.length;show call_tuple_list pl.isList (λa t=>?_) (by simp only[iU]<;>lia);let k:aN X i j H {s with heap:=a}:=I.kept (t':=s.toks) t;let m:aN X i j (aE H a.objs.size<|.cu ys) {s with heap:=a.push {cls:=.type "tuple",data:=.seq c.toArray}}:=
   k.oP (t':=s.toks) (λb o e=>fv _ e) (bK _) (show ht X.prog X.w _ _ _ (.cu ys)from#[g,c,f,IsTup.new _ _])
  show#[.ref a.objs.size,_,m,Z,q _<|k.bL.fresh<|bK _]
 .let#[c,f,pl,g]:=I.tuple d;show call_tuple_same pl #[.ref p,H,I,Z,q]
def K3(K:b2)(T:String)(x:V)(H:aw):Prop:=match x with
 |.str _=>T="str"
 |.int _=>T="int"
 |.ref p=>(T="list"/\∃xs,bM K H p xs)\/(T="tuple"/\∃o,K.lookup p=Y o/\o.cls=.type "tuple"/\o.dict=U)\/
   (T="dict"/\((∃av,H p=Y (.cY av))\/∃av,H p=Y (.eE av)))\/(T="set"/\∃S n,H p=Y (.set S n))
 |_=>False
def Sl(I:aN X ah σ H s)(r:dq x v)(f:K3 X.K T x H):
  s.TypeIs v T/\∀a,v=.ref a->∃ob,s.heap.get? a=Y ob/\ob.dict=none:=by
 cases x with
 |str z=>let#[t,rfl]:=r;cases (show T="str" from f);show#[II s z t,λq e=>nomatch e]
 |int i=>let#[t,rfl]:=r;cases (show T="int" from f);show#[typeIs_int s i t,λq e=>nomatch e]
 |ref p=>
  cases r;obtain⟨rfl,xs,j⟩|⟨rfl,o,b,k,g⟩|⟨rfl,b⟩|⟨rfl,S,n,b⟩:=f
  .let#[l,q,pl,q]:=I.list j;show#[pl.isList.typeIs,λa e=>?_];cases e;let#[o,n,e,c,g,q]:=pl;show#[o,e,g]
  .show#[#[o,I.fS p o b,k],λa e=>?_];cases e;show#[o,I.fS _ o b,g]
  .let z:∃o,s.heap.get? p=Y o/\o.ExactDict:=by
    obtain⟨av,b⟩|⟨av,b⟩:=b
    .let#[q,q,q,q,o,q,q,e,d,q]:=I.bL p _ b;show#[o,e,d]
    .let#[q,q,q,q,o,q,q,e,d,q]:=I.bL p _ b;show#[o,e,d]
   let#[o,e,d]:=z;show#[#[o,e,d.1],λa h=>?_];cases h;show#[o,e,d.2.1]
  .let#[o,q,q,q,e,d,q]:=I.bL p _ b;show#[#[o,e,d.1],λa h=>?_];cases h;show#[o,e,d.2.1]
 |_=>show gY f
def aay(K:b2)(T:String)(r:V->List V->aw->ck->Prop)(to:TE):TE:=λa H Q=>to a H λx H1=>K3 K T x H1/\r x [] H1 Q
def Sm(K:b2)(T:String)(r:V->List V->aw->ck->Prop)(to:TE)(t:j2):TE:=λa H Q=>to a H λx H1=>K3 K T x H1/\t a H1 λxs b=>r x xs b Q
variable {o e:Expr}{es:List Expr}{to:TE}{t:j2}{name:Str}{gH iq:Pos}{T id:String}{r:V->List V->aw->ck->Prop}
def Sn(q:IJ T)(a:Slot T name id)(n:zE (.builtin id)=pure (.type "method_descriptor"))(hm:wN X id r)(p:bS X o to)
  (f:ug o name X.env (eval o X.env)=eval o X.env:=by rfl) (i:(gH.endLine==iq.line)=true:=by rfl):bS X (.Call (.Attribute o name gH) [] [] iq) (aay X.K T r to):=by
 intro c s d H Q I h
 show wpAny_Call_method0_late f i<|ct (p c s d H _ I h) λv g w=>?_;let#[x,H1,e,b,j,k]:=w
 let#[m,l]:=Sl e b j
 show#[T,id,q,a,n,m,l,zU Z<|PySem.evalArgs_none<|hm c g d H1 x [] v [] Q e b .nil k]
def iP(F:IJ T)(a:Slot T name id)(D:zE (.builtin id)=pure (.type "method_descriptor"))(hm:wN X id r)(y:bS X o to)(w:mf X (e::es) t)
  (E:ug o name X.env (eval o X.env)=eval o X.env:=by rfl)
  (b:((jN iq<|eN (e::es) X.env).all (λx=>!x.1)&&(rV iq<|rT [] X.env).all (λx=>x.1.isSome)
   && decide ((e::es).length+([]:List zD).length+(if ([]:List zD).isEmpty then 0 else 1)<30))=true:=by rfl)
  (l:(gH.endLine==iq.line)=true:=by rfl) (ai:eN (e::es) X.env=(J,eval e X.env)::eN es X.env:=by rfl) (c:(jN iq<|eN es X.env).any (·.1)=false:=by rfl):
  bS X (.Call (.Attribute o name gH) (e::es) [] iq) (Sm X.K T r to t):=by
 intro d s f H Q I h
 show wpAny_Call_method_late E b l Z<|ct (y d s f H _ I h) λv z W=>?_;let#[x,H1,i,g,B,n]:=W
 let#[u,m]:=Sl i g B
 show#[T,id,F,a,D,u,m,?_]
 let Db:=w iq d z f H1 _ i n
 rw[ai]at Db ⊢
 show zU (by show(J||(jN iq<|eN es X.env).any (·.1))=J;rw[c]<;>rfl)<|Cb ?_
 show ct Db λC q #[ac,A,k,p,j]=>hm d q f A x ac v C Q k g p j
end
def GF(X:b9)(id:String)(r:V->List V->aw->ck->Prop):Prop:=
 ∀(b:List (ao×Obj)) (s:bl) (c:St) (H:aw) (x:V) (xs:List V) (v:aB) (a:List aB) (Q:ck),aN X b c H s->dq x v->dA xs a->r x xs H Q->
  bP (bJ X.prog X.w) X.A (ph (.builtin id) (v::a)) (lK X b c Q) X.er s
def dA.one:∀{x:V}{us:List aB},dA [x] us->∃u,us=[u]/\dq x u:=by
 intro x us h
 cases h with
 |cons r t=>cases t;show#[9,r]
def dA.two:∀{x y:V}{us:List aB},dA [x,y] us->∃u v,us=[u,v]/\dq x u/\dq y v:=by
 intro x y us h
 cases h with
 |cons r t=>cases t with
  |cons q t=>cases t;show#[_,9,r,q]
def dA.zero:∀{us:List aB},dA [] us->us=[]
 |_,.nil=>rfl
theorem dA.dropLast(h:dA xs us):dA xs.dropLast us.dropLast:=by
 induction h with
 |nil=>show .nil
 |cons r t a=>
  cases t with
  |nil=>show .nil
  |cons q b=>show .cons r a
theorem dA.eraseIdx:∀{xs:List V}{us:List aB}(i:Nat),dA xs us->dA (xs.eraseIdx i) (us.eraseIdx i)
 |_,_,_,.nil=>.nil
 |_,_,0,.cons _ t=>t
 |_,_,i+1,.cons r t=>.cons r<|dA.eraseIdx i t
def aaB(l:List α):l.eraseIdx (l.length-1)=l.dropLast:=by
 induction l with
 |nil=>rfl
 |cons a r c=>
  cases r with
  |nil=>rfl
  |cons b r=>
   let e:(a::b::r).length-1=((b::r).length-1)+1:=by let d:(a::b::r).length=r.length+2:=rfl;let f:(b::r).length=r.length+1:=rfl;lia
   rw[e,List.eraseIdx_cons_succ,c];all_goals rfl
theorem So:∀(l:List α) (i:Nat),(l.eraseIdx i).length<=l.length
 |[],_=>bK _
 |_::_,0=>iT _
 |_::r,i+1=>IN<|So r i
section
variable {X:b9}{ah:List (ao×Obj)}{σ:St}{H:aw}{s:bl}{l b:ao}{xs ys zs:List V}
def aN.GG{a sk:List aB}{n:Nat}{f:Array aB->Array aB}{t':Nat}(I:aN X ah σ H s)(c:H l=Y (.bq xs))
  (e:s.heap.get? l=Y {cls:=.type "list",data:=.seq a.toArray n}) (b:f a.toArray=sk.toArray) (h:dA ys sk) (g:ys.length<=sizeLine):
  aN X ah σ (aE H l<|.bq ys) {s with heap:=s.heap.update l<|Obj.mapSeq f,toks:=t'}:=by
 let q:=PySem.IsL.update e f
 rw[b]at q
 show I.write (by rw[c];show trivial) (.inl Z) (λi u ae d=>(r1 s.heap (Obj.mapSeq f)<|c5 ae).trans d) #[_,q] ?_
 show#[g,sk,_,h,q]
def aN.aaC(I:aN X ah σ H s)(b:dA ys e)(a:ys.length<=sizeLine):
  aN X ah σ (aE H s.heap.objs.size<|.bq ys) {s with heap:=s.heap.push {cls:=.type "list",data:=.seq e.toArray},toks:=t'}:=
 I.oP (λw w q=>fv _ q) (bK _) #[a,e,0,b,jO _ Z]
theorem aN.fresh(I:aN X ah σ H s):H s.heap.objs.size=none:=I.bL.fresh<|bK _
def aN.yJ(I:aN X ah σ H s)(b:H l=Y (.bq xs)):xs.length<=sizeLine/\∃(a:List aB) (n:Nat),dA xs a/\xs.length=a.length/\s.heap.get? l=Y {cls:=.type "list",data:=.seq a.toArray n}:=by let#[z,a,n,r,e]:=I.bL l _ b;show#[z,a,n,r,r.length,e]
def aaD(h:n<=sizeLine):PU n=false:=by show i9 aV
end
section
variable {X:b9}
inductive Sp(Q:ck)(x:V)(ac:List V)(H:aw):Prop
 |mk (l) (xs) (y) (_:x=.ref l) (_:ac=[y]) (_:H l=Y (.bq xs)) (_:xs.length<sizeLine) (_:Q .bB (aE H l<|.bq<|xs++[y])):Sp Q x ac H
def Sq:V->List V->aw->ck->Prop:=λx ac H Q=>Sp Q x ac H
def jm:GF X "list.append" Sq:=by intro i s j H x ac v k Q I c f h;let#[l,xs,y,rfl,rfl,b,m,q]:=h;cases c;let#[u,rfl,d]:=f.one;let#[z,a,n,r,g,e]:=I.yJ b;show EI PG #[_,e,Z] F.entry_list_append (F.args_list_append_2 _ _) (PySem.list_append l a.toArray n u (by rw[iU];lia)) #[e,?_];show#[.bB,_,I.GG (sk:=a++[u]) b e bg (r.append<|.cons d .nil) ?_,Z,q];rw[ju,List.length_singleton];lia
def aaE:V->List V->aw->ck->Prop:=λx ac H Q=>∃l b xs a,x=.ref l/\ac=[.ref b]/\H l=Y (.bq xs)/\H b=Y (.bq a)/\xs.length+a.length<=sizeLine/\Q .bB (aE H l<|.bq<|xs++a)
def aaF:GF X "list.extend" aaE:=by
 intro B s C H x ac v D Q I j o h;let#[l,b,xs,w,rfl,rfl,g,pG,y,q]:=h;cases j;let#[u,rfl,m]:=o.one;cases m;let#[z,a,n,r,A,e]:=I.yJ g;let#[t,c,p,k,E,i]:=I.yJ pG;let f:a.toArray.size+c.toArray.size<=sizeLine:=by rw[iU,iU];lia
 let d:¬ (!a.toArray.isEmpty&&PU (a.toArray.size+c.toArray.size))=true:=by rw[aaD f,Bool.and_false];show jv
 show EI PH #[_,e,Z] F.entry_list_extend (F.args_list_extend_2 _ _)
  (AutoSeq1.list_extend_list_list_0 l a.toArray n b c.toArray p d (by rw[iU];lia) aV) #[e,i,?_]
 show#[.bB,_,I.GG (sk:=a++c) g e bg (r.append k) ?_,Z,q];rw[ju];lia
inductive Sr(Q:ck)(x:V)(ac:List V)(H:aw):Prop
 |mk (l) (xs) (y) (_:x=.ref l) (_:ac=[]) (_:H l=Y (.bq xs)) (_:xs[xs.length-1]?=Y y) (_:Q y (aE H l<|.bq xs.dropLast)):Sr Q x ac H
def aaH:V->List V->aw->ck->Prop:=λx ac H Q=>Sr Q x ac H
def Ss:GF X "list.pop" aaH:=by
 intro o s p H x ac v t Q I i m h;let#[l,xs,y,rfl,rfl,d,g,q]:=h;cases i;let c:=m.zero;subst c;let#[z,a,n,r,f,e]:=I.yJ d;let#[u,k,j]:=r.get g;let b:a.toArray[a.toArray.size-1]?=Y u:=by show a.toArray[a.length-1]?=Y u;rwa[<-Ju,<-f]
 show EI Cf #[_,e,Z] PL (F.args_list_pop_1 _) (MeetsSeq.list_pop_last l a.toArray n u b (by rw[iU];lia)) #[e,?_];show#[y,_,I.GG (sk:=a.dropLast) d e ?_ r.dropLast ?_,j,q]
 .show a.toArray.eraseIdxIfInBounds (a.toArray.size-1)=a.dropLast.toArray;rw[iU,OV,aaB]
 .rw[List.length_dropLast];lia
def aaK:V->List V->aw->ck->Prop:=λx ac H Q=>∃l xs i k y,x=.ref l/\ac=[.int i]/\H l=Y (.bq xs)/\-(2 ^ 63)<=i/\i<2 ^ 63/\EK i xs.length=Y k/\xs[k]?=Y y/\Q y (aE H l<|.bq<|xs.eraseIdx k)
def aaL:GF X "list.pop" aaK:=by
 intro C s D H x ac v E Q I f o h;let#[l,xs,i,k,y,rfl,rfl,b,m,g,c,d,q]:=h;cases f;let#[u,rfl,j]:=o.one;let#[t,rfl]:=j;let#[z,a,n,r,A,e]:=I.yJ b;let#[w,p,B]:=r.get d;show EI Cf #[_,e,Z] PL (F.args_list_pop_2 _ _)
  (MeetsSeq.list_pop_at l a.toArray n i t k w (fitsIndex_both m g) (by rwa[iU,<-A]) (by rwa[<-Ju]) (by rw[iU];lia)) #[e,?_]
 show#[y,_,I.GG (sk:=a.eraseIdx k) b e ?_ (r.eraseIdx k) ?_,B,q]
 .show a.toArray.eraseIdxIfInBounds k=(a.eraseIdx k).toArray;rw[OV]
 .have:=So xs k;lia
inductive Su(Q:ck)(x y:V)(H:aw):Prop
 |mk (l) (b) (xs) (zs) (_:x=.ref l) (_:y=.ref b) (_:H l=Y (.bq xs)) (_:H b=Y (.bq zs)) (_:xs.length+zs.length<=sizeLine) (_:∀p,H p=U->Q (.ref p) (aE H p<|.bq<|xs++zs)):Su Q x y H
def aaM:dB:=λx y H Q=>Su Q x y H
def aaN:ib X (xM .Add) aaM:=by
 intro w s A H x y v u Q I g i h;let#[l,b,xs,o,rfl,rfl,f,pG,p,q]:=h;cases g;cases i;let#[z,a,n,r,t,e]:=I.yJ f;let#[m,c,C,j,B,d]:=I.yJ pG;show PySem.P.add_list e d ?_ (by rw[iU,iU];lia);let k:a.toArray++c.toArray=(a++c).toArray:=by simp
 show k▸#[.ref _,_,I.aaC (t':=s.toks) (r.append j) (by rw[ju];lia),Z,q _ I.fresh]
end
theorem dA.strs:∀{xs:List Str}{us:List aB},dA (xs.map V.str) us->StrsAre us xs
 |[],us,h=>by rw[B1]at h;cases h;show StrsAre.nil
 |x::xs,us,h=>by
  rw[mH]at h
  cases h with
  |cons r t=>let#[k,rfl]:=r;show StrsAre.cons x k<|dA.strs t
mutual
inductive pO(K:b2)(H:aw):V->vI->Prop
 |bB:pO K H .bB .none
 |cC (b:Bool):pO K H (.cC b) (.bool b)
 |int (i:Int):pO K H (.int i) (.int i)
 |str (x:Str):pO K H (.str x) (.str x)
 |bq {a:ao}{xs:List V}{ds:List vI}:bM K H a xs->AF K H xs ds->pO K H (.ref a) (.list ds)
 |cu {a:ao}{xs:List V}{ds:List vI}:gb K H a xs->AF K H xs ds->pO K H (.ref a) (.tuple ds)
inductive AF(K:b2)(H:aw):List V->List vI->Prop
 |nil:AF K H [] []
 |cons {v:V}{ac:List V}{d:vI}{ds:List vI}:pO K H v d->AF K H ac ds->AF K H (v::ac) (d::ds)
end
section
variable {X:b9}{ah:List (ao×Obj)}{σ:St}{H:aw}{s:bl}
mutual
theorem pO.reads(I:aN X ah σ H s):∀(d:vI) (v:V) (u:aB),pO X.K H v d->dq v u->∃as,Reads s.heap u d as
 |.none,_,_,h,r=>by cases h;cases r;show#[_,Reads.none]
 |.bool b,_,_,h,r=>by cases h;cases r;show#[_,Reads.bool b]
 |.int i,_,_,h,r=>by cases h;let#[t,rfl]:=r;show#[_,Reads.int i t]
 |.str x,_,_,h,r=>by cases h;let#[t,rfl]:=r;show#[_,Reads.str x t]
 |.list ds,_,_,h,r=>by
  cases h with
  |bq ai e=>cases r;let#[c,k,#[o,n,j,g,q,a],q]:=I.list ai;let#[as,f]:=pO.yK I ds _ c e k;show#[_,Reads.list j g a f]
 |.tuple ds,_,_,h,r=>by
  cases h with
  |cu ai e=>cases r;let#[c,k,#[o,j,g,n,a],q]:=I.tuple ai;let#[as,f]:=pO.yK I ds _ c e k;show#[_,Reads.tuple j g a f]
 |.dict _,_,_,h,_=>by cases h
theorem pO.yK(I:aN X ah σ H s):∀(ds:List vI) (ac:List V) (us:List aB),AF X.K H ac ds->dA ac us->∃as,ReadsAll s.heap us ds as
 |[],_,_,h,r=>by cases h;cases r;show#[_,ReadsAll.nil]
 |d::ds,_,_,h,r=>by
  cases h with
  |cons c f=>
   cases r with
   |cons e b=>let#[as,g]:=pO.reads I d _ _ c e;let#[bs,a]:=pO.yK I ds _ _ f b;show#[_,ReadsAll.cons g a]
end
end
abbrev Sv(h:df)(c:ao)(v:Option aB):Prop:=h.IsCell c v
def aaO(a sc:iH):iH:=
 {a with names:=a.names.map λ(n,k)=>if (k==.free&&sc.kind==.function&&sc.names.lookup n==Y .cell)then (n,.cell)else (n,k)}
noncomputable def jI(a:List (Str×ao)):List (Str×nS)->List (Str×ao)->List (Str×ao)
 |[],b=>b
 |(n,k)::r,b=>if k==.free then jI a r ((n,(a.lookup n).getD 0)::b)else jI a r b
theorem Sw(d:Env)(f:Str×nS->List (Str×ao)->Sem (ForInStep<|List<|Str×ao))
  (j:∀n k c,f (n,k) c=if k==.free then (do let a <-cellOf d n;pure (.yield ((n,a)::c)))else pure (.yield c)):
  ∀(b:List (Str×nS)) (cK:List (Str×ao)),(∀y∈b,y.2=.free->∃c,d.cells.lookup y.1=Y c)->forIn b cK f=pure (jI d.cells b cK)
 |[],cK,_=>by rw[BZ];rfl
 |(n,k)::r,cK,h=>by
  rw[E3,j];let i:=λcK=>Sw d f j r cK λy o=>h y<|e9 _ o;unfold jI;by_cases g:(k==Cj)=O
  .rw[aR g,aR g];let#[c,l]:=h (n,k) fD (by simpa using g);let e:cellOf d n=pure c:=by unfold cellOf;rw[l]
   rw[e];let m:(d.cells.lookup n).getD 0=c:=by rw[l];rfl
   show m▸(i _)
  .rw[aM g,aM g];show i _
def aaP(h:∀y∈e.names,y.2=.free->∃c,env.cells.lookup y.1=Y c):closureFor e env=pure (jI env.cells e.names []):=by simp only[closureFor];rw[Sw env _ (λn k c=>rfl) e.names [] h];rfl
theorem mem_lookup:∀{l:List (Str×α)}{n:Str}{c:α},(n,c)∈l->∃a,l.lookup n=Y a
 |(k,v)::r,n,c,h=>by
  rw[vU]
  cases ae:n==k with
  |true=>show#[9]
  |false=>
   obtain e|h:=eG.mp h
   .cases e;simp at ae
   .show mem_lookup h
theorem GH:∀{a:List (Str×nS)}{cK:List (Str×ao)}{n:Str}{c:ao},(n,c)∈jI cells a cK->(n,c)∈cK\/((n,.free)∈a/\c=(cells.lookup n).getD 0)
 |[],_,_,_,h=>.inl h
 |(m,k)::r,cK,n,c,h=>by
  unfold jI at h;split at h
  .rename_i b;let b:k=.free:=by simpa using b
   obtain h|⟨d,f⟩:=GH h
   .obtain e|h:=eG.mp h
    .cases e;show .inr #[b▸fD,Z]
    .show .inl h
   .show .inr #[e9 _ d,f]
  .obtain h|⟨d,f⟩:=GH h
   .show .inl h
   .show .inr #[e9 _ d,f]
theorem K4:∀{a:List (Str×nS)}{cK:List (Str×ao)}{p:Str×ao},p∈cK->p∈jI cells a cK
 |[],_,_,h=>h
 |(m,k)::r,cK,p,h=>by
  unfold jI;split
  .show K4<|e9 _ h
  .show K4 h
theorem K5:∀{a:List (Str×nS)}{cK:List (Str×ao)}{n:Str},(n,.free)∈a->(n,(cells.lookup n).getD 0)∈jI cells a cK
 |(m,k)::r,cK,n,h=>by
  unfold jI;obtain e|h:=eG.mp h
  .cases e;show K4 fD
  .split
   .show K5 h
   .show K5 h
theorem Dc:∀{a:List (Str×nS)}{h:df}{cK:List (Str×ao)}{x:Str}{c:ao},(x,c)∈i7 h.objs.size a cK->
  (x,c)∈cK\/((x,.cell)∈a/\h.objs.size<=c/\Sv (vD h a) c U)
 |[],_,_,_,_,h=>.inl h
 |(n,k)::r,h,cK,x,c,hm=>by
  unfold i7 at hm;unfold vD;split at hm
  .rename_i b;rw[aR b];let b:k=.cell:=by simpa using b
   rw[<-nX h {cls:=.type "cell",data:=.cell U}]at hm;obtain hm|⟨g,d,f⟩:=Dc hm
   .obtain e|hm:=eG.mp hm
    .cases e;show .inr #[b▸fD,bK _,_,EC r _ _ _<|jO _ Z,Z]
    .show .inl hm
   .rw[nX]at d;show .inr #[e9 _ g,rW d,f]
  .rename_i b;rw[aM b];obtain hm|⟨g,d,f⟩:=Dc hm
   .show .inl hm
   .show .inr #[e9 _ g,d,f]
theorem GI:∀{a:List (Str×nS)}{n:Nat}{cK:List (Str×ao)}{p:Str×ao},p∈cK->p∈i7 n a cK
 |[],_,_,_,h=>h
 |(m,k)::r,n,cK,p,h=>by
  unfold i7;split
  .show GI<|e9 _ h
  .show GI h
theorem K6:∀{a:List (Str×nS)}{n:Nat}{cK:List (Str×ao)}{x:Str},(x,.cell)∈a->∃c,(x,c)∈i7 n a cK
 |(m,k)::r,n,cK,x,h=>by
  unfold i7;obtain e|h:=eG.mp h
  .cases e;show#[n,GI fD]
  .split
   .show K6 h
   .show K6 h
theorem K7:∀{d:List (Str×nS)}{h:df}{cK:List (Str×ao)}{x y:Str}{c:ao},(∀p∈cK,p.2<h.objs.size)->(∀x y c,(x,c)∈cK->(y,c)∈cK->x=y)->
  (x,c)∈i7 h.objs.size d cK->(y,c)∈i7 h.objs.size d cK->x=y
 |[],_,_,_,_,_,_,ak,g,f=>ak _ _ _ g f
 |(n,k)::r,h,cK,x,y,c,i,ak,g,f=>by
  unfold i7 at g f;split at g
  .rename_i j;rw[aR j]at f;rw[<-nX h {cls:=.type "cell",data:=.cell U}]at g f;show K7 (λp aC=>?_) (λx y c a b=>?_) g f
   .rw[nX];obtain rfl|aC:=eG.mp aC
    .show k2 _
    .show pj<|i p aC
   .obtain e|a:=eG.mp a<;>obtain l|b:=eG.mp b
    .cases e;cases l;rfl
    .cases e;show a8 (i _ b)<|m8 _
    .cases l;show a8 (i _ a)<|m8 _
    .show ak _ _ _ a b
  .rename_i j;rw[aM j]at f;show K7 i ak g f
def aaQ{A:e0}{E:aB->bl->Prop}{s:bl}{b:iH}{globals:ao}{a:List (Str×ao)}{g:Str}{f:Option ao}{code:aB}{e:Env}{d:ao}{Q:Env->bl->Prop}
  (h:Q (newEnv b s.heap.objs.size globals (i7 (s.heap.objs.size+1) b.names a) g f code (Y e) d)
   {s with heap:=vD (s.heap.push {cls:=.type "dict",data:=.dict [].toArray}) b.names}):
  bP M A (newFunctionEnv b globals a [] g f code (Y e) d) Q E s:=by
 simp only[newFunctionEnv,Pd,if_true]
 show aY<|IE ?_
 show aY<|wpAny_layCells _ (λn k c=>rfl) b.names a _ _ ?_
 rw[show({s with heap:=s.heap.push {cls:=.type "dict",data:=.dict [].toArray}}:bl).heap.objs.size=s.heap.objs.size+1 from nX ..]
 rw[BZ]
 show aY<|c0<|c0 h
theorem K8{sc:iH}:∀{names:List (Str×nS)}{x:Str}{k:nS},
  (names.map λ(n,k)=>if (k==Cj&&sc.kind==.function&&sc.names.lookup n==Y .cell)then (n,PS)else (n,k)).lookup x=Y k->
  ∃e,names.lookup x=Y e/\(k=e\/(e=.free/\k=.cell))
 |[],_,_,h=>by simp at h
 |(n,d)::r,x,k,h=>by
  let f:=@K8 sc r x k
  let a:uw x ((if (d==Cj&&sc.kind==.function&&sc.names.lookup n==Y .cell)=O then (n,PS)else (n,d))::(r.map _))=Y k:=h
  cases c:x==n with
  |true=>
   simp only[vU,c];by_cases b:(d==Cj&&sc.kind==.function&&sc.names.lookup n==Y .cell)=O
   .rw[aR b]at a;simp only[vU,c]at a;cases a;simp only[vX,beq_iff_eq]at b;show#[d,Z,.inr #[b.1.1,Z]]
   .rw[aM b]at a;simp only[vU,c]at a;cases a;show#[9,.inl Z]
  |false=>
   simp only[vU,c];by_cases b:(d==Cj&&sc.kind==.function&&sc.names.lookup n==Y .cell)=O
   .rw[aR b]at a;simp only[vU,c]at a;show f a
   .rw[aM b]at a;simp only[vU,c]at a;show f a
structure wR(N:List Str)(sc scope:iH)(own:List (Str×Nat)):Prop where
 kind:scope.kind=.function
 uniq:∀y∈scope.names,scope.names.lookup y.1=Y y.2
 K9:∀p∈own,N[p.2]?=Y p.1
 free:∀y∈scope.names,y.2=.free->sc.names.lookup y.1=Y .cell\/sc.names.lookup y.1=Y .free
 own:∀y∈scope.names,y.2=.local\/y.2=.cell->y.1∈own.map (·.1)\/y.1∉N
def jJ(σ:St):List Nat->St
 |[]=>σ
 |v::ac=>(jJ σ ac).set v U
theorem La(σ:St):∀ac:List Nat,(jJ σ ac).length=σ.length
 |[]=>rfl
 |v::ac=>by unfold jJ;rw[k3,La σ ac]
theorem Lb:∀{ac:List Nat},(jJ σ ac)[i]?=Y (Y x)->σ[i]?=Y (Y x)/\i∉ac
 |[],h=>#[h,bg]
 |v::ac,h=>by
  unfold jJ at h;by_cases ak:v=i
  .subst ak;by_cases a:v<(jJ σ ac).length
   .rw[zL a]at h;cases h
   .rw[qa<|by simpa using a]at h;cases h
  .rw[zM ak]at h;let#[b,c]:=Lb h;show#[b,by simp only[eG,not_or];show#[λe=>ak e.symm,c]]
abbrev b9.i0(X:b9)(s:bl)(H:aw)(a:iH)(c:Env)(b:List ao):b9:={X with eb:=s,gS:=H,env:=c,bc:=X.stack,ex:=b,fn:=λx=>a.names.lookup x==Y .cell,f6:=[],er:=λq q=>False}
section
variable {X:b9}{ah:List (ao×Obj)}{σ:St}{H:aw}{s:bl}
def aaR{scope:iH}(I:aN X ah σ H s)(ok:wR X.N X.env.scope scope own)(T:X.N.Nodup)(v:∀b∈R,qr X ah H b/\b<s.heap.objs.size):
  aN (X.i0 s H scope (sY scope (i7 (s.heap.objs.size+1) scope.names<|jI X.env.cells scope.names []) s.heap.objs.size X.env) R) [] (jJ σ<|own.map (·.2)) H {s with heap:=vD (s.heap.push {cls:=.type "dict",data:=.dict [].toArray}) scope.names}:=by
 let uS:∀y∈scope.names,y.2=.free->∃c,X.env.cells.lookup y.1=Y c:=λy dI e=>by
  obtain k|k:=ok.free y dI e
  .show I.ok.has _<|.inl k
  .show I.ok.has _<|.inr k
 generalize A:sY scope (i7 (s.heap.objs.size+1) scope.names<|jI X.env.cells scope.names []) s.heap.objs.size X.env=f
 let F:∀b o,s.heap.get? b=Y o->(vD (s.heap.push {cls:=.type "dict",data:=.dict [].toArray}) scope.names).get? b=Y o:=λb o e=>EC _ _ _ _<|fv _ e
 let D:f.locals=s.heap.objs.size:=by rw[<-A];rfl
 let t:f.cells=i7 (s.heap.objs.size+1) scope.names (jI X.env.cells scope.names []):=by rw[<-A];rfl
 let G:f.scope=aaO scope X.env.scope:=by rw[<-A];rfl
 rw[<-nX s.heap {cls:=.type "dict",data:=.dict [].toArray}]at t
 let x:∀{y c},(y,c)∈jI X.env.cells scope.names []->X.env.cells.lookup y=Y c/\c<s.heap.objs.size:=λ{y c} hm=>by
  obtain hm|⟨d,rfl⟩:=GH hm
  .cases hm
  .let#[c,S]:=uS _ d Z;rw[S];let#[w,z]:=I.cell _ _ S;show#[Z,z.lt]
 let l:∀{y c},f.cells.lookup y=Y c->(X.env.cells.lookup y=Y c/\c<s.heap.objs.size)\/(s.heap.objs.size+1<=c/\Sv (vD (s.heap.push {cls:=.type "dict",data:=.dict [].toArray}) scope.names) c U):=λ{y c} e=>by
  rw[t]at e;obtain hm|⟨_,h,bO⟩:=Dc (oz e)
  .show .inl<|x hm
  .rw[nX]at h;show .inr #[h,bO]
 let look:∀{y},scope.names.lookup y=Y .free->∃c,f.cells.lookup y=Y c/\X.env.cells.lookup y=Y c:=λ{y} E=>by
  let dI:=oz E;let#[B,cG]:=mem_lookup<|GI<|K5 dI;rw[<-t]at cG;show#[B,cG,?_];rw[t]at cG;obtain hm|⟨d,_,_⟩:=Dc (oz cG)
  .show(x hm).1
  .have:=ok.uniq _ d;rw[E]at this;cases this
 let L:(X.i0 s H scope f R).Ok:=by
  show#[I.ok.mod,by rw[G];show ok.kind,by rw[<-A];show I.ok.sh,by rw[<-A];show I.ok.lJ,by rw[D];show bK _,
   λy z c j u=>?_,λy dI=>?_,λy c z e=>?_,I.ok.hd,I.ok.frames,.inl Z,λb ae=>#[?_,λy c e z=>?_],I.bs,dK I.ok.qo I.jh,λb o e ae=>?_,λb ae z=>?_,I.stack,I.Al]
  .let j:=j;rw[t]at j u;show K7 (λp aC=>?_) (λy z c a b=>I.ok.inj y z c (x a).1 (x b).1) (oz j)<|oz u;rw[nX];show pj (x aC).2
  .show ∃c,f.cells.lookup y=Y c;let g:∀k,f.kindOf y=Y k->(k=.cell\/k=.free)->∃c,f.cells.lookup y=Y c:=λk n P=>by
    unfold Env.kindOf at n;rw[G]at n;let#[jy,e,r]:=K8 n;have:jy=.cell\/jy=.free:=by
     obtain rfl|⟨rfl,_⟩:=r
     .show P
     .show .inr Z
    obtain rfl|rfl:=this
    .let#[c,hm]:=K6<|oz e;let#[B,cG]:=mem_lookup hm;show#[B,by rw[t];show cG]
    .let#[c,d,_]:=look e;show#[c,d]
   obtain dI|dI:=dI
   .show g _ dI<|.inl Z
   .show g _ dI<|.inr Z
  .let z:=z;let z:scope.names.lookup y=Y .cell:=by simpa using z
   rw[t]at e;obtain hm|⟨_,h,_⟩:=Dc (oz e)
   .obtain hm|⟨d,_⟩:=GH hm
    .cases hm
    .let q:=ok.uniq _ d;rw[z]at q;cases q
   .rw[nX]at h;show rW h
  .show b≠f.locals;rw[D];show eg (v b ae).2
  .let e:=e;obtain⟨d,_⟩|⟨d,_⟩:=l e
   .show(v b ae).1.2.2.2.2.1 y c d z
   .let h:s.heap.objs.size+1<=b:=by rwa[<-z]
    show a8 (eR (v b ae).2<|rW h)<|m8 _
  .obtain z|z:=(v b ae).1.2.2.2.1
   .show I.ok.yu b o e z
   .show a8 (eR (dF e)<|dK I.ok.qo z)<|m8 _
  .obtain z|z:=eG.mp (I.yw b z)
   .show(v b ae).1.2.1 z
   .show(v b ae).1.2.2.1 z
 show#[L,Z,I.f9,ia.kept F,#[λ_=>U,?_,λi y W j u bp=>?_],λy c e=>?_,?_,λy c e=>?_,λp aC=>?_,I.bL.kept F,by rw[La];show I.len]
 .show Heap.Ns _ f.locals _;show D▸(Heap.Ns.keeps (Heap.Ns.new ..) λb o e=>EC _ _ _ _ e)
 .let#[u,V]:=Lb u;let C:scope.names.lookup y=Y .free/\(f.kindOf y=Y .cell\/f.kindOf y=Y .free):=by
   let g:∀k,f.scope.names.lookup y=Y k->k=.local\/k=.cell\/k=.free->scope.names.lookup y=Y .free/\(f.kindOf y=Y .cell\/f.kindOf y=Y .free):=λk n P=>by
    let Q:=n;rw[G]at n;let#[jy,e,r]:=K8 n;let no:¬ (jy=.local\/jy=.cell):=λb3=>by
     obtain cG|cG:=ok.own _ (oz e) b3
     .let#[p,aC,K]:=s6.mp cG;let bp:=ok.K9 p aC;have:p.1=y:=K;rw[this]at bp;show V<|s6.mpr #[p,aC,Gd T bp j]
     .show cG<|mF j
    obtain rfl|⟨rfl,rfl⟩:=r
    .obtain rfl|rfl|rfl:=P
     .show a8 (.inl Z) no
     .show a8 (.inr Z) no
     .show#[e,.inr Q]
    .show#[e,.inl Q]
   obtain bp|bp|bp:=bp
   .show g _ bp<|.inl Z
   .show g _ bp<|.inr<|.inl Z
   .show g _ bp<|.inr<|.inr Z
  let#[m,aJ,E]:=I.loc;let M:CX X.env.scope y:=(ok.free _ (oz C.1) Z).elim (λk=>.inr<|.inl k) λk=>.inr<|.inr k;let#[w,r,q]:=E i y W j u M;show#[w,r,.inr #[C.2,?_]];let#[c,d,h]:=look C.1;obtain⟨k,_⟩|⟨_,B,cG,z⟩:=q
  .let k:X.env.scope.names.lookup y=Y .local:=k;obtain jy|jy:=ok.free _ (oz C.1) Z<;>rw[show X.env.scope.names.lookup y=_ from jy]at k<;>cases k
  .rw[h]at cG;cases cG;show#[c,d,z.keeps F]
 .let e:=e;obtain⟨d,_⟩|⟨_,z⟩:=l e
  .let#[w,z]:=I.cell y c d;show#[w,z.keeps F]
  .show#[_,z]
 .show H f.locals=U;rw[D];show I.bL.fresh<|bK _
 .let e:=e;obtain⟨d,_⟩|⟨d,_⟩:=l e
  .show I.mS y c d
  .show I.bL.fresh<|rW d
 .show a8 (show p∈([]:List (ao×Obj))++[]from aC) bg
def aaV(I:aN X ah σ H s)(a:H D=Y (.bq xs))(j:xs.length<sizeLine)(r:dq y v)
  (h:∀s',aN X ah σ (aE H D<|.bq<|xs++[y]) s'->Q .none s'):bP (bJ X.prog X.w) X.A (ph (.builtin "list.append") [.ref D,v]) Q E s:=by
 let#[l,f,n,d,e]:=I.bL D _ a
 let k:=d.length
 show append_at e λi g c=>?_
 show h {s with heap:=i} (I.write (t':=s.toks) (by rw[a];trivial) (.inl Z) (λb u ae q=>(g.2 b ae).trans q) #[_,c] #[by rwa[ju],f++[v],n+1,d.append<|.cons r .nil,?_])
 rw[c]
 simp
def Df(X:b9)(a:List Expr)(t:TT):Prop:=
 ∀(ah:List (ao×Obj)) (s:bl) (σ:St) (H:aw) (Q:Bool->aw->Prop),aN X ah σ H s->t σ H Q->
  bP (bJ X.prog X.w) X.A (forIn a O λc r=>if r=O then do let ok <-xO c X.env (eval c X.env);pure (Fn ok)else pure (Fn r)) (C0 X ah σ Q) X.er s
def GJ:TT:=λq H Q=>Q O H
def Ld:Df X [] GJ:=λq q q H q I h=>wpAny_tests_nil #[H,I,h]
def aaW(h:lg X c t):Df X [c] t:=λah s σ H Q I a=>wpAny_tests_one<|h ah s σ H Q I a
end
def Le(h:bP M A t Q (λq q=>False) s)(b:∀a s,Q a s->uT a s):bP M A t uT E s:=nR h b λq q z=>gY z
def aaX(I:Nat->bl->Prop)
  (b:∀n s,I n s->bP (bJ prog w) A (vH it) (λr f=>match r with
   |none=>R (.ok .next) f
   |some v=>bP (bJ prog w) A (IB target it v) (λz o=>bP (bJ prog w) A (BP target env v) (λz i=>
    bP (bJ prog w) A (forIn nC O λc r=>if r=O then do let ok <-xO c env (eval c env);pure (Fn ok)else pure (Fn r)) (λok d=>
     if ok=O then bP (bJ prog w) A (eval og env) (λx SB=>
      bP (bJ prog w) A (ph (.builtin "list.append") [cK,x]) (λz k=>∃m,m<n/\I m k) (qW (bJ prog w) A env λe s'=>R (.error e) s') SB) (qW (bJ prog w) A env λe s'=>R (.error e) s') d
     else ∃m,m<n/\I m d) (qW (bJ prog w) A env λe s'=>R (.error e) s') i) (qW (bJ prog w) A env λe s'=>R (.error e) s') o) (qW (bJ prog w) A env λe s'=>R (.error e) s') f) (qW (bJ prog w) A env λe s'=>R (.error e) s') s)
  (n:Nat) (h:I n s):
  pg (bJ prog w) A (.compLoop (.ListComp og [#[target,iter,nC,0]] scope pos) 0 it cK env) R s:=by
 show codeAny_loop Z I (λn s p=>?_) n h
 show wpAny_noted ?_
 rw[compTurn_list]
 show aY<|BI<|aY<|nR (b n s p) (λr f l=>?_) λz z a=>a
 cases r with
 |none=>show c0 l
 |some v=>
  show aY<|nR l (λz o g=>?_) λz z a=>a
  show aY<|nR g (λz i q=>aY<|nR q (λok d j=>?_) λz z a=>a) λz z a=>a
  cases ok with
  |false=>show c0 #[Z,j]
  |true=>show aY<|aY<|nR j (λx SB u=>aY<|nR u (λz k t=>c0<|c0 #[Z,t]) λz z a=>a) λz z a=>a
section
variable {X:b9}
def GK(n:TI)(g:mU)(tt:TT)(eF:TE)(ac:List Nat):TE:=λf H Q=>n f H λo H1=>∀D,H1 D=U->∃W:Nat->Nat->aw->Prop,(∃m,W 0 m (aE H1 D<|.bq []))/\∀i m H,W i m H->
 (o.stop i H/\Q (.ref D) H)\/(o.go i H/\∃c:aw->Prop,(∀a,c a->∃k,k<m/\W (i+1) k a)/\∀x a,o.tr i H x a->g x (jJ f ac) a λd l=>jJ d ac=jJ f ac/\tt d l λb h=>if b=O then eF d h λy j=>∃e,j D=Y (.bq e)/\e.length<sizeLine/\c (aE j D<|.bq<|e++[y])else c h)
def SE(c:env.scope.kind=.function)(e:env.scope.names.lookup y=Y .local)(d:(py.line==pos.line)=O)
  (b:(scope.names.any λ(n,k)=>n==y&&(k==.local||k==.cell))=J):rU (.ListComp og SF scope pos) (Y<|.Name y py) l env=pure true:=by
 let a:env.kindOf y=Y .local:=e
 let ae:env.blockKind=.function:=by unfold Env.blockKind;rw[c];rfl
 unfold rU
 simp only[ae,a,b,show(Expr.ListComp og SF scope pos).pos=pos from Z,show(Expr.Name y py).pos=py from Z,d]
 rfl
end
def SG{K:b2}{a:ao}{xs:List V}{g:mU}{tt:TT}{eF:TE}{ac:List Nat}{σ:St}{H1:aw}{D:ao}{n:aw->Prop}(Pv:Nat->aw->Prop)(s:Pv 0 (aE H1 D<|.bq []))(t:∀i H,i<=xs.length->Pv i H->bM K H a xs)
  (ai:∀i x H,xs[i]?=Y x->Pv i H->g x (jJ σ ac) H λd k=>jJ d ac=jJ σ ac/\tt d k λb h=>if b=O then eF d h λy f=>∃cK,f D=Y (.bq cK)/\cK.length<sizeLine/\Pv (i+1) (aE f D<|.bq<|cK++[y])else Pv (i+1) h) (o:∀H,Pv xs.length H->n H):
  ∃W:Nat->Nat->aw->Prop,(∃m,W 0 m (aE H1 D<|.bq []))/\∀i m H,W i m H->
   ((wG K a).stop i H/\n H)\/((wG K a).go i H/\∃j:aw->Prop,(∀c,j c->∃aO,aO<m/\W (i+1) aO c)/\∀x c,(wG K a).tr i H x c->g x (jJ σ ac) c λd k=>jJ d ac=jJ σ ac/\tt d k λb h=>if b=O then eF d h λy f=>∃cK,f D=Y (.bq cK)/\cK.length<sizeLine/\j (aE f D<|.bq<|cK++[y])else j h):=by
 show#[λi m H=>m=xs.length-i/\i<=xs.length/\Pv i H,#[xs.length,bg,hQ _,s],?_]
 rintro i m H ⟨rfl,ak,p⟩
 let q:=t i H ak p
 by_cases l:i<xs.length
 .show .inr #[#[xs,xs[i],q,by simp[l]],Pv<|i+1,λc r=>#[xs.length-(i+1),aV,Z,l,r],λx c y=>?_];let#[e,y]:=y;subst e;show ai i x _ (y xs q) p
 .let e:i=xs.length:=by lia
  subst e;show .inl #[#[xs,q,bK _],o H p]
section
variable {fs:Type}[DecidableEq fs]
noncomputable def ec(av:List (fs×V))(k:fs):Option V:=(av.find? λa=>decide<|a.1=k).map (·.2)
def gP(av:List (fs×V))(k:fs)(v:V):List (fs×V):=
 if (av.any λa=>decide<|a.1=k)=O then av.map (λa=>if a.1=k then (a.1,v)else a)else av++[(k,v)]
def nD(av:List (fs×V))(k:fs):List (fs×V):=av.filter λa=>decide<|a.1≠k
def ml{p:fs×V}{r:List (fs×V)}{k:fs}(e:p.1=k):ec (p::r) k=Y p.2:=by simp[ec,nY,e]
def iv{k:fs}(e:¬p.1=k):ec (p::r) k=ec r k:=by simp[ec,nY,e]
theorem wT(k:fs):∀av:List (fs×V),(av.any λa=>decide<|a.1=k)=(ec av k).isSome
 |[]=>rfl
 |p::r=>by
  rw[B0];by_cases e:p.1=k
  .simp only[ml e,gv e,Bool.true_or,Pd]
  .rw[iv e,i9 e,Bool.false_or];show wT k r
theorem SH(k j:fs)(y:V):∀av:List (fs×V),ec (av.map λa=>if a.1=k then (a.1,y)else a) j=(ec av j).map λx=>if j=k then y else x
 |[]=>rfl
 |p::r=>by
  let b:=SH k j y r;rw[mH];by_cases h:p.1=k
  .rw[aR h];by_cases e:p.1=j
   .rw[ml (p:=(p.1,y)) e,ml e,E8,aR<|e.symm.trans h]
   .rw[iv (p:=(p.1,y)) e,iv e,b]
  .rw[aM h];by_cases e:p.1=j
   .rw[ml e,ml e,E8,aM λz=>h<|e.trans z]
   .rw[iv e,iv e,b]
theorem SI(k j:fs)(y:V):∀av:List (fs×V),ec av k=U->ec (av++[(k,y)]) j=if j=k then Y y else ec av j
 |[],_=>by
  by_cases e:k=j
  .rw[aR e.symm];show ml (p:=(k,y)) e
  .rw[aM λz=>e z.symm];show iv (p:=(k,y)) e
 |p::r,a=>by
  rw[List.cons_append];let b:¬p.1=k:=λz=>by rw[ml z]at a;cases a
  rw[iv b]at a;let c:=SI k j y r a;by_cases e:p.1=j
  .rw[ml e,ml e,aM λz=>b<|e.trans z]
  .rw[iv e,iv e,c]
def SJ(av:List (fs×V))(k j:fs)(y:V):ec (gP av k y) j=if j=k then Y y else ec av j:=by
 unfold gP;by_cases a:(av.any λb=>decide<|b.1=k)=O
 .rw[aR a,SH];rw[wT]at a;by_cases e:j=k
  .let#[x,c]:=B3.mp a;rw[aR e,e,c,E8,aR Z]
  .rw[aM e]
   cases ec av j with
   |none=>rfl
   |some x=>rw[E8,aM e]
 .rw[aM a]
  show SI k j y av ?_
  rw[wT]at a
  cases q:ec av k with
  |none=>rfl
  |some x=>rw[q]at a;show(a Z).elim
def yL(av:List (fs×V))(k:fs)(v:V):(gP av k v).length<=av.length+1:=by
 unfold gP;split
 .rw[hR];lia
 .rw[ju,gi,Jm];lia
def SK{k:fs}(v:V)(h:ec av k=U):gP av k v=av++[(k,v)]:=by unfold gP;rw[wT,h];show aM cn
def la.yM(r:la o u):o.isSome=u.isSome:=by
 cases o with
 |none=>cases u with
  |none=>rfl
  |some _=>show(show False from r).elim
 |some _=>cases u with
  |none=>show(show False from r).elim
  |some _=>rfl
theorem la.getD(r:la o u)(bG:dq d kN):dq (o.getD d) (u.getD kN):=by
 cases o with
 |none=>cases u with
  |none=>show bG
  |some _=>show(show False from r).elim
 |some _=>cases u with
  |none=>show(show False from r).elim
  |some _=>show r
def jG.val(r:jG av ac)(k:fs):la (ec av k) (xN ac k):=by
 induction r with
 |nil=>show kb
 |@cons p q ps c h t f=>
  let#[d,g]:=h;by_cases e:p.1=k
  .let a:=d.symm.trans e;let b:xN (q::c) k=Y q.2:=by simp[xN,nY,a]
   rwa[ml e,b]
  .let a:¬q.1=k:=λz=>e<|d.trans z;let b:xN (q::c) k=xN c k:=by simp[xN,nY,a]
   rwa[iv e,b]
theorem jG.any(r:jG av ac)(k:fs):(av.any λa=>decide<|a.1=k)=ac.any λa=>decide<|a.1=k:=by
 induction r with
 |nil=>rfl
 |cons h t b=>rw[B0,B0,b,h.1]
def jG.Lg(r:jG av ac)(k:fs)(d:dq y u):
  jG (av.map λa=>if a.1=k then (a.1,y)else a) (ac.map λa=>if a.1=k then (a.1,u)else a):=by
 induction r with
 |nil=>show .nil
 |@cons p q ps g h t c=>
  rw[mH,mH];show .cons ?_ c;let#[b,f]:=h;by_cases e:p.1=k
  .rw[aR e,aR<|b.symm.trans e];show#[b,d]
  .rw[aM e,aM λz=>e<|b.trans z];show#[b,f]
def jG.put(r:jG av ac)(k:fs)(a:dq y u):jG (gP av k y) (stored ac k u):=by
 unfold gP stored;rw[r.any k];by_cases e:(ac.any λb=>decide<|b.1=k)=O
 .rw[aR e,aR e];show r.Lg k a
 .rw[aM e,aM e];show PR r #[Z,a]
def jG.drop(r:jG av ac)(k:fs):jG (nD av k) (without ac k):=by
 unfold nD without
 induction r with
 |nil=>show .nil
 |@cons p q ps i h t d=>
  let#[c,g]:=h;rw[pv,pv];by_cases e:p.1=k
  .let a:¬decide (p.1≠k)=true:=by simp[e]
   let b:¬decide (q.1≠k)=true:=by simp[c.symm.trans e]
   rwa[aM a,aM b]
  .let f:¬q.1=k:=λz=>e<|c.trans z;let a:decide (p.1≠k)=true:=by simp[e]
   let b:decide (q.1≠k)=true:=by simp[f]
   rw[aR a,aR b];show .cons #[c,g] d
theorem jG.length{av:List (fs×V)}{ac:List (fs×aB)}(r:jG av ac):av.length=ac.length:=zY r
def Lh(av:List (fs×V))(k:fs):(nD av k).length<=av.length:=Jc _ _
end
def rt(r:dq (ez k) u):(jF P w).is k u=true:=by
 cases k with
 |inl i=>let#[t,e]:=(show ∃t,u=s7 i t from r);subst e;show Zb P w i t
 |inr x=>let#[t,e]:=(show ∃t,u=zP x t from r);subst e;show Zc P w x t
theorem SL:∀{a:List Key}{us:List aB},dA (a.map ez) us->ItemsAre (jF P w) a us
 |[],_,r=>by rw[B1]at r;cases r;show .nil
 |k::a,_,r=>by
  rw[mH]at r
  cases r with
  |cons h t=>show .cons (rt h)<|SL t
abbrev KT(H:aw):List (List Key×V)->List (List Key×ao×aB)->Prop:=uk λp q=>p.1=q.1/\H q.2.1=Y (.cu<|p.1.map ez)/\dq p.2 q.2.2
def KT.val(r:KT H av xs)(k:List Key):la (ec av k) ((vL xs k).map (·.2)):=by
 induction r with
 |nil=>show kb
 |@cons p q ps c h t f=>
  let#[d,w,g]:=h;by_cases e:p.1=k
  .let a:=d.symm.trans e;let b:vL (q::c) k=Y q.2:=by simp[vL,nY,a]
   rwa[ml e,b]
  .let a:¬q.1=k:=λz=>e<|d.trans z;let b:vL (q::c) k=vL c k:=by simp[vL,nY,a]
   rwa[iv e,b]
def KT.Lg(r:KT H av xs)(k:List Key)(f:dq y u):
  KT H (av.map λb=>if b.1=k then (b.1,y)else b) (xs.map<|putAt k u):=by
 induction r with
 |nil=>show .nil
 |@cons p q ps i h t d=>
  rw[mH,mH];show .cons ?_ d;let#[a,c,g]:=h;unfold putAt;by_cases e:p.1=k
  .rw[aR e,aR<|a.symm.trans e];show#[a,c,f]
  .rw[aM e,aM λz=>e<|a.trans z];show#[a,c,g]
def KT.put(r:KT H av xs)(k:List Key)(ae:H b=Y (.cu<|k.map ez))(a:dq y u):
  KT H (gP av k y) (storedH xs k b u):=by
 let e:(av.any λc=>decide<|c.1=k)=(vL xs k).isSome:=by rw[wT,(r.val k).yM,E7]
 unfold gP storedH
 rw[e]
 by_cases q:(vL xs k).isSome=O
 .rw[aR q,aR q];show r.Lg k a
 .rw[aM q,aM q];show PR r #[Z,ae,a]
def KT.keeps{H a:aw}{av:List (List Key×V)}{xs:List (List Key×ao×aB)}(r:KT H av xs)(c:∀b ys,H b=Y (.cu ys)->a b=Y (.cu ys)):KT a av xs:=
 uk.Q8 r λq q z=>#[z.1,c _ _ z.2.1,z.2.2]
section
variable {P:eZ}{w:dM}{H:aw}{h:df}{a:ao}
def SM(ok:f8 P w H h)(e:qm H a u):ht P w H h a u:=e.ok ok
def yN(ok:f8 P w H h)(e:qm H a (.cY av)):av.length<=sizeLine/\(a==nQ)=J/\∃ac,jG av ac/\h.DictOf (jF P w) a ac:=
 show ht P w H h a (.cY av)from SM ok e
def Li(ok:f8 P w H h)(e:H a=Y (.cY av)):av.length<=sizeLine/\(a==nQ)=J/\∃ac,jG av ac/\h.DictOf (jF P w) a ac:=yN ok<|.inl e
def yO(ok:f8 P w H h)(e:H a=Y (.cu<|e7.map ez)):(xL<|jF P w).is h e7 a:=by let#[q,b,r,o,d,f,n,c]:=(show ht P w H h a (.cu<|e7.map ez)from ok a _ e);show#[o,b.toArray,n,d,f,c,by simpa using SL r]
def yP(ok:f8 P w H h)(e:qm H a (.eE av)):av.length<=sizeLine/\(a==nQ)=J/\
  ∃xs,KT H av xs/\h.DictOfH (xL<|jF P w) a xs:=by
 let#[z,y,xs,r,o,f,j,n,i,k,g,d]:=(show ht P w H h a (.eE av)from SM ok e)
 show#[z,y,xs,r,o,f,j,n,i,k,g,λx au=>?_,d]
 let all:∀{l:List (List Key×V)}{m:List (List Key×ao×aB)},KT H l m->∀x∈m,(xL<|jF P w).is h x.1 x.2.1:=by
  intro l m q
  induction q with
  |nil=>intro x au;show nomatch au
  |@cons p q ps s b t c=>
   intro x au;obtain e|au:=eG.mp au
   .subst e;show yO ok (by rw[<-b.1];show b.2.1)
   .show c x au
 show all r x au
def SN(ok:f8 P w H h)(e:H a=Y (.eE av)):av.length<=sizeLine/\(a==nQ)=J/\
  ∃xs,KT H av xs/\h.DictOfH (xL<|jF P w) a xs:=yP ok<|.inl e
end
def g4(H:aw)(a:ao)(y:V)(r:Option V):Prop:=
 (∃av k,qm H a (.cY av)/\y=ez k/\r=ec av k)\/∃av k b,qm H a (.eE av)/\y=.ref b/\H b=Y (.cu<|k.map ez)/\r=ec av k
def mm(H:aw)(a:ao)(y v:V)(c:aw):Prop:=
 (∃av k,H a=Y (.cY av)/\y=ez k/\av.length<sizeLine/\c=aE H a (.cY<|gP av k v))\/
 ∃av k b,H a=Y (.eE av)/\y=.ref b/\H b=Y (.cu<|k.map ez)/\av.length<sizeLine/\c=aE H a (.eE<|gP av k v)
def g4.k{H:aw}{a:ao}{av:List (Key×V)}{k:Key}(e:H a=Y (.cY av)):g4 H a (ez k) (ec av k):=.inl #[av,k,.inl e,Z,Z]
def g4.t{H:aw}{a b:ao}{av:List (List Key×V)}{k:List Key}(e:H a=Y (.eE av))(c:H b=Y (.cu<|k.map ez)):g4 H a (.ref b) (ec av k):=.inr #[av,k,b,.inl e,Z,c,Z]
def mm.k{H:aw}{a:ao}{av:List (Key×V)}{k:Key}{v:V}(e:H a=Y (.cY av))(b:av.length<sizeLine):mm H a (ez k) v (aE H a<|.cY<|gP av k v):=.inl #[av,k,e,Z,b,Z]
def mm.t{H:aw}{a b:ao}{av:List (List Key×V)}{k:List Key}{v:V}(e:H a=Y (.eE av))(c:H b=Y (.cu<|k.map ez))(d:av.length<sizeLine):
  mm H a (.ref b) v (aE H a<|.eE<|gP av k v):=.inr #[av,k,b,e,Z,c,d,Z]
section
variable {X:b9}{ah:List (ao×Obj)}{σ:St}{H:aw}{s:bl}{a:ao}{y v:V}{u r:aB}{o:Option V}{A:e0}{E:aB->bl->Prop}
def aN.big(I:aN X ah σ H s):nQ<s.heap.objs.size:=by let h:k0<s.heap.objs.size:=(I.mod.sh.keeps I.kn).lt;show nU cn h
def aaZ(t:A.units+1<nT)(I:aN X ah σ H s)(g:g4 H a y (Y v))(n:dq y u)(h:∀d s',aN X ah σ H s'->dq v d->Q d s'):
  bP (bJ X.prog X.w) A (zC (.ref a) u) Q E s:=by
 obtain⟨av,k,e,j,l⟩|⟨av,k,b,e,j,r,l⟩:=g
 .subst j;let#[z,o,ac,c,i]:=yN I.bL e;let#[d,f,m]:=la.Ay (by rw[l];show c.val k);show wpAny_getItem_of (rt n) i.mapOf f<|h d _ (I.tok _) m
 .subst j;cases (show u=e3 b from n);let#[z,o,xs,c,i]:=yP I.bL e;let#[d,f,m]:=la.Ay (v:=v) (by rw[l];show c.val k);let#[p,aC,q]:=iW.mp f;show wpAny_getItem_heap (BF t) (yO I.bL r) i aC ?_;show q▸(h d _ (I.tok _) m)
def aa0(n:A.units+1<nT)(I:aN X ah σ H s)(g:g4 H a y o)(j:dq y u)(h:∀s',aN X ah σ H s'->Q (.bool o.isSome) s'):
  bP (bJ X.prog X.w) A (lY .In u<|.ref a) Q E s:=by
 obtain⟨av,k,e,i,l⟩|⟨av,k,b,e,i,m,l⟩:=g
 .subst i;let#[z,d,ac,c,f]:=yN I.bL e;show wpAny_in_of (rt j) d f.mapOf ?_;rw[<- (c.val k).yM,<-l];show h _<|I.tok _
 .subst i;cases (show u=e3 b from j);let#[z,d,xs,c,f]:=yP I.bL e;show wpAny_in_heap (BF n) (yO I.bL m) d f ?_;let q:=(c.val k).yM;rw[E7]at q;rw[<-q,<-l];show h _<|I.tok _
def aa1(n:A.units+1<nT)(I:aN X ah σ H s)(g:g4 H a y o)(j:dq y u)(h:∀s',aN X ah σ H s'->Q (.bool<|!o.isSome) s'):
  bP (bJ X.prog X.w) A (lY .NotIn u<|.ref a) Q E s:=by
 obtain⟨av,k,e,i,l⟩|⟨av,k,b,e,i,m,l⟩:=g
 .subst i;let#[z,d,ac,c,f]:=yN I.bL e;show wpAny_notIn_of (rt j) d f.mapOf ?_;rw[<- (c.val k).yM,<-l];show h _<|I.tok _
 .subst i;cases (show u=e3 b from j);let#[z,d,xs,c,f]:=yP I.bL e;show wpAny_notIn_heap (BF n) (yO I.bL m) d f ?_;let q:=(c.val k).yM;rw[E7]at q;rw[<-q,<-l];show h _<|I.tok _
def Dh(I:aN X ah σ H s)(d:uQ (H a))(ai:p9 a s.heap h')(e:∃q,h'.get? a=Y q)(c:ht X.prog X.w (aE H a ob) h' a ob):
  aN X ah σ (aE H a ob) {s with heap:=h',toks:=t'}:=
 I.write d (.inl Z) (λb q ae z=>(ai.2 b ae).trans z) e c
def Lj(z:av.length<=sizeLine)(c:(a==nQ)=J)(b:jG av ac)(d:h'.DictOf (jF P w) a ac):
  ht P w ab h' a (.cY av):=#[z,c,ac,b,d]
def aa2(P:A.units+1<nT)(I:aN X ah σ H s)(g:mm H a y v ab)(t:dq y u)(C:dq v r)(h:∀s',aN X ah σ ab s'->Q () s'):
  bP (bJ X.prog X.w) A (setItem (.ref a) u r) Q E s:=by
 obtain⟨av,k,e,o,l,j⟩|⟨av,k,b,e,o,D,l,j⟩:=g
 .subst o j;let#[z,p,ac,d,m]:=Li I.bL e;let R:ac.length<=sizeLine:=by rwa[<-d.length]
  let n:(gP av k v).length<=sizeLine:=by have:=yL av k v;lia
  show wpAny_setItem_pairs (rt t) m λx i ai=>h _ ?_;let L:∃q,x.get? a=Y q:=let ⟨q,_,_,f,_⟩:=i;#[q,f]
  show Dh I (by rw[e];show kb) ai L<|Lj n p (d.put k C) i
 .subst o j;cases (show u=e3 b from t);let#[z,p,xs,d,m]:=SN I.bL e;let R:xs.length<=sizeLine:=by rwa[<-zY d]
  let n:(gP av k v).length<=sizeLine:=by have:=yL av k v;lia
  show wpAny_setItem_heap (BF P) (yO I.bL D) m λx i ai=>h _ ?_;let#[q,S,K,f,N,M,F,W,G]:=i;show Dh I (by rw[e];show kb) ai #[q,f] #[n,p,_,(d.put k D C).keeps λc T B=>?_,q,S,K,f,N,M,F,G];show(aK<|iL B e λz=>nomatch z)▸B
end
section
variable {X:b9}{ah:List (ao×Obj)}{σ:St}{H:aw}{s:bl}{a:ao}{av:List (Key×V)}{k:Key}{u:aB}{A:e0}{E:aB->bl->Prop}
def alT(I:aN X ah σ H s)(e:H a=Y (.cY av))(g:dq (ez k) u)(l:(ec av k).isSome=O)(h:∀s',aN X ah σ (aE H a<|.cY<|nD av k) s'->Q () s'):
  bP (bJ X.prog X.w) A (delItem (.ref a) u) Q E s:=by
 let#[z,f,ac,b,c]:=Li I.bL e
 show wpAny_delItem_slot c.typeIs cn Px
  (BK Px c.typeIs PySem.F.entry_dict_delitem (PySem.F.args_dict_delitem_2 _ _) (meets_dict_delitem_pairs (jF X.prog X.w) a<|rt g) #[ac,c,by rwa[<-b.length],by rwa[<- (b.val k).yM],λi d ai=>h _ ?_])
 let j:∃q,i.get? a=Y q:=let ⟨q,_,_,aS,_⟩:=d;#[q,aS]
 show Dh I (by rw[e];show kb) ai j<|Lj (dK (Lh av k) z) f (b.drop k) d
def aa3(I:aN X ah σ H s)(e:H a=Y (.cY av))(d:dq (ez k) u)(l:ec av k=Y v)(hm:more=[]\/∃x,more=[x])
  (h:∀c s',aN X ah σ (aE H a<|.cY<|nD av k) s'->dq v c->Q c s'):bP (bJ X.prog X.w) A (ph (.builtin "dict.pop") (.ref a::u::more)) Q E s:=by
 let#[z,j,ac,b,f]:=Li I.bL e
 let#[c,m,p]:=la.Ay (by rw[<-l];show b.val k)
 let aC:(keyPart u).isSome=true:=by
  cases k with
  |inl i=>let#[t,q]:=(show ∃t,u=s7 i t from d);subst q;rfl
  |inr x=>let#[t,q]:=(show ∃t,u=zP x t from d);subst q;rfl
 let n:argsOk "dict.pop" #[.ref a::u::more,[]]:=by
  obtain q|⟨x,q⟩:=hm
  .subst q;show PySem.F.args_dict_pop_2 _ _
  .subst q;show PySem.F.args_dict_pop_3 _ _ _
 show BK PE f.typeIs PySem.F.entry_dict_pop n (meets_dict_pop_there (jF X.prog X.w) a (rt d) more hm aC)
  #[ac,c,f,by rwa[<-b.length],m,λo g ai=>h c _ ?_ p]
 let r:∃q,o.get? a=Y q:=let ⟨q,_,_,aS,_⟩:=g;#[q,aS]
 show Dh I (by rw[e];show kb) ai r<|Lj (dK (Lh av k) z) j (b.drop k) g
end
def GL(i:Expr):Prop:=∀a b,EF i J a b=operate [a,b] (zC a b)
def SO{w:dM}{A:e0}{E:aB->bl->Prop}{s:bl}{b:Env}{value a:Expr}{pos:Pos}{T id:String}{Q:aB->bl->Prop}
  (j:IH (.type T) "__getitem__"=pure (Y<|.builtin id)) (ai:GL a)
  (h:bP (bJ prog w) A (eval value b) (λo f=>bP (bJ prog w) A (eval a b) (λi oR=>oR.TypeIs o T/\bP (bJ prog w) A (zC o i) Q E oR) E f) E s):
  bP (bJ prog w) A (eval (.Subscript value a pos) b) Q E s:=by
 show JD<|nR h (λo f l=>nR l (λi oR d=>?_) λq q x=>x) λq q x=>x
 let#[g,d]:=d
 show aY ?_
 rw[getitemInPython_of_ne g.not_modules]
 show aY<|wpAny_specialOf g j ?_
 let c:bP (bJ prog w) A (EF a J o i) (λr e=>bP (bJ prog w) A (letTemporaryGo value o r >>= λq=>pure r) Q E e) E oR:=by show(ai o i)▸(wpAny_operating<|nR d (λr e k=>aY<|wpAny_letTemporaryGo<|c0 k) λq q x=>x)
 first
  |show c0<|aY c
  |show aY<|c0<|aY c
  |show aY c
def aa4(I:aN X ah σ H s)(g:g4 H a y o):s.TypeIs (.ref a) "dict":=by
 obtain⟨av,k,e,_,_⟩|⟨av,k,b,e,_,_,_⟩:=g
 .let#[q,q,ac,q,c]:=yN I.bL e;show c.typeIs
 .let#[q,q,xs,q,c]:=yP I.bL e;show c.typeIs
inductive SP(Q:ck)(x y:V)(ay:aw):Prop
 |mk (a) (v) (_:x=.ref a) (_:g4 ay a y (Y v)) (_:Q v ay):SP Q x y ay
def SQ(d c:TE):TE:=λa H Q=>d a H λx H1=>c a H1 λy b=>SP Q x y b
inductive SR(Q:ck)(x y:V)(ay:aw):Prop
 |mk (a) (o) (_:x=.ref a) (_:g4 ay a y o) (_:Q (.cC o.isSome) ay):SR Q x y ay
def aa5(c d:TE):TE:=λa H Q=>c a H λy H1=>d a H1 λx b=>SR Q x y b
inductive SS(Q:ck)(x y:V)(ay:aw):Prop
 |mk (a) (o) (_:x=.ref a) (_:g4 ay a y o) (_:Q (.cC<|!o.isSome) ay):SS Q x y ay
def aa6(c d:TE):TE:=λa H Q=>c a H λy H1=>d a H1 λx b=>SS Q x y b
inductive SU(D:nt)(σ:St)(v x y:V)(bT:aw):Prop
 |mk (a) (dQ) (_:x=.ref a) (_:mm bT a y v dQ) (_:D.cM σ dQ):SU D σ v x y bT
def SV(e c f:TE):hu:=λD a H=>f a H λv H1=>e a H1 λx b=>c a b λy d=>SU D a v x y d
section
variable {X:b9}{o i e value:Expr}{pos kq AA:Pos}{fi ty dd:TE}
def aa7(r:X.A.units+1<nT)(w:bS X o fi)(ak:bS X i ty)(ai:GL i):bS X (.Subscript o i pos) (SQ fi ty):=by intro c s d H Q I h;show SO Py.lookup ai<|ct (w c s d H _ I h) λu j #[x,H1,p,l,m]=>ct (ak c j d H1 _ p m) λD B W=>?_;let#[y,k,b,n,a,v,e,g,f]:=W;subst e;obtain rfl:u=e3 a:=l;show#[aa4 b g,aaZ r b g n λC z t q=>#[v,k,t,q,f]]
def GM(r:X.A.units+1<nT)(ak:bS X i ty)(v:bS X o fi):Gh X .In i o (aa5 ty fi):=by intro b s c H Q I h;show ct (ak b s c H _ I h) λB f #[y,H1,q,p,m]=>ct (v b f c H1 _ q m) λu z W=>?_;let#[x,k,j,l,a,n,d,g,e]:=W;subst d;obtain rfl:u=e3 a:=l;show aa0 r j g p λw t=>#[.cC n.isSome,k,t,Z,e]
def Lk(r:X.A.units+1<nT)(ak:bS X i ty)(v:bS X o fi):Gh X .NotIn i o (aa6 ty fi):=by intro b s c H Q I h;show ct (ak b s c H _ I h) λB f #[y,H1,q,p,m]=>ct (v b f c H1 _ q m) λu z W=>?_;let#[x,k,j,l,a,n,d,g,e]:=W;subst d;obtain rfl:u=e3 a:=l;show aa1 r j g p λw t=>#[.cC<|!n.isSome,k,t,Z,e]
def aa8(n:X.A.units+1<nT)(F:bS X o fi)(ak:bS X i ty)(G:bS X value dd)(ai:rU value (Y<|.Subscript o i kq) pos.line X.env=pure J):
  kp X (.Assign [.Subscript o i kq] value pos) (SV fi ty dd):=by
 intro c s b H D I h
 show wpAny_Assign_Subscript (ct (G c s b H _ I h) λr B #[v,H1,E,t,k]=>ct (F c B b H1 _ E k) λu m #[x,C,f,j,e]=>ct (ak c m b C _ f e) λL N W=>?_) ai;let#[y,M,p,l,a,q,d,g,w]:=W
 subst d
 obtain rfl:u=e3 a:=j
 show aa2 n p g l t λK z=>#[b,q,z,w]
end
def aa9(h:df)(ae:nQ<h.objs.size):ht P w H (h.push {cls:=.type "dict",data:=.dict [].toArray}) h.objs.size (.cY []):=
 #[hQ _,beq_eq_false_iff_ne.mpr<|c5<|eg ae,[],.nil,Heap.DictOf.new h]
def aba(h:df)(ae:nQ<h.objs.size):ht P w H (h.push {cls:=.type "dict",data:=.dict [].toArray}) h.objs.size (.eE []):=
 #[hQ _,beq_eq_false_iff_ne.mpr<|c5<|eg ae,[],.nil,_,[].toArray,0,jO _ Z,#[Z,Z,Z],Z,Z,Jn]
def abb:TE:=λq H Q=>∀p,H p=U->Q (.ref p) (aE H p<|.cY [])
section
variable {X:b9}{pos:Pos}
def yQ:bS X (.Dict [] [] pos) abb:=λa s b H Q I h=>
 wpAny_Dict_empty #[.ref s.heap.objs.size,_,I.oP (t':=s.toks) (λw w q=>fv _ q) (bK _)<|aa9 s.heap I.big,Z,h _<|I.bL.fresh<|bK _]
end
structure SW(X:b9)(o:Expr)(m:Str)(gH:Pos)(e:Expr)(iq:Pos):Prop where
 base:ug o m X.env (eval o X.env)=eval o X.env
 GN:((jN iq<|eN [e] X.env).all (λx=>!x.1)&&(rV iq<|rT [] X.env).all (λx=>x.1.isSome)
  && decide (([e]:List Expr).length+([]:List zD).length+(if ([]:List zD).isEmpty then 0 else 1)<30))=O
 line:(gH.endLine==iq.line)=O
 trees:jN iq (eN [e] X.env)=[(J,eval e X.env)]
structure M2(X:b9)(o:Expr)(m:Str)(gH:Pos)(e f:Expr)(iq:Pos):Prop where
 base:ug o m X.env (eval o X.env)=eval o X.env
 GN:((jN iq<|eN [e,f] X.env).all (λx=>!x.1)&&(rV iq<|rT [] X.env).all (λx=>x.1.isSome)
  && decide (([e,f]:List Expr).length+([]:List zD).length+(if ([]:List zD).isEmpty then 0 else 1)<30))=O
 line:(gH.endLine==iq.line)=O
 trees:jN iq (eN [e,f] X.env)=[(J,eval e X.env),(J,eval f X.env)]
def Ll(H:aw)(a:ao):Prop:=(∃av,qm H a (.cY av))\/∃av,qm H a (.eE av)
def SX(I:aN X ah σ H s)(d:Ll H a):
  s.TypeIs (.ref a) "dict"/\(∀b,e3 a=.ref b->∃ob,s.heap.get? b=Y ob/\ob.dict=U)/\(a==nQ)=false:=by
 obtain⟨av,e⟩|⟨av,e⟩:=d
 .let#[w,f,ac,w,c]:=yN I.bL e;show#[c.typeIs,λb q=>?_,f];cases q;let#[ob,w,w,g,h,w]:=c;show#[ob,g,h.2.1]
 .let#[w,f,xs,w,c]:=yP I.bL e;show#[c.typeIs,λb q=>?_,f];cases q;let#[ob,w,w,g,h,w]:=c;show#[ob,g,h.2.1]
section
variable {X:b9}{ah:List (ao×Obj)}{σ:St}{H:aw}{s:bl}{a:ao}{y d:V}{u r:aB}{o:Option V}{A:e0}{E:aB->bl->Prop}
def abc(p:A.units+1<nT)(I:aN X ah σ H s)(g:g4 H a y o)(j:dq y u)(h:∀m s',aN X ah σ H s'->dq (o.getD .bB) m->Q m s'):
  bP (bJ X.prog X.w) A (ph (.builtin "dict.get") [.ref a,u]) Q E s:=by
 obtain⟨av,k,e,i,l⟩|⟨av,k,b,e,i,n,l⟩:=g
 .subst i;let#[z,f,ac,c,d]:=yN I.bL e;show BK Ce d.typeIs JB (PB _ _) (meets_dict_get (jF X.prog X.w) a (rt j) f) #[_,d.mapOf,h _ _ (I.tok _) ?_];show l▸((c.val k).getD Z)
 .subst i;cases (show u=e3 b from j);let#[z,f,xs,c,d]:=yP I.bL e;show BK Ce d.typeIs JB (PB _ _) (meetsH_dict_get (xL<|jF X.prog X.w) a b f) #[BF p,k,xs,yO I.bL n,d,h _ _ (I.tok _) ?_];show l▸((c.val k).getD Z)
end
def abd(e d:TE):TE:=λc H Q=>e c H λx H1=>∃a,x=.ref a/\Ll H1 a/\d c H1 λy b=>∃o,g4 b a y o/\Q (o.getD .bB) b
def abe(e d:TE):TE:=λc H Q=>e c H λx H1=>∃a,x=.ref a/\Ll H1 a/\d c H1 λy b=>∃av k v,b a=Y (.cY av)/\y=ez k/\ec av k=Y v/\Q v (aE b a<|.cY<|nD av k)
section
variable {X:b9}{o e f:Expr}{gH iq:Pos}{fi ty dp:TE}
def Lm(q:X.A.units+1<nT)(D:bS X o fi)(z:bS X e ty)(m:SW X o "get" gH e iq):bS X (.Call (.Attribute o "get" gH) [e] [] iq) (abd fi ty):=by intro b s c H Q I h;show Ix m.base m.GN m.line JA Ce PF<|ct (D b s c H _ I h) λu v V=>?_;let#[x,H1,f,l,a,i,d,n]:=V;subst i;obtain rfl:u=e3 a:=l;let#[t,C,W]:=SX f d;show#[t,C,?_];rw[m.trees];show zU Z<|Cb<|xV<|ct (z b v c H1 _ f n) λK F #[y,w,k,p,E,g,j]=>zV ?_;show abc q k g p λG L r B=>#[_,w,r,B,j]
def Ln(E:bS X o fi)(B:bS X e ty)(m:SW X o "pop" gH e iq):bS X (.Call (.Attribute o "pop" gH) [e] [] iq) (abe fi ty):=by intro b s c H Q I h;show Ix m.base m.GN m.line JA PE PySem.F.type_dict_pop<|ct (E b s c H _ I h) λu z V=>?_;let#[x,H1,f,n,a,g,d,p]:=V;subst g;obtain rfl:u=e3 a:=n;let#[w,D,W]:=SX f d;show#[w,D,?_];rw[m.trees];show zU Z<|Cb<|xV<|ct (B b z c H1 _ f p) λL G #[y,M,j,q,av,k,v,t,A,l,i]=>zV ?_;subst A;show aa3 j t q l (.inl Z) λK N r C=>#[v,_,r,C,i]
end
def abf:oA "reversed"=Y (.type "reversed"):=by decide +kernel
section
variable {X:b9}{ah:List (ao×Obj)}{σ:St}{H:aw}{s:bl}{h':df}
def aN.abg{ch:List ao}(I:aN X ah σ H s)(k:∀b o,b∉ch->s.heap.get? b=Y o->h'.get? b=Y o)(d:∀b∈ch,qr X ah H b):aN X ah σ H {s with heap:=h',toks:=t'}:=by
 let f:∀b u,H b=Y u->b∉ch:=λb u e z=>by let q:=(d b z).1;rw[q]at e;cases e
 show I.step (h9:=s.gens) (kN:=s.drawn) (λb ae=>#[(d b ae).2.2.2.1,(d b ae).2.1,(d b ae).2.2.2.2.1,(d b ae).2.2.2.2.2]) (λb o w w a e w=>k b o a e) (λb o w w a e w=>#[o.slots,k b o a e])
  (λw w w w n=>n) (λb o a e=>#[o,k b o a e]) (λw w e=>e) (λw w w e=>e) (λb ps e=>#[[].toArray,by rw[e];simp]) (λm hm=>?_) (λb u e=>?_) I.f9
 .let#[o,g,h,i,r]:=hm;show#[o,g,h,k _ o (λz=>(d _ z).2.1 Z) i,r]
 .show(I.bL b u e).oO (λc v a q=>k c v ?_ q) (λw q=>q) λw w q=>q;obtain z|z:=a
  .rw[z];show f b u e
  .show f c _ z
def aN.lock(I:aN X ah σ H s)(h:H d=Y u)(a:uQ (Y u)):∃dV,aN X ah σ (aE H d<|.fH dV u) s:=by
 let x:=I.bL d u h;let f:∃dV,s.heap.get? d=Y dV:=by
  cases u with
  |bq xs=>let#[y,y,y,y,e]:=x;show#[_,e]
  |cY av=>let#[y,y,y,y,o,y,y,e,y]:=x;show#[o,e]
  |eE av=>let#[y,y,y,y,o,y,y,e,y]:=x;show#[o,e]
  |set S n=>let#[o,y,y,y,e,y]:=x;show#[o,e]
  |b7 C dx bb=>let#[y,y,y,e,y]:=x;show#[_,e]
  |ext g=>let#[y,#[y,e],y]:=x;show#[_,e]
  |_=>show gY a
 let#[dV,e]:=f;let c:ht X.prog X.w (aE H d<|.fH dV u) s.heap d (.fH dV u):=by
  show#[e,x.oO (λb v y q=>q) (λb q=>?_) λb xs q=>?_]
  .rw[aK (λz=>by rw[z,h]at q;cases q;show a)];show q
  .rw[aK (λz=>by rw[z,h]at q;cases q;show a)];show q
 show#[dV,I.write (t':=s.toks) (h':=s.heap) (by rwa[h]) (.inl Z) (λb v y q=>q) #[dV,e] c]
def aN.GO(I:aN X ah σ H s)(h:H d=Y u)(c:uQ (Y u)):∀a b,X.gS d≠Y (.fH a b):=λa b e=>by let q:=I.base.lf d a b e;rw[h]at q;cases q;show c
def aN.GP(I:aN X ah σ H s)(h:H d=Y (.fH dV u))(k:∀g f,X.gS d≠Y (.fH g f)):aN X ah σ (aE H d u) s:=by
 let a:∀b o,H b=Y o->(∀g f,o≠.fH g f)->b≠d:=λb o e j z=>by rw[z,h]at e;cases e;show j _ _ Z
 let neN:∀b,H b=U->b≠d:=λb e z=>by rw[z,h]at e;cases e
 show#[I.ok,I.os,I.f9,#[I.base.keep,I.base.slot,λb o e n i=>?_,I.base.there,λb xs e=>?_,λb o x e=>?_,λb ps e=>?_],I.loc,I.cell,?_,λx c e=>?_,λp aC=>?_,λb o e=>?_,I.len]
 .rw[aK<|neN b<|I.base.free b o e n i];show I.base.free b o e n i
 .let q:=I.base.mQ b xs e;rwa[aK<|a b _ q λw w z=>nomatch z]
 .let q:=I.base.lf b o x e;rwa[aK (λz=>by rw[z]at e;show k _ _ e)]
 .let#[m,q]:=I.base.mR b ps e;show#[m,by rwa[aK<|a b _ q λw w z=>nomatch z]]
 .rw[aK<|neN _ I.free];show I.free
 .rw[aK<|neN c<|I.mS x c e];show I.mS x c e
 .let#[e,n,r]:=I.pin p aC;show#[e,by rwa[aK<|neN _ n],r]
 .by_cases ae:b=d
  .rw[ae,bj]at e;cases e;rw[ae];let#[w,x]:=I.bL d _ h;show x.oO (λc v w q=>q) (λc q=>by rwa[aK<|a c _ q λw w z=>nomatch z]) λc xs q=>by rwa[aK<|a c _ q λw w z=>nomatch z]
  .rw[aK ae]at e;show(I.bL b o e).oO (λc v w q=>q) (λc q=>by rwa[aK<|a c _ q λw w z=>nomatch z]) λc xs q=>by rwa[aK<|a c _ q λw w z=>nomatch z]
end
def abh(t:hu):hu:=λD e H=>∃d u,H d=Y u/\uQ (Y u)/\∀c,t #[λb a=>a d=Y (.fH c u)/\D.cM b (aE a d u),λv a=>a d=Y (.fH c u)/\D.n9 v (aE a d u),λb a=>a d=Y (.fH c u)/\D.kn b (aE a d u),λb a=>a d=Y (.fH c u)/\D.fI b (aE a d u)] e (aE H d<|.fH c u)
section
variable {X:b9}
def abi{st:Stmt}{t:hu}(h:kp X st t):kp X st (abh t):=by
 intro k s l H D I i
 let#[d,u,c,g,i]:=i
 let#[n,m]:=I.lock c g
 show ct (h k s l _ _ m<|i n) λf o q=>?_
 cases f with
 |next=>let#[b,j,a,e,q]:=q;show#[b,_,a.GP e<|I.GO c g,q]
 |brk=>let#[b,j,a,e,q]:=q;show#[b,_,a.GP e<|I.GO c g,q]
 |cont=>let#[b,j,a,e,q]:=q;show#[b,_,a.GP e<|I.GO c g,q]
 |ret v=>let#[x,b,j,a,r,e,q]:=q;show#[x,b,_,a.GP e<|I.GO c g,r,q]
def GQ(I:aN X ah σ H s)(o:Obj)
  (T:wF X.prog X.w X.K fe g [s.heap.objs.size] s.heap.objs.size hv) (st:hv 0 (s.heap.push o)) (q:R g H):Kx X ah σ fe R (.ref s.heap.objs.size) {s with heap:=s.heap.push o,toks:=a3}:=by
 show#[s.heap.objs.size,[s.heap.objs.size],hv,g,H,Z,I.kept λb ob e=>fv _ e,T,st,λb ae=>?_,q]
 let e:b=s.heap.objs.size:=by simpa using ae
 subst e
 show I.C4 (bK _)<|I.bL.fresh<|bK _
end
def SY(i j c:Int)(n:Nat):Prop:=c≠0/\c.natAbs<1073741824/\Builtin.Range.small i j c=O/\Builtin.Range.rangeSize i j c=n
def SY.neg(c:-(2 ^ 62)<=i)(a:i<2 ^ 62)(ae:-(2 ^ 62)<=j)(b:j<2 ^ 62):SY i j (-1) (i-j).toNat:=
 #[cn,cn,PySem.W.small_down c a ae b,PySem.W.rangeSize_downNat i j]
def Dj(K:b2)(a:ao)(n:Nat):rn:=
 #[λi H=>i<n/\∃(xs:List V) (x:V),bM K H a xs/\xs[n-1-i]?=Y x,λi H x b=>b=H/\∀xs,bM K H a xs->xs[n-1-i]?=Y x,λi q=>n<=i]
def abk{w:dM}{K:b2}{fe:Expr}(a it:ao)(n:Nat):wF P w K fe (Dj K a n) [it] it (λi h=>i<=n/\h.IsRevIter it a ((n:Int)-1-(i:Nat))) where
 mem:=by simp
 obj:=λi h st b ae=>by
  let e:b=it:=by simpa using ae
  subst e;let#[_,o,e,c,d]:=st;show#[o,e,λv z=>by rw[d]at z;cases z]
 keep:=λi h m st k=>#[st.1,st.2.at λo e=>k it bg o e]
 item:=by
  intro X C r G R i M s N H E I g st B;subst C r G;let#[SZ,xs,x,L,S]:=B;let#[bF,eL,p,cX]:=I.list L;let#[u,bY,jj]:=eL.get S;let#[D,q,W,F,y,j]:=g it bg;let#[_,f]:=st;let l:(n:Int)-1-((i:Nat):Int)=((n-1-i:Nat):Int):=by lia
  rw[l]at f;show wpAny_pyNext_rev_item f p.isList (by simpa using bY) λm t V=>?_;let T:((n-1-i:Nat):Int)-1=(n:Int)-1-((i+1:Nat):Int):=by lia
  rw[T]at t;let aZ:aN X M N H {s with heap:=m}:=I.qp (t':=s.toks) (λb o ae e=>(V.2 b ae).trans e) D q F y j;let#[o,e,c,d]:=id t;show#[u,Z,C5 e c d cn #[x,H,aZ,jj,#[Z,λys dI=>by rwa[I.Gj dI L]],#[SZ,t],λb ae=>(g b ae).1]]
 done:=by
  intro X C r G R i M s N H E I g st B;subst C r G;let#[D,q,W,F,y,j]:=g it bg;let#[SZ,f]:=st;let S0:n<=i:=B;let l:(n:Int)-1-((i:Nat):Int)=-1:=by lia
  rw[l]at f;show wpAny_pyNext_rev_end (I.ok.hd R) f λm fB=>#[Z,I.qp (t':=s.toks) (λb o ae e=>fB b o ae e) D q F y j]
 self:=λA i s Q E st h=>Ou st.2 h
def abl(K:b2)(b:j2):TI:=λc H R=>b c H λac H1=>∃(a:ao) (xs:List V),ac=[.ref a]/\bM K H1 a xs/\R (Dj K a xs.length) H1
section
variable {X:b9}{fe:Expr}
def abm{c:j2}{p pos:Pos}(g:pJ X "reversed")(hm:X.aL "reversed"=U)(j:mf X [e] c)(ai:eN [e] X.env=[(J,eval e X.env)]:=by rfl):tu X fe (.Call (.Name "reversed" p) [e] [] pos) (abl X.K c):=by
 intro m s o H R I h
 show Call_<|Ao I g hm abf<|Fi (ct (j pos m s o H _ I h) λy x W=>?_) ai Z;let#[ac,H1,d,l,t]:=W
 let#[a,xs,e,k,q]:=t
 subst e
 cases l with
 |cons r n=>
  cases n;cases r;let#[b,v,f,z]:=d.list k;let w:=v.length;let u:((b.toArray.size:Nat):Int)-1=(xs.length:Int)-1-((0:Nat):Int):=by simp only[iU];lia
  show call_reversed_list f.isList<|Ou (i:=((b.toArray.size:Nat):Int)-1) #[_,jO _ Z,Z,Z] ?_;show GQ d _ (abk a _ xs.length) #[hQ _,?_] q;rw[<-u];show#[_,jO _ Z,Z,Z]
end
def wU(x:Str):rn:=#[λi q=>i<x.cps.size,λi H v a=>a=H/\∃c,x.cps[i]?=Y c/\v=.str #[[c].toArray],λi q=>x.cps.size<=i]
def S1{w:dM}{K:b2}{V:Expr}(it:ao)(x:Str)(t:Tok)(a:String)(y:a="str_ascii_iterator"\/a="str_iterator"):
  wF P w K V (wU x) [it] it (λi h=>h.IsStrIter it a x t i) where
 mem:=by simp
 obj:=λi h st b ae=>by
  let e:b=it:=by simpa using ae
  subst e;let#[o,e,c,d]:=st;show#[o,e,λv z=>by rw[d]at z;cases z]
 keep:=λi h l st k=>let ⟨o,bv,r⟩:=st;#[o,k it bg o bv,r]
 item:=by
  intro X C F D f i N s R H E I p st B;subst C F D;let#[j,m,f2,n,q,g]:=p it bg;let W:Walks X.prog X.w X.A it [it] [it] x.cps.size (SignAt x) (λi h=>h.IsStrIter it a x t i):=by
   obtain e|e:=y
   .rw[e];show Walks.strAscii (I.ok.hd f) it x t
   .rw[e];show Walks.strWide (I.ok.hd f) it x t
  let L:["enumerate","zip","dict_itemiterator","dict_reverseitemiterator","odict_iterator","itertools.zip_longest","itertools.pairwise"].contains a=false:=by
   obtain e|e:=y
   .rw[e];decide
   .rw[e];decide
  show W.item i s _ _ B st λv l a3 bk M mn=>?_;let#[c,u,T,rfl]:=bk;let aZ:aN X N R H {s with heap:=l,toks:=a3}:=I.qp (λb o ae e=>mn b o (by simpa using ae) e) j m n q g;let#[wV,e,qy,bD]:=id M;show#[9,C5 e qy bD L #[.str #[[c].toArray],H,aZ,#[u,Z],#[Z,c,T,Z],M,λb ae=>(p b ae).1]]
 done:=by
  intro X C F D f i N s R H E I p st B;subst C F D;let#[j,m,f2,n,q,g]:=p it bg;let S:=Pj B;obtain e|e:=y
  .rw[e]at st;show wpAny_pyNext_ascii_end (I.ok.hd f) st S λl G=>#[Z,I.qp (t':=s.toks) (λb o ae e=>G b o ae e) j m n q g]
  .rw[e]at st;show wpAny_pyNext_wide_end (I.ok.hd f) st S λl G=>#[Z,I.qp (t':=s.toks) (λb o ae e=>G b o ae e) j m n q g]
 self:=λA i s Q E st h=>by
  obtain e|e:=y
  .rw[e]at st;show wpAny_pyIter_striter_ascii st h
  .rw[e]at st;show wpAny_pyIter_striter_wide st h
def abo(eF:TE):TI:=λa H R=>eF a H λv H1=>∃x,v=.str x/\R (wU x) H1
def Lo{j e:Expr}{eF:TE}(i:bS X e eF):tu X j e (abo eF):=by
 intro f s g H R I h;show ct (i f s g H _ I h) λv k w=>?_;let#[y,H1,b,d,x,c,q]:=w;subst c;let#[t,rfl]:=d;cases a:x.cps.all (·<128)
 .show wpAny_pyIter_wide a<|GQ b _ (S1 _ x t "str_iterator"<|.inr Z) #[_,jO _ Z,Z,Z] q
 .show wpAny_pyIter_ascii a<|GQ b _ (S1 _ x t "str_ascii_iterator"<|.inl Z) #[_,jO _ Z,Z,Z] q
section
variable {prog:eZ}{w:dM}{A:e0}{E:aB->bl->Prop}{s:bl}
def abp(e:(d==nQ)=J)(b:s.heap.get? d=Y o)(h:o.ExactDict)(c:o.data=.dict es g)
  (f:Q (.ref s.heap.objs.size) {s with heap:=s.heap.push {cls:=.type "dict_keyiterator",data:=.fields [.ref d,.int 0 0,.int es.size 0,.int g 0].toArray}}):
  bP (bJ prog w) A (pyIter<|.ref d) Q E s:=by
 let a:s.TypeIs (.ref d) "dict":=#[o,b,h.1]
 show wpAny_pyIter_slot a PM<|xH PM a F.entry_dict_iter ?_<|F.args_dict_iter_1 _
 show aY ?_
 show aY<|wpAny_notOrdered_dict a ?_
 show c0 ?_
 show bP _ _ (PV d >>= _) _ _ s
 unfold PV
 rw[aM (by rw[e];show jv)]
 show aY<|c0 ?_
 show aY<|Iy b c ?_
 show aY<|IC b c ?_
 show aY<|BG<|c0 #[9,"dict_keyiterator",_,#[_,jO _ Z,Z],Cc.lookup,?_]
 simpa [k1] using f
def alU(a:s.heap.IsKeyIter e d i n cD)(h:s.heap.get? d=Y dV)(g:dV.data=.dict es cD)
  (hsz:es.size=n) (q:es[i]?=Y dL) (k:∀h',h'.IsKeyIter e d (i+1) n cD->p9 e s.heap h'->Q (Y dL.key) {s with heap:=h'}):bP (bJ prog w) A (vH<|.ref e) Q E s:=by
 let#[o,f,p,b]:=id a
 show aY (ED (zv a.typeIs Cc
  (xH Cc a.typeIs PC ?_<|PA _)))
 show aY<|c0 ?_
 show aY ?_
 show aY ?_
 first|show aY (Ex a.typeIs<|c0 ?_)|show aY<|Ey a.typeIs<|c0 ?_
 show aY<|wpAny_fieldsOf f b ?_
 let m:PT "dict_keyiterator"=false:=by decide
 show bP _ _ (if (e3 d==ka)=O then _ else _) _ _ s
 rw[aM<|show ¬ ((e3 d==ka)=O)from jv]
 show aY<|c0 ?_
 show aY<|Iy h g ?_
 rw[aM (by rw[hsz];simp)]
 show aY<|c0 ?_
 show aY<|IC h g ?_
 rw[aM bg]
 show c0 ?_
 let#[c,l]:=q9.mp q
 simp only[show ¬ ((i:Int)<0)from by lia,if_false,Jy,Array.getElem?_eq_getElem c]
 show aY ?_
 first|show aY (Ex a.typeIs<|c0 ?_)|show aY<|Ey a.typeIs<|c0 ?_
 show aY<|Oq a.typeIs ?_
 show bP _ _ (setField (.ref e) 1 (k1<|(i:Int)+1) >>= _) _ _ s
 show aY<|vB f b bg ?_
 let j:(s.heap.update e<|rb (·.setIfInBounds 1 (k1<|(i:Int)+1))).IsKeyIter e d (i+1) n cD:=
  #[_,zK _ f<|Fd<|Pr b _,(Obj.cls_mapFields ..).trans p,by rw[Pr b];simp[k1]]
 show aY<|sX ?_
 show aY<|Oq (s:={s with heap:=s.heap.update e (rb (·.setIfInBounds 1 (k1<|(i:Int)+1)))}) j.typeIs ?_
 show l▸(c0<|c0 #[9,c0<|k _ j<|JG ..])
def abt(b3:A.handled=U)(a:s.heap.IsKeyIter e d i n cD)(f:s.heap.get? d=Y dV)(g:dV.data=.dict es cD)
  (hsz:es.size=n) (l:n<=i) (k:∀h',Heap.ExtBut e s.heap h'->Q U {s with heap:=h'}):bP (bJ prog w) A (vH<|.ref e) Q E s:=by
 let#[o,h,m,c]:=id a
 show aY (ED (zv a.typeIs Cc
  (xH Cc a.typeIs PC ?_<|PA _)))
 show aY<|c0 ?_
 show aY ?_
 show aY ?_
 first|show aY (Ex a.typeIs<|c0 ?_)|show aY<|Ey a.typeIs<|c0 ?_
 show aY<|wpAny_fieldsOf h c ?_
 let j:PT "dict_keyiterator"=false:=by decide
 show bP _ _ (if (e3 d==ka)=O then _ else _) _ _ s
 rw[aM<|show ¬ ((e3 d==ka)=O)from jv]
 show aY<|c0 ?_
 show aY<|Iy f g ?_
 rw[aM (by rw[hsz];simp)]
 show aY<|c0 ?_
 show aY<|IC f g ?_
 rw[aM bg]
 show c0 ?_
 let b:es.size<=i:=by rwa[hsz]
 simp only[show ¬ ((i:Int)<0)from by lia,if_false,Jy,Pj b]
 show aY ?_
 first|show aY (Ex a.typeIs<|c0 ?_)|show aY<|Ey a.typeIs<|c0 ?_
 show bP _ _ (setField (.ref e) 0 .none >>= _) _ _ s
 show aY<|vB h c bg ?_
 show aY ?_
 show aY (BG ?_<|by size_fits)
 show aY (wpAny_of_eq (by first|rfl|(simp only[firstArgMember];rfl)) ?_)
 show BG ?_ (by size_fits)
 show aY<|wpAny_handled ?_
 rw[show A.in1.handled=U from b3]
 show aY<|c0<|wpAny_throw ?_
 show aY<|wpAny_isInstance #[_,jO _ Z,Z] isSubtype_stop ?_
 show c0<|k _<|((JG ..).extBut.push _).push _
end
def abv{ac:List (fs×aB)}(h:jG av ac):∀{i:Nat}{k:fs}{v:V},av[i]?=Y (k,v)->∃u,ac[i]?=Y (k,u)/\dq v u:=by
 induction h with
 |nil=>intro i k v e;simp at e
 |@cons a b d f r t c=>
  intro i k v e
  cases i with
  |zero=>simp only[List.getElem?_cons_zero,Option.some.injEq]at e;subst e;show#[b.2,?_,r.2];show congrArg Y<|Prod.ext r.1.symm Z
  |succ j=>show c e
def abw(h:wu k u=O):dq (ez k) u:=by
 obtain⟨i,t,rfl,rfl⟩|⟨x,t,rfl,rfl⟩:=tm h
 .show#[t,Z]
 .show#[t,Z]
section
variable {X:b9}{ah:List (ao×Obj)}{σ:St}{H:aw}{s:bl}{d:ao}{o:Obj}
def aN.Lq(I:aN X ah σ H s)(h:H d=Y (.fH o<|.cY av)):
  (d==nQ)=J/\s.heap.get? d=Y o/\o.ExactDict/\∃(es:Array zA) (cD:Nat) (ac:List (Key×aB)),o.data=.dict es cD/\es.size=av.length/\jG av ac/\s.heap.DictAt (jF X.prog X.w) d ac cD:=by
 let#[a,z,ai,ac,c,j,es,cD,e,f,b,r]:=I.bL d _ h
 rw[a]at e
 cases e
 show#[ai,a,f,es,cD,ac,b,?_,c,o,es,a,f,b,r]
 let g:=r.2.1.length
 let i:=zY c
 rw[zQ]at g
 lia
end
def S4(d:ao)(o:Obj)(av:List (Key×V)):rn:=
 #[λi H=>H d=Y (.fH o<|.cY av)/\i<av.length,λi H x a=>a=H/\∃k v,av[i]?=Y (k,v)/\x=ez k,λi H=>H d=Y (.fH o<|.cY av)/\av.length<=i]
def S5{o:Obj}{es a:Array zA}{cD b:Nat}(h:o.data=.dict es cD)(h':o.data=.dict a b):a=es/\b=cD:=by rw[h]at h';cases h';show#[Z,Z]
section
variable {P:eZ}{w:dM}{K:b2}{fe:Expr}{d:ao}{o:Obj}{es:Array zA}{cD:Nat}
def abx{av:List (Key×V)}(it:ao)(L:o.data=.dict es cD):wF P w K fe (S4 d o av) [it] it (λi h=>h.IsKeyIter it d i av.length cD) where
 mem:=by simp
 obj:=λi h st b ae=>by
  let e:b=it:=by simpa using ae
  subst e;let#[l,e,c,t]:=st;show#[l,e,λv z=>by rw[t]at z;cases z]
 keep:=λi h n st k=>st.at λl e=>k it bg l e
 item:=by intro X B r G W i S s T H E I j st y;subst B r G;let#[hd,ak]:=y;let#[C,q,f2,F,x,m]:=j it bg;let#[ai,GR,au,wx,rk,ac,g,a,D,hm]:=I.Lq hd;let#[rfl,rfl]:=S5 L g;obtain⟨⟨k,v⟩,R⟩:∃p,av[i]?=Y p:=#[av[i],pq ak];let#[u,bY,jj]:=abv D R;let M:=zY D;rw[M]at st;show wpAny_pyNext_dict_item st hm bY λf n KI N iN=>?_;let aZ:aN X S T H {s with heap:=n}:=I.qp (t':=s.toks) (λb ob ae e=>(iN.2 b ae).trans e) C q F x m;let#[l,e,c,t]:=id N;show#[f,Z,C5 e c t cn #[ez k,H,aZ,abw (show wu k f=O from KI),#[Z,k,v,R,Z],?_,λb ae=>(j b ae).1]];show M▸N
 done:=by intro X B r G W i S s T H E I j st y;subst B r G;let#[hd,ak]:=y;let#[C,q,f2,F,x,m]:=j it bg;let#[ai,GR,au,wx,rk,ac,g,a,D,hm]:=I.Lq hd;let#[rfl,rfl]:=S5 L g;show abt (I.ok.hd W) st GR g a ak λn fB=>#[Z,I.qp (t':=s.toks) (λb ob ae e=>fB b ob ae e) C q F x m]
 self:=λA i s Q E st h=>wpAny_pyIter_keyiter st h
end
def aby(a:TE):TI:=λb H R=>a b H λx H1=>∃d o av,x=.ref d/\H1 d=Y (.fH o<|.cY av)/\R (S4 d o av) H1
section
variable {X:b9}{fe e:Expr}{fi:TE}{gH iq:Pos}
def abz(m:bS X e fi):tu X fe e (aby fi):=by intro k s l H R I h;show ct (m k s l H _ I h) λu t w=>?_;let#[x,H1,c,i,d,o,av,g,f,q]:=w;subst g;obtain rfl:u=e3 d:=i;let#[ai,j,n,r,v,ac,b,a,p,hm]:=c.Lq f;show abp ai j n b<|GQ c _ (abx _ b) #[_,jO _ Z,Z,?_] q;rw[a]<;>rfl
end
def abA:oA "zip"=Y (.type "zip"):=by decide +kernel
end L2
namespace abB
open PySem PySem.Builtin PySem.Builtin.Str PySem.StrLaws
abbrev ft(x:Str):List Nat:=x.cps.toList
def pre(S l:List Nat):Bool:=l.take S.length==S
def par(S:List Nat):List Nat->List Nat->Option (List Nat×List Nat)
 |_,[]=>U
 |cK,c::r=>if pre S (c::r)=O then Y (cK,(c::r).drop S.length)else par S (cK++[c]) r
end abB
namespace L2
open PySem PySem.Spec PyProof.Rows
theorem Lr:∀{ys:List Str}{us:List aB},dA (ys.map V.str) us->StrsAre us ys
 |[],_,.nil=>.nil
 |y::ys,_,.cons r t=>by let#[k,rfl]:=r;show .cons y k<|Lr t
section
variable {X:b9}
def abC:wN X "str.join" (λx xs H Q=>∃a p,∃ys:List Str,x=.str a/\xs=[.ref p]/\(bM X.K H p (ys.map V.str)\/gb X.K H p (ys.map V.str))/\
  (ys.map (·.length)).sum+ys.length*a.length<=16777216/\Q (.str<|Fq a ys) H):=by
 intro q s u H x xs v w Q I g c h
 let#[a,p,ys,rfl,rfl,aC,d,h]:=h
 let#[t,rfl]:=g
 cases c with
 |cons j c=>
  cases c;cases j;obtain aC|aC:=aC
  .let#[f,r,#[o,n,m,l,z,e],z]:=I.list aC;show PyProof.Rows.join_list #[o,m,l,n,e] (by rw[O6];show Lr r) d λb k=>#[.str _,H,I.tok k,#[b,Z],h]
  .let#[f,r,i,z]:=I.tuple aC;show PyProof.Rows.join_tuple i (by rw[O6];show Lr r) d λb k=>#[.str _,H,I.tok k,#[b,Z],h]
end
section
variable {X:b9}{o e:Expr}{to eF:TE}
def S6(r:V->List V->aw->ck->Prop)(to eF:TE):TE:=λb H Q=>to b H λx H1=>(∃a,x=.str a)/\eF b H1 λy c=>r x [y] c Q
def abD{id:String}(b:Slot "str" name id)(w:zE (.builtin id)=pure (.type "method_descriptor"))(rule:wN X id r)(n:bS X o to)(z:bS X e eF)
  (ai:eN [e] X.env=[(J,eval e X.env)]:=by rfl) (B:ug o name X.env (eval o X.env)=eval o X.env:=by rfl) (k:(gH.endLine==pos.line)=true:=by rfl):
  bS X (.Call (.Attribute o name gH) [e] [] pos) (S6 r to eF):=by
 intro d s f H Q I h
 show PySem.Call_method1 B ai k<|ct (n d s f H _ I h) λv p V=>?_;let#[x,H1,A,g,c]:=V
 let#[#[a,rfl],c]:=c
 let#[t,rfl]:=_root_.id g
 show#["str",_,F.plainAttrs_str,b,w,II _ _ _,(λW e=>nomatch e),zU Z<|Cb<|xV ?_]
 show ct (z d p f H1 _ A c) λu m #[y,q,j,l,i]=>zV<|rule d m f q _ [y] _ [u] Q j g (.cons l .nil) i
def abE(c:bS X o to)(b:bS X e eF)(ai:eN [e] X.env=[(J,eval e X.env)]:=by rfl)(f:ug o "join" X.env (eval o X.env)=eval o X.env:=by rfl)(d:(gH.endLine==pos.line)=true:=by rfl):
  bS X (.Call (.Attribute o "join" gH) [e] [] pos) (S6 (λx xs H Q=>∃a p,∃ys:List Str,x=.str a/\xs=[.ref p]/\(bM X.K H p (ys.map V.str)\/gb X.K H p (ys.map V.str))/\
   (ys.map (·.length)).sum+ys.length*a.length<=16777216/\Q (.str<|Fq a ys) H) to eF):=
 abD F.slot_str_join F.type_str_join abC c b ai f d
end
def abF:∀{ac:List aB}{a:List Int},IntsAre ac a->dA (a.map V.int) ac:=by
 intro ac a h
 induction h with
 |nil=>show .nil
 |cons n t _ b=>show .cons #[t,Z] b
def S7(H:aw):Prop:=∀b,H b=U\/∃o xs,H b=Y (.fH o<|.bq xs)
def alV{w:dM}{K:b2}{aL A:Str->Option aB}{c9:jl}{k:Nat}{y a:ao}{fd:oB}{x:Str}{sp:j4}{dP:bl}{ac:List aB}{f:List Int}
  (M:K.In dP.heap) (E:dP.heap.Ns k0 aL) (ae:dP.heap.Ns EH A) (Ls:∀x:Str,x≠"__name__"->A x=oA x) (R:dP.heap.NoLimit) (cL:dP.gens=[].toArray)
  (p:dP.heap.get? a=Y {cls:=.type "list",data:=.seq ac.toArray}) (ak:IntsAre ac f) (L:f.length<=sizeLine) (S:e5 k qX)
  (F:∀base:df,K.In base->base.Ns k0 aL->ny P w K aL base c9 k y fd [x] sp) (Lv:∀(s:bl) (u:aB),zB s fd #[[u],[]] [(x,u)])
  (rr:∀H:aw,S7 H->bM K H a (f.map V.int)->sp [.ref a] H (λv _=>v=.cC O) λ_ _ _=>False)
  (Dm:∀H e s',c9 [] H dP (λ_ _ _=>False) e s'->False):
  pg (bJ P w) qX (.call (.ref y) #[[.ref a],[]]) (λr s'=>r=.ok (.ret<|.bool O)/\OldK dP.heap s'.heap/\s'.os=dP.os/\s9 s'.gens) dP:=by
 let N:=abF ak
 let c:∀H:aw,S7 H->bM K H a (f.map V.int)->f8 P w H dP.heap->(∀b,H b≠U->b=a)->(H a≠U->K.lookup a=U)->
   pg (bJ P w) qX (.call (.ref y) #[[.ref a],[]]) (λr s'=>r=.ok (.ret<|.bool O)/\OldK dP.heap s'.heap/\s'.os=dP.os/\s9 s'.gens) dP:=by
  intro H I T G Db iM
  let D:∀{b:ao}{o:Obj},dP.heap.get? b=Y o->H b=U->(qn dP.heap H).get? b=Y o:=λe n=>Rc e n
  let wM:∀{b:ao}{o:Obj}{j:Array zA}{i:Nat},dP.heap.get? b=Y o->o.data=.dict j i->H b=none:=λ{b o j i} e d=>by
   cases q:H b with
   |none=>rfl
   |some u=>have B:=Db b (by rw[q];simp);subst B;rw[p]at e;cases e;cases d
  let l:∀{b:ao}{m:Str->Option aB},dP.heap.Ns b m->(qn dP.heap H).Ns b m:=λ{b m} #[o,j,i,e,d,r]=>#[o,j,i,D e<|wM e d,d,r]
  let Do:=λb o e=>D (M b o e) (by
   cases q:H b with
   |none=>rfl
   |some u=>have B:b=a:=Db b (by rw[q];simp);subst B;rw[iM (by rw[q];simp)]at e;cases e)
  let Q:Mod K aL (qn dP.heap H):=#[Do,l E,#[A,l ae,Ls],let ⟨mc,h1,aj⟩:=R;#[mc,l h1,aj]]
  let dz:sv P w K aL (qn dP.heap H) qX [] dP H:=#[Z,Q,λb o e=>Rd e,qY<|Rb _ _,trivial,λb ae=>a8 (show b∈([]:List ao)from ae) bg,G,.of_eq cL]
  show xJ ((F _ Do<|l E).run qX [] dP H #[[.ref a],[]] [.ref a] [.ref a] _ _ S dz (Lv dP<|.ref a) (.cons Z .nil)<|rr H I T) λr s' h=>?_
  cases r with
  |error e=>show(Dm H e s' h).elim
  |ok jH=>
   cases jH with
   |next=>show gY h
   |brk=>show gY h
   |cont=>show gY h
   |ret u=>
    let#[v,ab,os,f9,un,X,bt,q]:=h
    subst q
    obtain rfl:u=Fc true:=bt
    show#[Z,OldK.of_keep λb o e=>?_,os,f9]
    cases q:H b with
    |none=>show un.keep b o e q (by intro z;show a8 (show b∈([]:List ao)from z) bg) bg
    |some u=>
     obtain z|⟨ob,xs,z⟩:=I b
     .rw[q]at z;cases z
     .let W:=un.lf b ob _ z;let#[C,_]:=G b _ z;let#[ar,_]:=X b _ W;rw[e]at C;cases C;show ar
 cases t:K.lookup a with
 |some o=>have e:=M a o t;rw[p]at e;cases e;show c (λ_=>U) (λ_=>.inl Z) (.inr #[_,ac.toArray,_,t,Z,Z,Z,by rwa[iU,ak.length],by simpa using N]) (λb u z=>by let g:=z;cases g) (λb z=>a8 Z z) λz=>a8 Z z
 |none=>
  show c (λb=>if b=a then Y (.fH {cls:=.type "list",data:=.seq ac.toArray} (.bq<|f.map V.int))else U) (λb=>?_) (.inl<|.inr #[{cls:=.type "list",data:=.seq ac.toArray},aR Z]) (λb u z=>?_) (λb z=>?_) λ_=>t
  .by_cases ae:b=a
   .show .inr #[7,aR ae]
   .show .inl<|aM ae
  .by_cases ae:b=a
   .let g:=(aR ae).symm.trans z;cases g;subst ae;show#[p,by rwa[hR],ac,_,N,p]
   .let g:=(aM ae).symm.trans z;cases g
  .by_cases ae:b=a
   .show ae
   .show a8 (aM ae) z
def inClass(s:Stmt)(j:Nat):Stmt:=match s with
 |.ClassDef _ _ _ a _ _ _ _ _ _ _=>a.getD j<|.Pass #[0,0,0,0]
 |_=>.Pass #[0,0,0,0]
def Dp(s:Stmt):Arguments:=match s with
 |.FunctionDef _ a _ _ _ _ _ _ _ _=>a
 |_=>{posonlyargs:=[],args:=[],vararg:=U,kwonlyargs:=[],kw_defaults:=[],kwarg:=U,defaults:=[]}
def rx(s:Stmt):List Stmt:=match s with
 |.FunctionDef _ _ b _ _ _ _ _ _ _=>b
 |_=>[]
def hY(s:Stmt):iH:=match s with
 |.FunctionDef _ _ _ _ _ _ sc _ _ _=>sc
 |_=>{kind:=.function,names:=[],isGenerator:=J,isCoroutine:=J}
abbrev S8:jl:=λq q q q q q=>False
structure tG(K:b2)(x qual:Str)(st:Stmt)(f:ao)(fd:oB):Prop where
 ex:∃(sd:aB) (dV:Option ao) (ez doc pm:aB) (an:Option ao) (b6 fI:aB) (AC:Array (Option aB)),
  fd=zI x qual (Dp st) (rx st) (hY st) .none ez doc pm an b6 fI/\K.lookup f=Y #[sd,dV,.func fd,AC]/\I4 K b6 qual=O
 dX:nV K (.ref f)=O
section
variable {P:eZ}{w:dM}{K:b2}{aL:Str->Option aB}{base:df}
def tG.ok{x a:Str}{st:Stmt}{f:ao}{fd:oB}{N ps:List Str}{k:Nat}{sp:j4}(F:tG K x a st f fd)(S:rq N ps (hY st))(len:∀ac H Q E,sp ac H Q E->ac.length=ps.length)
  (j:∀(b:aB) (A:e0) (bc:List Env) (s:bl) (H:aw) (ac:List V) (Q:ck) (E:dG),e5 k (A.deeper<|oE a (hY st) s.heap.objs.size f b)->sp ac H Q E->
   ∃t,lh (hx S8 P w K aL base N a (hY st) f b A bc s H E).wB (rx st) t/\t {cM:=λv d=>Q .bB d,n9:=Q} (start N ac) H):ny P w K aL base S8 (k+1) f fd ps sp:=by
 let#[m,p,ez,g,pm,n,b,o,AC,rfl,l,c]:=F.ex
 show R8 l c S len λA bc s H ac Q E i e=>?_
 let#[t,h,q]:=j b A bc s H ac Q E i e
 show#[t,h.wB,q]
def tG.binds{st:Stmt}{f:ao}{fd:oB}{ps:List Str}(F:tG K x qual st f fd)
  (h:∀(ez a pm:aB) (c:Option ao) (b d:aB) (us:List aB),us.length=ps.length->bindArgs (zI x qual (Dp st) (rx st) (hY st) .none ez a pm c b d) #[us,[]]=pure (ps.zip us)):Binds K fd ps []:=by
 let#[e,j,ez,a,pm,c,b,d,AC,rfl,i,g]:=F.ex
 show .all<|h ez a pm c b d
end
def g5(a:e5 k A):A.units+1<nT:=OB (Nat.add_le_add_left (by decide:1<=64) _) a.units
section
variable {X:b9}
def aa(i:Nat)(b:X.N[i]?=Y x:=by rfl)(c:CX X.env.scope x:=by first|show uy Z|show Or.inr (uy Z)|show Or.inr<|Or.inr Z)(a:(x==("__debug__":Str))=false:=by decide)
  (d:(x==("__classdict__":Str))=false:=by decide):bS X (.Name x pos) (hM i):=Rk b c a d
end
def di{A B:Prop}(h:B):if J=O then A else B:=by show(aM jv)▸h
def dw{A B:Prop}(h:A):if O=O then A else B:=by show(aR Z)▸h
def iR{c A B:Prop}[Decidable c](h1:c->A)(a:¬c->B):if c then A else B:=by
 by_cases h:c
 .show(aR h)▸(h1 h)
 .show(aM h)▸(a h)
def abG{c A B:Prop}[Decidable c](a:c)(h:B):if (!decide c)=O then A else B:=by rw[gv a];show di h
def km(H a:aw):Prop:=∀b o,H b=Y o->a b=Y o
def km.refl(H:aw):km H H:=λq q h=>h
def km.trans(a:km H H1)(b:km H1 ay):km H ay:=λc o h=>b c o<|a c o h
def km.free{H a:aw}(e:km H a){l:ao}(h:a l=E9):H l=E9:=by
 cases q:H l with
 |none=>rfl
 |some o=>rw[e l o q]at h;cases h
def km.seq{K:b2}(e:km H ab)(h:bM K H a xs):bM K ab a xs:=by
 obtain (h|⟨o,h⟩)|h:=h
 .show .inl<|.inl<|e _ _ h
 .show .inl<|.inr #[o,e _ _ h]
 .show .inr h
section
variable {fs:Type}[DecidableEq fs]
def Lx{k:fs}(e:p.1=k):nD (p::r) k=nD r k:=by unfold nD;rw[pv,aM<|by simp[e]]
def Ly{k:fs}(e:¬p.1=k):nD (p::r) k=p::nD r k:=by unfold nD;rw[pv,aR<|by simp[e]]
end
def km.made(a:H x=E9)(c:H dx=E9)(k:∀b o,(aE (aE H dx<|.own x) x<|.b7 C dx []) b=Y o->b≠x->H1 b=Y o):km H H1:=λb o e=>
 k b o (by rwa[aK<|cx e a,aK<|cx e c]) (cx e a)
end L2
namespace L2
open PySem PySem.Spec PyProof.Rows
open PySem.W (WData Codec OpenSpec Well WellAll ReadsW ReadsAllW)
mutual
inductive kQ(K:b2)(H:aw):V->lB->Prop
 |bB:kQ K H .bB .none
 |cC (b:Bool):kQ K H (.cC b) (.bool b)
 |int (i:Int):kQ K H (.int i) (.int i)
 |str (x:Str):kQ K H (.str x) (.str x)
 |hr (b:Array UInt8):kQ K H (.hr b) (.bytes b.toList)
 |bq {a:ao}{xs:List V}{ds:List lB}:bM K H a xs->qz K H xs ds->kQ K H (.ref a) (.list ds)
 |cu {a:ao}{xs:List V}{ds:List lB}:gb K H a xs->qz K H xs ds->kQ K H (.ref a) (.tuple ds)
inductive qz(K:b2)(H:aw):List V->List lB->Prop
 |nil:qz K H [] []
 |cons {v:V}{ac:List V}{d:lB}{ds:List lB}:kQ K H v d->qz K H ac ds->qz K H (v::ac) (d::ds)
end
theorem S9{K:b2}{H:aw}:∀a:List Int,qz K H (a.map V.int) (a.map WData.int)
 |[]=>.nil
 |n::r=>.cons (.int n)<|S9 r
theorem Ta{K:b2}{H:aw}:∀(a:List Int) (xs:List V),qz K H xs (a.map WData.int)->xs=a.map V.int
 |[],xs,h=>by cases h;rfl
 |n::r,xs,h=>by
  cases h with
  |cons b c=>cases b;rw[Ta r _ c]<;>rfl
section
variable {P:eZ}{w:dM}{K:b2}{H:aw}{h:df}{R:OP}{cl:Str->Option ao}
def abH(g:f8 P w H h)(f:K.In h)(q:bM K H a xs):∃(b:List aB) (o:Obj) (n:Nat),dA xs b/\h.get? a=Y o/\o.cls=.type "list"/\o.data=.seq b.toArray n:=by
 obtain q|⟨o,b,n,e,i,_,d,_,c⟩:=q
 .let#[v,b,n,c,e]:=(show ht P w H h a (.bq xs)from q.ok g);show#[b,_,n,c,e,Z,Z]
 .show#[b.toList,o,n,c,f _ _ e,i,by simp[d]]
def abI(i:f8 P w H h)(g:K.In h)(q:gb K H a xs):∃(b:List aB) (o:Obj) (n:Nat),dA xs b/\h.get? a=Y o/\o.cls=.type "tuple"/\o.data=.seq b.toArray n:=by
 obtain q|⟨o,b,n,e,d,c,_,f⟩:=q
 .let#[v,b,f,o,e,d,n,c]:=(show ht P w H h a (.cu xs)from q.ok i);show#[b,o,n,f,e,d,c]
 .show#[b.toList,o,n,f,g _ _ e,d,by simp[c]]
mutual
theorem kQ.reads(c:f8 P w H h)(a:K.In h):∀(d:lB) (v:V) (u:aB),kQ K H v d->dq v u->∃as,ReadsW R cl h u d as
 |.none,_,_,x,r=>by cases x;cases r;show#[_,ReadsW.none]
 |.bool b,_,_,x,r=>by cases x;cases r;show#[_,ReadsW.bool b]
 |.int i,_,_,x,r=>by cases x;let#[t,rfl]:=r;show#[_,ReadsW.int i t]
 |.str s,_,_,x,r=>by cases x;let#[t,rfl]:=r;show#[_,ReadsW.str s t]
 |.bytes b,_,_,x,r=>by cases x;let#[t,rfl]:=r;show#[_,ReadsW.bytes _ t]
 |.list ds,_,_,x,r=>by
  cases x with
  |bq ai j=>cases r;let#[f,o,n,g,m,l,e]:=abH c a ai;let#[as,k]:=kQ.yK c a ds _ f j g;show#[_,ReadsW.list m l e k]
 |.tuple ds,_,_,x,r=>by
  cases x with
  |cu ai j=>cases r;let#[f,o,n,g,m,l,e]:=abI c a ai;let#[as,k]:=kQ.yK c a ds _ f j g;show#[_,ReadsW.tuple m l e k]
 |.float _,_,_,x,_=>by cases x
 |.dict _,_,_,x,_=>by cases x
 |.bytearray _,_,_,x,_=>by cases x
 |.set _,_,_,x,_=>by cases x
 |.frozenset _,_,_,x,_=>by cases x
 |.obj _ _,_,_,x,_=>by cases x
theorem kQ.yK(b:f8 P w H h)(a:K.In h):∀(ds:List lB) (ac:List V) (us:List aB),qz K H ac ds->dA ac us->∃as,ReadsAllW R cl h us ds as
 |[],_,_,x,r=>by cases x;cases r;show#[_,ReadsAllW.nil]
 |d::ds,_,_,x,r=>by
  cases x with
  |cons j f=>
   cases r with
   |cons e i=>let#[as,g]:=kQ.reads b a d _ _ j e;let#[bs,c]:=kQ.yK b a ds _ _ f i;show#[_,ReadsAllW.cons g c]
end
end
mutual
def ry:lB->Bool
 |.none=>O
 |.bool _=>O
 |.int _=>O
 |.str _=>O
 |.bytes _=>O
 |.list xs=>tH xs
 |.tuple xs=>tH xs
 |_=>J
def tH:List lB->Bool
 |[]=>O
 |x::r=>ry x&&tH r
end
theorem Tb{α:Type}{f:α->lB}(h:∀a,ry (f a)=O):∀l:List α,tH (l.map f)=O
 |[]=>rfl
 |x::r=>by show(ry (f x)&&tH (r.map f))=O;rw[h x,Tb h r]<;>rfl
theorem wW:∀(c:Codec) (a:c.denote),ry (c.enc a)=O
 |.unit,_=>rfl
 |.bool,_=>rfl
 |.int _ _,_=>rfl
 |.nat _ _,_=>rfl
 |.u8,_=>rfl
 |.bytes _ _,_=>rfl
 |.text _ _ _ _,_=>rfl
 |.list _ _ c,a=>Tb (λx=>wW c x) a
 |.pair c d,a=>by show(ry (c.enc a.1)&&(ry (d.enc a.2)&&O))=O;rw[wW c a.1,wW d a.2]<;>rfl
 |.triple c d e,a=>by show(ry (c.enc a.1)&&(ry (d.enc a.2.1)&&(ry (e.enc a.2.2)&&O)))=O;rw[wW c a.1,wW d a.2.1,wW e a.2.2]<;>rfl
 |.option c,U=>rfl
 |.option c,Y x=>wW c x
theorem Tc:∀(b:List Codec) (a:Cg b),tH (xW b a)=O
 |[],_=>rfl
 |c::b,a=>by show(ry (c.enc a.1)&&tH (xW b a.2))=O;rw[wW c a.1,Tc b a.2]<;>rfl
theorem Lz:∀{xs:List lB}{d:lB},d∈xs->d.weight<=P3 xs
 |[],d,h=>a8 h bg
 |x::r,d,h=>by
  show d.weight<=x.weight+1+P3 r;obtain e|m:=eG.mp h
  .rw[e];lia
  .let z:=Lz m;lia
noncomputable def nE:aB->V
 |.none=>.bB
 |.bool b=>.cC b
 |.int i _=>.int i
 |.str x _=>.str x
 |.bytes b _=>.hr b
 |.ref a=>.ref a
 |_=>.bB
def qA(A:List ao):aB->Prop
 |.none=>True
 |.bool _=>True
 |.int _ _=>True
 |.str _ _=>True
 |.bytes _ _=>True
 |.ref a=>a∈A
 |_=>False
def qA.cI(h:∀a∈A,a∈B):∀{u:aB},qA A u->qA B u:=λ{u} x=>by
 cases u with
 |ref a=>show h a x
 |none=>trivial
 |bool b=>trivial
 |int i t=>trivial
 |str s t=>trivial
 |bytes b t=>trivial
 |_=>show gY x
def abJ(x:qA A u):dq (nE u) u:=by
 cases u with
 |ref a=>rfl
 |none=>rfl
 |bool b=>rfl
 |int i t=>show#[t,Z]
 |str s t=>show#[t,Z]
 |bytes b t=>show#[t,Z]
 |_=>show gY x
theorem AI:∀{ac:List aB},(∀u∈ac,qA A u)->dA (ac.map nE) ac
 |[],_=>.nil
 |u::r,h=>.cons (abJ<|h u<|fD ..)<|AI λx a=>h x<|e9 _ a
def rz(h:df)(A:List ao)(a:ao):Prop:=∃ac:List aB,ac.length<=sizeLine/\(∀u∈ac,qA A u)/\
 (h.get? a=Y {cls:=.type "list",data:=.seq ac.toArray}\/h.get? a=Y {cls:=.type "tuple",data:=.seq ac.toArray})
theorem rz.cI(k:∀a∈A,a∈B)(x:rz h A a):rz h B a:=by let#[ac,d,e,b]:=x;show#[ac,d,λu c=>(e u c).cI k,b]
theorem GT:∀{ac:List aB}{ds:List lB},vN P h ac ds->ac.length=ds.length
 |_,_,.nil=>rfl
 |_,_,.cons _ b=>by show _+1=_+1;rw[GT b]
def Td(x:Well P h v (.list ds)):∃(a:ao) (ac:List aB),v=.ref a/\h.get? a=Y {cls:=.type "list",data:=.seq ac.toArray}/\vN P h ac ds:=by
 cases x with
 |list c b=>show#[_,9,c,b]
def Te(x:Well P h v (.tuple ds)):∃(a:ao) (ac:List aB),v=.ref a/\h.get? a=Y {cls:=.type "tuple",data:=.seq ac.toArray}/\vN P h ac ds:=by
 cases x with
 |tuple c b=>show#[_,9,c,b]
def Tf(x:vN P h us (d::ds)):∃(v:aB) (ac:List aB),us=v::ac/\Well P h v d/\vN P h ac ds:=by
 cases x with
 |cons a b=>show#[_,9,a,b]
def Tg(h:n<=1048576):n<=sizeLine:=dK h cn
section
variable {P:jt}{h:df}
mutual
theorem abK:∀(d:lB) (v:aB),Well P h v d->ry d=O->d.weight<=1048576->∃A:List ao,qA A v/\∀a∈A,rz h A a
 |.none,_,x,_,_=>by cases x;show#[[],trivial,λa m=>a8 m bg]
 |.bool b,_,x,_,_=>by cases x;show#[[],trivial,λa m=>a8 m bg]
 |.int i,_,x,_,_=>by cases x;show#[[],trivial,λa m=>a8 m bg]
 |.str s,_,x,_,_=>by cases x;show#[[],trivial,λa m=>a8 m bg]
 |.bytes b,_,x,_,_=>by cases x;show#[[],trivial,λa m=>a8 m bg]
 |.list ds,_,x,p,z=>by
  let#[a,ac,rfl,o,f]:=Td x;let c:=z;let#[A,n,j]:=GU ds _ f p λd g=>dK (Lz g) c;let k:∀b∈A,b∈a::A:=λb ae=>e9 _ ae;show#[a::A,fD ..,λb ae=>?_];obtain e|m:=eG.mp ae
  .rw[e];show#[ac,Tg (by rw[GT f];show dK (OI ds) c),λu l=>(n u l).cI k,.inl o]
  .show(j b m).cI k
 |.tuple ds,_,x,p,z=>by
  let#[a,ac,rfl,o,f]:=Te x;let c:=z;let#[A,n,j]:=GU ds _ f p λd g=>dK (Lz g) c;let k:∀b∈A,b∈a::A:=λb ae=>e9 _ ae;show#[a::A,fD ..,λb ae=>?_];obtain e|m:=eG.mp ae
  .rw[e];show#[ac,Tg (by rw[GT f];show dK (OI ds) c),λu l=>(n u l).cI k,.inr o]
  .show(j b m).cI k
 |.float _,_,_,p,_=>qb<|show J=O from p
 |.dict _,_,_,p,_=>qb<|show J=O from p
 |.bytearray _,_,_,p,_=>qb<|show J=O from p
 |.set _,_,_,p,_=>qb<|show J=O from p
 |.frozenset _,_,_,p,_=>qb<|show J=O from p
 |.obj _ _,_,_,p,_=>qb<|show J=O from p
theorem GU:∀(ds:List lB) (ac:List aB),vN P h ac ds->tH ds=O->(∀d∈ds,d.weight<=1048576)->∃A:List ao,(∀u∈ac,qA A u)/\∀a∈A,rz h A a
 |[],_,x,_,_=>by cases x;show#[[],λu m=>a8 m bg,λa m=>a8 m bg]
 |d::ds,_,x,p,z=>by
  let#[v,ac,rfl,i,g]:=Tf x;let q:=Js.mp p;let#[A,l,k]:=abK d v i q.1<|z d<|fD ..;let#[B,cf,cv]:=GU ds ac g q.2 λe j=>z e<|e9 _ j;let c:∀b∈A,b∈A++B:=λb ae=>iV.mpr<|.inl ae;let f:∀b∈B,b∈A++B:=λb ae=>iV.mpr<|.inr ae;show#[A++B,λu n=>?_,λb ae=>?_]
  .obtain e|m:=eG.mp n
   .show e▸(l.cI c)
   .show(cf u m).cI f
  .obtain m|m:=iV.mp ae
   .show(k b m).cI c
   .show(cv b m).cI f
end
end
def GV(o:Obj):Option hs:=match o.data with
 |.seq ac _=>if (o.cls==vY "list")=O then Y (.fH o<|.bq<|ac.toList.map nE)else Y (.fH o<|.cu<|ac.toList.map nE)
 |_=>U
def mr(K:b2)(h:df)(A:List ao):aw:=λb=>if b∈A then (if (K.lookup b).isNone=O then (h.get? b).bind GV else U)else U
def GW(H:aw):Prop:=∀b,H b=U\/∃o u,H b=Y (.fH o u)
def Tj(ac:List aB):GV {cls:=.type "list",data:=.seq ac.toArray}=Y (.fH {cls:=.type "list",data:=.seq ac.toArray} (.bq<|ac.map nE)):=by show(if (vY "list"==vY "list")=O then Y (hs.fH {cls:=.type "list",data:=.seq ac.toArray} (.bq<|ac.toArray.toList.map nE))else Y (hs.fH {cls:=.type "list",data:=.seq ac.toArray} (.cu<|ac.toArray.toList.map nE)))=_;rw[aR<|beq_self_eq_true _]
def Tl(ac:List aB):GV {cls:=.type "tuple",data:=.seq ac.toArray}=Y (.fH {cls:=.type "tuple",data:=.seq ac.toArray} (.cu<|ac.map nE)):=by show(if (vY "tuple"==vY "list")=O then Y (hs.fH {cls:=.type "tuple",data:=.seq ac.toArray} (.bq<|ac.toArray.toList.map nE))else Y (hs.fH {cls:=.type "tuple",data:=.seq ac.toArray} (.cu<|ac.toArray.toList.map nE)))=_;rw[aM cn]
section
variable {P:eZ}{w:dM}{K:b2}{h:df}{A:List ao}
def GX(ae:b∈A)(a:K.lookup b=U)(e:h.get? b=Y o):mr K h A b=GV o:=by unfold mr;rw[aR ae,a,aR (show(U:Option Obj).isNone=O from Z),e]<;>rfl
def abL(q:mr K h A b=Y u):b∈A/\K.lookup b=none:=by
 unfold mr at q;by_cases ae:b∈A
 .rw[aR ae]at q
  cases a:K.lookup b with
  |none=>show#[ae,Z]
  |some o=>rw[a,aM bg]at q;cases q
 .rw[aM ae]at q;cases q
def GY(d:∀a∈A,rz h A a)(q:mr K h A b=Y u):K.lookup b=U/\∃ac:List aB,ac.length<=sizeLine/\(∀u∈ac,qA A u)/\
  ((h.get? b=Y {cls:=.type "list",data:=.seq ac.toArray}/\u=.fH {cls:=.type "list",data:=.seq ac.toArray} (.bq<|ac.map nE))\/
   (h.get? b=Y {cls:=.type "tuple",data:=.seq ac.toArray}/\u=.fH {cls:=.type "tuple",data:=.seq ac.toArray} (.cu<|ac.map nE))):=by
 let#[ae,c]:=abL q
 let#[ac,g,i,f]:=d b ae
 show#[c,ac,g,i,?_]
 obtain e|e:=f
 .rw[GX ae c e,Tj]at q;show .inl #[e,(iX q).symm]
 .rw[GX ae c e,Tl]at q;show .inr #[e,(iX q).symm]
def abM(c:∀a∈A,rz h A a):GW (mr K h A):=λb=>by
 cases q:mr K h A b with
 |none=>show .inl Z
 |some u=>
  obtain⟨w,ac,w,w,⟨w,e⟩|⟨w,e⟩⟩:=GY c q
  .show .inr #[7,by rw[e]]
  .show .inr #[7,by rw[e]]
def abN(f:∀a∈A,rz h A a):f8 P w (mr K h A) h:=λb u q=>by
 obtain⟨v,ac,c,d,⟨e,rfl⟩|⟨e,rfl⟩⟩:=GY f q
 .show#[e,by rwa[hR],ac,_,AI d,e]
 .show#[e,by rwa[hR],ac,AI d,_,e,Z,9]
def GZ{ac us:List aB}(e:(Y {cls:=c,data:=.seq ac.toArray}:Option Obj)=Y {cls:=lC,data:=.seq us.toArray}):c=lC/\ac=us:=by
 let a:=iX e;let b:c=lC:=congrArg Obj.cls a;let d:Fp ac.toArray=Fp us.toArray:=congrArg Obj.data a;injection d with f
 show#[b,?_];let g:=congrArg Jv f;simpa using g
def abO(j:K.In h)(i:∀a∈A,rz h A a){ac:List aB}(d:a∈A)(e:h.get? a=Y {cls:=.type "list",data:=.seq ac.toArray}):(∀u∈ac,qA A u)/\bM K (mr K h A) a (ac.map nE):=by
 let#[g,l,f,k]:=i a d
 let m:g=ac:=by
  obtain q|q:=k
  .rw[e]at q;show(GZ q).2.symm
  .rw[e]at q;show a8 (P0 (GZ q).1) cn
 subst m
 show#[f,?_]
 cases b:K.lookup a with
 |none=>show .inl (.inr #[_,by rw[GX d b e,Tj]])
 |some o=>have c:=j a o b;rw[e]at c;obtain rfl:=iX c;show .inr #[_,g.toArray,_,b,Z,Z,Z,by rwa[iU],by simpa using AI f]
def abP(j:K.In h)(i:∀a∈A,rz h A a){ac:List aB}(d:a∈A)(e:h.get? a=Y {cls:=.type "tuple",data:=.seq ac.toArray}):(∀u∈ac,qA A u)/\gb K (mr K h A) a (ac.map nE):=by
 let#[g,l,f,k]:=i a d
 let m:g=ac:=by
  obtain q|q:=k
  .rw[e]at q;show a8 (P0 (GZ q).1) cn
  .rw[e]at q;show(GZ q).2.symm
 subst m
 show#[f,?_]
 cases b:K.lookup a with
 |none=>show .inl (.inr #[_,by rw[GX d b e,Tl]])
 |some o=>have c:=j a o b;rw[e]at c;obtain rfl:=iX c;show .inr #[_,g.toArray,_,b,Z,Z,by rwa[iU],by simpa using AI f]
mutual
theorem abQ{l:jt}(e:K.In h)(c:∀a∈A,rz h A a):∀(d:lB) (v:aB),Well l h v d->ry d=O->qA A v->kQ K (mr K h A) (nE v) d
 |.none,_,x,_,_=>by cases x;show .bB
 |.bool b,_,x,_,_=>by cases x;show .cC b
 |.int i,_,x,_,_=>by cases x;show .int i
 |.str s,_,x,_,_=>by cases x;show .str s
 |.bytes b,_,x,_,_=>by cases x;let z:=kQ.hr (K:=K) (H:=mr K h A) b.toArray;show z
 |.list ds,_,x,p,j=>by let#[a,ac,rfl,k,g]:=Td x;let#[f,ai]:=abO e c j k;show .bq ai<|G0 e c ds _ g p f
 |.tuple ds,_,x,p,j=>by let#[a,ac,rfl,k,g]:=Te x;let#[f,ai]:=abP e c j k;show .cu ai<|G0 e c ds _ g p f
 |.float _,_,_,p,_=>qb<|show J=O from p
 |.dict _,_,_,p,_=>qb<|show J=O from p
 |.bytearray _,_,_,p,_=>qb<|show J=O from p
 |.set _,_,_,p,_=>qb<|show J=O from p
 |.frozenset _,_,_,p,_=>qb<|show J=O from p
 |.obj _ _,_,_,p,_=>qb<|show J=O from p
theorem G0(c:K.In h)(b:∀a∈A,rz h A a):∀(ds:List lB) (ac:List aB),vN Tn h ac ds->tH ds=O->(∀u∈ac,qA A u)->qz K (mr K h A) (ac.map nE) ds
 |[],_,x,_,_=>by cases x;show .nil
 |d::ds,_,x,p,e=>by let#[v,ac,rfl,g,f]:=Tf x;let q:=Js.mp p;show .cons (abQ c b d v g q.1<|e _<|fD ..)<|G0 c b ds ac f q.2 λu m=>e u<|e9 _ m
end
end
def abR{w:dM}{K:b2}{aL C:Str->Option aB}{c9:jl}{k:Nat}{T:ao}{fd:oB}{ps:List Str}{sp:j4}{dP:bl}{a:List aB}{ds:List lB}{R:OP}{cl:Str->Option ao}{B:lB}
  (E:K.In dP.heap) (Q:dP.heap.Ns k0 aL) (ae:dP.heap.Ns EH C) (Ls:∀x:Str,x≠"__name__"->C x=oA x) (Lu:dP.heap.NoLimit) (cL:dP.gens=[].toArray)
  (p:vN w.params dP.heap a ds) (gI:tH ds=O) (l:∀d∈ds,d.weight<=1048576) (af:e5 k qX)
  (F:∀base:df,K.In base->base.Ns k0 aL->ny P w K aL base c9 k T fd ps sp) (Lv:∀(s:bl) (us:List aB),us.length=ps.length->zB s fd #[us,[]] (ps.zip us)) (qu:ds.length=ps.length)
  (rr:∀(H:aw) (xs:List V),GW H->qz K H xs ds->sp xs H (λv M=>kQ K M v B) λ_ _ _=>False)
  (Dm:∀H e s',c9 [] H dP (λ_ _ _=>False) e s'->False):
  pg (bJ P w) qX (.call (.ref T) #[a,[]]) (λr s'=>∃u as,r=.ok (.ret u)/\ReadsW R cl s'.heap u B as/\OldK dP.heap s'.heap/\s'.os=dP.os/\s9 s'.gens) dP:=by
 let#[A,X,f]:=GU ds a p gI l
 let y:GW (mr K dP.heap A):=abM f
 let t:f8 P w (mr K dP.heap A) dP.heap:=abN f
 let S:=G0 E f ds a p gI X
 let D:=AI X
 let iM:∀b u,mr K dP.heap A b=Y u->K.lookup b=none:=λb u q=>(GY f q).1
 let wM:∀{b:ao}{o:Obj}{c:Array zA}{cD:Nat},dP.heap.get? b=Y o->o.data=.dict c cD->mr K dP.heap A b=none:=λ{b o c cD} e d=>by
  cases q:mr K dP.heap A b with
  |none=>rfl
  |some u=>
   obtain⟨_,ac,_,_,⟨g,_⟩|⟨g,_⟩⟩:=GY f q
   .rw[g]at e;cases e;let i:Fp ac.toArray _=Data.dict c cD:=d;cases i
   .rw[g]at e;cases e;let i:Fp ac.toArray _=Data.dict c cD:=d;cases i
 generalize mr K dP.heap A=H at y t S iM wM
 let N:∀{b:ao}{o:Obj},dP.heap.get? b=Y o->H b=U->(qn dP.heap H).get? b=Y o:=λe n=>Rc e n
 let h:∀{b:ao}{m:Str->Option aB},dP.heap.Ns b m->(qn dP.heap H).Ns b m:=λ{b m} #[o,c,cD,e,d,r]=>#[o,c,cD,N e<|wM e d,d,r]
 let G:∀b o,K.lookup b=Y o->H b=none:=λb o e=>by
  cases q:H b with
  |none=>rfl
  |some u=>rw[iM b u q]at e;cases e
 let Do:K.In (qn dP.heap H):=λb o e=>N (E b o e)<|G b o e
 let Lw:Mod K aL (qn dP.heap H):=#[Do,h Q,#[C,h ae,Ls],let ⟨mc,h1,aj⟩:=Lu;#[mc,h h1,aj]]
 let dz:sv P w K aL (qn dP.heap H) qX [] dP H:=#[Z,Lw,λb o e=>Rd e,qY<|Rb _ _,trivial,λb ae=>a8 (show b∈([]:List ao)from ae) bg,t,.of_eq cL]
 let hl:a.length=ps.length:=by rw[GT p];show qu
 show xJ ((F _ Do<|h Q).run qX [] dP H #[a,[]] a (a.map nE) _ _ af dz (Lv dP a hl) D<|rr H _ y S) λr s' x=>?_
 cases r with
 |error e=>show(Dm H e s' x).elim
 |ok jH=>
  cases jH with
  |next=>show gY x
  |brk=>show gY x
  |cont=>show gY x
  |ret u=>
   let#[v,M,os,f9,un,W,bt,q]:=x;let kept:∀b o,dP.heap.get? b=Y o->s'.heap.get? b=Y o:=λb o e=>by
    cases I:H b with
    |none=>show un.keep b o e I (by intro z;show a8 (show b∈([]:List ao)from z) bg) bg
    |some hj=>
     obtain z|⟨ob,qC,z⟩:=y b
     .rw[I]at z;cases z
     .let cc:=un.lf b ob _ z;let#[L,_]:=t b _ z;let#[g,_]:=W b _ cc;rw[e]at L;cases L;show g
   let j:K.In s'.heap:=λb o e=>kept b o<|E b o e;let#[as,sf]:=kQ.reads (R:=R) (cl:=cl) W j B v u q bt;show#[u,as,Z,sf,OldK.of_keep kept,os,f9]
def abW(h:WData.layableAll ds=O):∀d∈ds,d.weight<=1048576:=λd a=>(PySem.W.layableW_iff.mp<|BY.mp h d a).2.2
theorem To:∀(b:List Codec) (a:Cg b),(xW b a).length=b.length
 |[],_=>rfl
 |c::b,a=>by show(xW b a.2).length+1=b.length+1;rw[To b a.2]
def abX{k:Nat}{q:eZ}{c:List Str}{ja:(Str->Option aB)->df->Prop}{j:dM->df->Prop}{d:DefRec}{K:jt->b2}{c9:dM->jl}{ps:List Str}{sp:dM->j4}
  (p:r.wellSaid=O) (alW:d.params.defaults=[]) (qu:r.args.length=ps.length) (S:e5 k qX)
  (t:∀(w:dM) (h:df),j w h->(K w.params).In h)
  (F:∀(w:dM) (aL:Str->Option aB) (i:ao) (h:df),j w h->(K w.params).In h->h.Ns k0 aL->aL d.name=some (.ref i)->
   ∃fd:oB,(∀(s:bl) (us:List aB),us.length=ps.length->zB s fd #[us,[]] (ps.zip us))/\
    ∀base:df,(K w.params).In base->base.Ns k0 aL->ny r.prog w (K w.params) aL base (c9 w) k i fd ps (sp w))
  (rr:∀(w:dM) (H:aw) (xs:List V) (a:Cg r.args),GW H->Codec.withinAll r.args a=O->zW r.args r.asked a=O->qz (K w.params) H xs (xW r.args a)->
   sp w xs H (λv P=>kQ (K w.params) P v<|r.ret.enc<|zW r.args r.f a) λ_ _ _=>False)
  (Dm:∀(w:dM) (H:aw) (s:bl) (e:aB) (s':bl),c9 w [] H s (λ_ _ _=>False) e s'->False):
  OR q c ja j r d [] (λf ac=>ph f ac):=by
 intro w eb L aL n8 G Y i o pm cd doc KV ez bv hd sj wS m cL args y as n x sf Dq X
 let#[a,M,D]:=PySem.W.os_pre_some n
 let#[N,B]:=Codec.encAll_of_decAll r.args args a M
 subst N
 let A:=t w _ Y
 let#[fd,ae,C]:=F w aL i _ Y A G.T.g m
 show PySem.W.enter_call (xJ (abR (R:=[]) (cl:=classAt eb.heap) A G.T.g G.T.b G.T.builtins G.T.nolimit cL Dq (Tc _ _) (abW x) S C ae (by rw[To];show qu)
  (λH xs I gO=>rr w H xs a I B D gO) λH e s'=>Dm w H L e s') λbt s' Q=>?_)
 let#[u,l,rfl,h1,aj,bO,E]:=Q
 show#[.inl #[u,_,l,Z,λ_=>rfl,h1,(OpenSpec.post_iff p B _ _).mpr Z,λz=>qb<|show J=O from z],aj,bO,E]
end L2
namespace Ho
open PySem PySem.Spec PyProof.Rows L2 PySem.Builtin.ObjectAttr
open Sn24(Bytes ascii Bad digit letter Proc)
inductive u1(h:df)(e T:ao)(cls:aB)(d:Option ao)(x:aB):Prop
 |mk (ix pP:Obj) (ac ts:Array aB) (_:h.get? e=Y ix) (_:ix.cls=cls) (_:ix.dict=d) (_:ix.data=.fields ac) (_:ac[1]?=Y (.ref T)) (_:T≠e) (_:h.get? T=Y pP) (_:pP.data=.fields ts) (_:ts[3]?=Y x):u1 h e T cls d x
abbrev yS(h:df)(e T:ao)(a:aB)(d:Option ao):Prop:=u1 h e T a d .none
def u2{o:Obj}{ac:Array aB}(a:o.data=.fields ac)(f:Array aB->Array aB):(o.mapFields f).cls=o.cls/\(o.mapFields f).dict=o.dict/\(o.mapFields f).data=.fields (f ac):=by let#[c,d,b,e]:=o;cases a;show#[Z,Z,Z]
section
variable {M:Model}{A:e0}
def G1{base:df}
  (v:A.frames=Y (c::bc)) (r:s.heap.FunFrames base (c::bc)) (C:c.frame=Y L) (j:s.heap.get? e=Y ix) (k:ix.data=.fields ac) (B:1<ac.size)
  (h:∀h' u ts,h'.get? e=Y (ix.mapFields (·.setIfInBounds 1 (.ref s.heap.objs.size)))->h'.get? s.heap.objs.size=Y u->u.data=.fields ts->ts[3]?=Y (k1 L)->3<ts.size->
   (∀b o,b≠e->b∉eT (c::bc)->s.heap.get? b=Y o->h'.get? b=Y o)->(∀b o,b≠e->s.heap.get? b=Y o->∃i,h'.get? b=Y {o with slots:=i})->Q () {s with heap:=h'}):
  bP M A (do let a <-frameOf c;let pl <-entryPlaceOf L aJ;let b <-EntryCells.newEntry head a .none (k1 L) .none pl;setField (.ref e) 1 b) Q E s:=by
 let l:e∉eT (c::bc):=λhm=>by let#[W,o,D,q]:=r.mem hm;cases j▸D;show q ac k
 show aY<|wpAny_frameOf_fun v r C λg sg=>aY<|wpAny_entryPlaceOf λpl aC=>?_
 show aY<|BG ?_<|aC.sizeOk5 _ _ _ _ _
 let t:=(sg.2.1 e l).trans j
 let m:=sg.1
 show vB (fv _ t) k B ?_
 rw[m]
 let p:∀{b:ao}{o:Obj},g.get? b=Y o->b≠e->∀(f:Obj->Obj) (n:Obj),((g.push n).update e f).get? b=Y o:=λ{b o} q d f n=>by rw[r1 _ _<|c5 d];show fv _ q
 let w:3<([head,.ref L,.none,k1 L,.none]++(if pl.isEmpty then E4 6 ka else pl)).toArray.size:=by simp only[iU,ju,gi,Jm];lia
 let y:([head,.ref L,.none,k1 L,.none]++(if pl.isEmpty then E4 6 ka else pl)).toArray[3]?=Y (k1 L):=by simp
 show h _ {cls:=.type "traceback",dict:=U,data:=.fields ([head,.ref L,.none,k1 L,.none]++(if pl.isEmpty then E4 6 ka else pl)).toArray} _
  (zK _ (fv _ t)<|Fd (u2 k _).2.2) ?_ Z y w (λb o d x q=>p ((sg.2.1 b x).trans q) d _ _) λb o d q=>?_
 .rw[r1 _ _<|c5<|lZ<|dF j,<-m];show jO _ Z
 .let#[i,z]:=sg.2.2 b o q;show#[i,p z d _ _]
structure AJ(bb:List ao)(e T:ao)(h h':df):Prop where
 ee:∀b o,b≠e->b≠T->b∉bb->h.get? b=Y o->h'.get? b=Y o
 lG:∀b o,b≠e->b≠T->h.get? b=Y o->∃c2,h'.get? b=Y {o with slots:=c2}
def AK{e L:ao}(d:s.heap.get? e=Y ix)(c:ix.data=.fields ac)(h1:ac[1]?=Y (.ref T))(g:T≠e)
  (i:s.heap.get? T=Y pP) (eE:pP.data=.fields ts) (z:3<ts.size)
  (h:∀h',yS h' e T ix.cls ix.dict->(∀b,b≠T->h'.get? b=s.heap.get? b)->Q () {s with heap:=h'}):bP M A (setFlight (.ref e) U) Q E s:=by
 show aY<|jM d c h1 ?_
 let a:∀b,b≠T->(s.heap.update T<|rb (·.setIfInBounds 3 ((U:Option ao).elim ka λf=>k1 f))).get? b=s.heap.get? b:=λb j=>r1 _ _<|c5 j
 show vB i eE z (h _ #[ix,_,ac,_,(a e<|c5 g).trans d,Z,Z,c,h1,g,zK _ i<|Fd (u2 eE _).2.2,(u2 eE _).2.2,by simp[z]] a)
def ab5{base:df}
  (j:A.frames=Y (a::bc)) (w:s.heap.FunFrames base (a::bc)) (g:a.frame=Y L) (f:s.heap.get? e=Y ix) (c:ix.data=.fields ac) (h1:ac[1]?=Y .none)
  (h:∀h',yS h' e s.heap.objs.size ix.cls ix.dict->AJ (eT (a::bc)) e e s.heap h'->Q () {s with heap:=h'}):bP M A («leaving» a<|.ref e) Q E s:=by
 let z:=(q9.mp h1).1
 unfold «leaving» ui
 simp only[g]
 show aY<|aY<|jM f c h1 ?_
 show G1 j w g f c z λh' H G C l x F B k u=>?_
 let#[y,p,m]:=u2 c (·.setIfInBounds 1 (.ref s.heap.objs.size))
 show AK (L:=L) C m (by simp[z]) (lZ<|dF f) l x B λn t o=>h n (by rwa[y,p]at t) #[λb ob d D r q=>((o b<|eg<|dF q)▸(k b ob d r q)),λb ob d D q=>?_]
 .let#[v,i]:=u b ob d q;show#[v,by rwa[o b<|eg<|dF q]]
def ab6{base:df}
  (x:A.frames=Y (c::bc)) (H:s.heap.FunFrames base (c::bc)) (v:c.frame=Y L) (B:yS s.heap e T cls d)
  (h:∀h',yS h' e s.heap.objs.size cls d->AJ (eT (c::bc)) e T s.heap h'->Q () {s with heap:=h'}):bP M A («leaving» c<|.ref e) Q E s:=by
 let#[ix,pP,ac,P,i,R,D,j,u,X,g,eE,p]:=B
 let z:=(q9.mp u).1
 unfold «leaving» ui
 simp only[v]
 show aY<|aY<|jM i j u ?_
 show aY<|jM g eE p ?_
 show aY<|vB g eE ((q9.mp p).1) ?_
 let a:∀b,b≠T->(s.heap.update T<|rb (·.setIfInBounds 3 ka)).get? b=s.heap.get? b:=λb y=>r1 _ _<|c5 y
 let F:∀b o,s.heap.get? b=Y o->(∀ws,o.data≠.fields ws)->b≠T:=λb o q f r=>by rw[r,g]at q;cases q;show f P eE
 let jh:(s.heap.update T<|rb (·.setIfInBounds 3 ka)).objs.size=s.heap.objs.size:=I6 ..
 show G1 (s:={s with heap:=s.heap.update T (rb (·.setIfInBounds 3 ka))}) x (H.of_keeps λb o q f=>#[o,(a b<|F b o q f).trans q,Z]) v ((a e<|c5 X).trans i) j z λh' wX G2 n m I n6 N S sq=>?_
 rw[jh]at n m
 let#[K,C,V]:=u2 j (·.setIfInBounds 1 (.ref s.heap.objs.size))
 show AK (L:=L) n V (by simp[z]) (lZ<|dF i) m I N λW t o=>h W (by rwa[K,C,R,D]at t) #[λb ob k l f q=>((o b<|eg<|dF q)▸(S b ob k f<|(a b l).trans q)),λb ob k l q=>?_]
 .let#[G,w]:=sq b ob k<|(a b l).trans q;show#[G,by rwa[o b<|eg<|dF q]]
end
section
variable (P:eZ) (w:dM) (b8:ao->Prop)
inductive eV(bc:List Env)(H:aw)(s:bl)(E:dG)(e:aB)(s':bl):Prop
 |mk (bf T bD C:ao) (n:Int) (hv:Tok) (ab:aw) (m:Str->Option aB) (_:e=.ref bf) (_:b8 C) (_:s.heap.objs.size<=bf/\s.heap.objs.size<=T/\s.heap.get? bD=U)
  (_:yS s'.heap bf T (.ref C) (Y bD)) (_:s'.heap.Ns1 bD m/\m "number"=Y (.int n hv)) (_:bD≠bf/\bD≠T) (_:ab bf=U/\ab T=U/\ab bD=U)
  (_:s'.os=s.os) (_:s9 s'.gens) (_:ia (eT bc) [] H ab s.heap s'.heap) (_:f8 P w ab s'.heap) (_:E (.int n 0) U ab):eV bc H s E e s'
end
def LB(x:f8 P w H h)(k:AJ bb e T h h')(g:H e=U)(j:H T=U)(f:∀b∈bb,H b=U):f8 P w H h':=λa o q=>by
 show(x a o q).oO (λb u ae r=>?_) (λy z=>z) λy y z=>z;let ai:∃v,H b=Y v:=by
  obtain rfl|ae:=ae
  .show#[o,q]
  .show#[_,ae]
 let#[v,c]:=ai;let d:b≠e:=λz=>by rw[z,g]at c;cases c
 let l:b≠T:=λz=>by rw[z,j]at c;cases c
 let i:b∉bb:=λz=>by rw[f b z]at c;cases c
 show k.ee b u d l i r
section
variable {P:eZ}{w:dM}{b8:ao->Prop}{K:b2}{aL:Str->Option aB}{base:df}{N:List Str}{qual:Str}
def aQ:nz (eV P w b8) (hx (eV P w b8) P w K aL base N qual scope f cd A bc eb gS E) E:=by
 intro ah σ H s e s' I X;let#[D,T,c,C,n,V,Q,m,rfl,W,#[B,cc,y],fz,#[u,hm],#[v,o0],#[x,R,fm],os,G,un,j,q]:=X;let h:=I.yx (s':=s') os un j G λb z=>a8 z bg;let jh:=I.jh;let wY:c∉eT (hx (eV P w b8) P w K aL base N qual scope f cd A bc eb gS E).stack:=λae=>by let#[_,o,bv,_]:=I.stack.mem ae;cases y▸bv
 let LC:eb.heap.get? c=none:=by
  cases e:eb.heap.get? c with
  |none=>rfl
  |some o=>let#[S,F]:=I.base.there c o e (by simp[hx]);rw[y]at F;cases F
 show ab6 I.ok.frames h.stack Z fz λh' t k=>?_;let M:=λo r=>k.ee c o v o0 wY r;let Ds:c<s'.heap.objs.size:=by let#[o,_,_,r,_]:=u;show dF r
 show#[D,s'.heap.objs.size,c,C,n,V,Q,m,Z,W,#[dK jh B,h.jh,LC],t,#[u.at M,hm],#[v,eg Ds],#[x,j.fresh<|bK _,fm],h.os,G,?_,LB j k x R h.Al,q];let a:=h.base;let g:∀{b:ao}{o:Obj},eb.heap.get? b=Y o->b≠D/\b≠T:=λ{b o} r=>#[λz=>a8 (dF r) (p6.mpr (by rw[z];show dK jh B)),λz=>a8 (dF r)<|p6.mpr (by rw[z];show dK jh cc)];let wZ:∀{b:ao}{o:Obj},eb.heap.get? b=Y o->b∉eT bc->b∉eT (hx (eV P w b8) P w K aL base N qual scope f cd A bc eb gS E).stack:=λ{b o} r d z=>by
  obtain q|q:=eG.mp (I.yw b z)
  .let c8:=q;show a8 (dF r) (by rw[c8];show m8 _)
  .show d q
 show#[λb o r n d i=>?_,λb o r n d i=>?_,a.free,λb o r i=>?_,a.mQ,a.lf,a.mR]
 .show k.ee b o (g r).1 (g r).2 (wZ r d)<|a.keep b o r n d i
 .let#[c2,l]:=a.slot b o r n d i;let#[L,p]:=k.lG b _ (g r).1 (g r).2 l;show#[L,p]
 .let#[S,l]:=a.there b o r i;let#[L,p]:=k.lG b _ (g r).1 (g r).2 l;show#[_,p]
def i2:EJ (bJ P w) (hx (eV P w b8) P w K aL base N qual scope f cd A bc eb gS E).A (hx (eV P w b8) P w K aL base N qual scope f cd A bc eb gS E).env (hx (eV P w b8) P w K aL base N qual scope f cd A bc eb gS E).er:=EJ.«leaving»
end
abbrev ms(C t:ao)(d:Option ao):Obj:={cls:=.ref C,dict:=d,data:=.fields [.ref t,.none,.none,.none,.bool J,.none].toArray}
noncomputable def Dt:List aB->Bool
 |.ref _::r=>Dt r
 |l=>l==[.type "Exception",.type "BaseException",.type "object"]
theorem yT{T:String}{b:Bool}(ae:([.type "Exception",.type "BaseException",.type "object"]:List aB).contains (.type T)=b):∀{l:List aB},Dt l=O->l.contains (.type T)=b
 |.ref c::r,e=>by rw[vS,yT ae (l:=r) e];rfl
 |[],e=>by cases e
 |.type n::r,e=>by rw[show(.type n::r:List aB)=_ from eq_of_beq<|show(_==_)=O from e];show ae
 |.none::r,e=>by cases (show(_==_)=O from e)
 |.ellipsis::r,e=>by cases (show(_==_)=O from e)
 |.notImplemented::r,e=>by cases (show(_==_)=O from e)
 |.bool _::r,e=>by cases (show(_==_)=O from e)
 |.int _ _::r,e=>by cases (show(_==_)=O from e)
 |.float _ _::r,e=>by cases (show(_==_)=O from e)
 |.str _ _::r,e=>by cases (show(_==_)=O from e)
 |.bytes _ _::r,e=>by cases (show(_==_)=O from e)
 |.builtin _::r,e=>by cases (show(_==_)=O from e)
inductive qF(K:b2)(C:ao):Prop
 |mk (nm q N bs bm sn sub sB col bD o1 dW e2 kx nF) (_:K.lookup C=Y (IF nm q C N bs bm O sn sub sB col bD o1 dW e2 kx nF "Exception.__new__")) (_:Dt bm=O):qF K C
inductive Ts(K:b2)(C:ao):Prop
 |mk (nm q N bs bm AL sn sub sB col bD o1 dW e2 kx nF) (_:K.lookup C=Y (IF nm q C N bs bm AL sn sub sB col bD o1 dW e2 kx nF "Exception.__new__")) (_:AL=O) (_:bm.contains (.type "Exception")=O) (_:bm.contains (.type "BaseException")=O) (_:bm.contains (.type "AttributeError")=J) (_:bm.contains (.type "NameError")=J):Ts K C
def qF.ob{K:b2}{C:ao}(r:qF K C):Ts K C:=by let#[nm,q,N,bs,c,d,sub,f,a,b,k,h,j,g,i,e,t]:=r;show#[nm,q,N,bs,c,O,d,sub,f,a,b,k,h,j,g,i,e,Z,yT eH t,yT eH t,yT eH t,yT eH t]
section
variable {prog:eZ}{w:dM}{A:e0}{R:Result->bl->Prop}{h:df}{g:Array GenState}{d:Drawn}{t:Nat}{os:OsState}{K:b2}{C f:ao}
def ab7(X:K.In h)(l:qF K C)
  (i:R (.ok<|.ret<|.ref<|h.objs.size+1) #[(h.push {cls:=.type "tuple",data:=.seq [].toArray}).push<|ms C h.objs.size U,g,d,t,os]):
  pg (bJ prog w) A (.call (.builtin "Exception.__new__") #[[.ref C],[]]) R #[h,g,d,t,os]:=by
 let#[nm,q,N,bs,b,n,x,sub,y,m,v,u,z,s,o,r,k,p,cf,cv,fo,f]:=l.ob
 let a:=X _ _ k
 let F:=Pz
 let c:(e3 C::b).contains (.type "Exception")=true:=by rw[vS,cf,B6]
 let j:(e3 C::b).contains (.type "AttributeError")=false:=by rw[vS,fo];rfl
 let e:(e3 C::b).contains (.type "NameError")=false:=by rw[vS,f];rfl
 show codeAny_call_builtin_code (PY _ F.quiet) ?_
 simp only[checkBuiltinCall,F.newKind,F.newSplit,F.newRow]
 repeat (first|show uf a ?_|(show BE a ?_;rw[c])|show wpAny_staticBase_exc a ?_|show wpAny_madeBy_exc a ?_|simp only[bne_self_eq_false,Fa,if_false]|wp_step)
 let B:=F.ends
 show codeAny_builtinAt F.entry ?_
 (unfold BO.«BaseException.__new__»;show Os ?_)
 (show PySem.wpAt _ _ _ (stack >>= _) _ _ _)
 show Os<|PySem.wpAt_stack λE D=>Oo ?_
 wp_walk
 show Oo ?_
 rw[F.owner]
 repeat (first|with_reducible show wpAny_madeHere_exc F.canon a ?_|with_reducible show uf a ?_|(with_reducible show BE a ?_;first|rw[c]|rw[j]|rw[e])|wp_step)
 rw[nX]
 show i
end
section
variable {prog:eZ}{w:dM}{A:e0}{R:Result->bl->Prop}{h:df}{g:Array GenState}{d:Drawn}{t:Nat}{os:OsState}{K:b2}{C f:ao}
def ab8(X:K.In h)(i:qF K C)(ak:fJ K (.ref C) "__init__"=Y (Y<|.ref f))(m:BS K (.ref f)=Y (.type "function"))
  (p:pg (bJ prog w) (A.under<|.builtin "type.__call__" #[[.ref C],[]]) (.call (.ref f) #[[.ref<|h.objs.size+1],[]]) (IX (h.objs.size+1) R)
   #[(h.push {cls:=.type "tuple",data:=.seq [].toArray}).push<|ms C h.objs.size U,g,d,t,os]):
  pg (bJ prog w) A (.call (.ref C) #[[],[]]) R #[h,g,d,t,os]:=by
 let#[nm,q,N,bs,n,u,L,sub,M,s,I,H,P,G,y,F,l,B,cf,cv,fo,E]:=id i.ob
 let a:=X _ _ l
 let D:=tc_lookup
 let Q:=tc_bind<|.ref C
 show codeAny_of_tree ?_
 repeat (any_goals (first|assumption|(with_reducible show uf a ?_)|wp_step))
 show#[Z,?_]
 show codeAny_call_builtin_at (PY _ eH) entry_typeCall<|wpAny_check_type_call_sub a ?_
 repeat (first|(with_reducible show uf a ?_)|(with_reducible show wpAny_madeBy_exc a ?_)|wp_step)
 show ab7 X i ?_
 let k:∀b o,h.get? b=Y o->((h.push {cls:=.type "tuple",data:=.seq [].toArray}).push<|ms C h.objs.size U).get? b=Y o:=λb o e=>fv _<|fv _ e
 let c:K.In ((h.push {cls:=.type "tuple",data:=.seq [].toArray}).push<|ms C h.objs.size U):=X.keeps k
 let j:(e3 C::n).contains (.ref C)=true:=by simp
 repeat (first|(with_reducible show uf au ?_)|(with_reducible show BE (k _ _ a) ?_;rw[j])|wp_step)
 show(zF c ak).here ?_
 show sX<|aY<|(OQ c _ m).here ?_
 show aY<|zz ?_
 show xJ p λr x z=>?_
 obtain e|(v|_|_|_):=r<;>first|show z|show z.elim|skip
 let#[rfl,z]:=z
 show c0<|c0 z
end
section
variable {prog:eZ}{w:dM}{A:e0}{E:aB->bl->Prop}{s:bl}{K:b2}{env:Env}
def ab9{x:Sem aB}{Q:Flow->bl->Prop}(b3:A.handled=U)
  (h:bP (bJ prog w) A x (λv a=>∃bf t b C,v=.ref bf/\qF K C/\K.In a.heap/\a.heap.get? bf=Y (ms C t b)/\E (.ref bf) a) E s):
  bP (bJ prog w) A (raiseStmt env (Y x) U) Q E s:=by
 show aY<|ct h λv a z=>?_
 let#[bf,t,b,C,rfl,m,X,j,tJ]:=z
 let#[nm,q,N,bs,i,n,D,sub,F,l,e,B,G,y,o,u,f,p,cf,cv,fo,r]:=m.ob
 let#[aC,g,d,a3,os]:=a
 let c:=X _ _ f
 let k:(e3 C::i).contains (.type "BaseException")=true:=by rw[vS,cv,B6]
 repeat (first|(with_reducible show uf j ?_)|(with_reducible show uf c ?_)|(with_reducible show BE c ?_;rw[k])|wp_step)
 show wpAny_raiseNew_none b3 tJ
end
def aca(a:aB):refuseLoop a "__setattr__" [.type "Exception",.type "BaseException",.type "object"]=pure ():=by
 kernel_rfl
theorem Tu(a:aB):∀{l:List aB},Dt l=O->refuseLoop a "__setattr__" l=pure ()
 |.ref c::r,e=>by rw[refuseLoop_ref];show Tu a (l:=r) e
 |[],e=>by cases e
 |.type n::r,e=>by rw[show(.type n::r:List aB)=_ from eq_of_beq<|show(_==_)=O from e];show aca a
 |.none::r,e=>by cases (show(_==_)=O from e)
 |.ellipsis::r,e=>by cases (show(_==_)=O from e)
 |.notImplemented::r,e=>by cases (show(_==_)=O from e)
 |.bool _::r,e=>by cases (show(_==_)=O from e)
 |.int _ _::r,e=>by cases (show(_==_)=O from e)
 |.float _ _::r,e=>by cases (show(_==_)=O from e)
 |.str _ _::r,e=>by cases (show(_==_)=O from e)
 |.bytes _ _::r,e=>by cases (show(_==_)=O from e)
 |.builtin _::r,e=>by cases (show(_==_)=O from e)
section
variable {prog:eZ}{w:dM}{A:e0}{E:aB->bl->Prop}{s:bl}{K:b2}{C bf t:ao}
def acb{name:Str}{v:aB}{Q:Unit->bl->Prop}(X:K.In s.heap)(M:qF K C)(ai:fJ K (.ref C) "__setattr__"=Y (Y<|.builtin "object.__setattr__"))(D:fJ K (.ref C) name=Y U)
  (c:s.heap.get? bf=Y (ms C t U))
  (h:∀h' a3,h'.get? bf=Y (ms C t<|Y s.heap.objs.size)->h'.Ns1 s.heap.objs.size (λy=>if y=name then Y v else U)->(∀b o,b≠bf->s.heap.get? b=Y o->h'.get? b=Y o)->Q () {s with heap:=h',toks:=a3}):
  bP (bJ prog w) A (setAttr (.ref bf) name v) Q E s:=by
 let#[nm,q,N,bs,k,sn,sub,sB,L,bD,o1,dW,e2,S,V,z,ft]:=M
 let I:ES s.heap bf (ms C t U) C none:=#[c,Z,Z,kb]
 let l:=X _ _ z
 show OL X I ai ?_
 let a:=PySem.F.store_object
 let n:(e3 C::k).contains (.type "object")=true:=by rw[vS,yT (b:=O) eH ft,B6]
 let hm:vM (bJ prog w) s.heap (mroOf<|.ref C) (.ref C::k):=((Fk l).andThen .now).andThen .now
 let B:vM (bJ prog w) s.heap (IK (.ref bf)<|.type "object") true:=I.type.andThen (by show hm.andThen ?_;rw[n];show .now)
 show EA a.slot.plain a.entry<|@PySem.W.check_slot (bJ prog w) _ _ {s with toks:=s.toks+1} "object.__setattr__" "object" "__setattr__" (.ref bf) [.str name s.toks,v] [] _ a.kind a.split B (a.args (.ref bf) (.str name s.toks) v) ?_
 rw[PySem.W.osa_eq,refuse_eq]
 show aY<|aY<|I.type.here (s:={s with toks:=s.toks+1})<|aY<|hm.here (s:={s with toks:=s.toks+1}) ?_
 rw[refuseLoop_ref,Tu _ ft]
 show c0<|aY<|I.type.here (s:={s with toks:=s.toks+1})<|aY<|(zF X D).here (s:={s with toks:=s.toks+1})<|aY<|c0 ?_
 show aY<|c0<|aY ?_
 show bP _ _ (instanceDict bf O) _ _ _
 show aY<|wpAny_loadPart c<|aY ?_
 show aY<|wpAny_load l<|c0 ?_
 let i:(s.heap.push {cls:=.type "dict",data:=.dict [].toArray}).get? bf=Y (ms C t U):=fv _ c
 let j:=eg<|dF c
 show aY<|IE<|aY<|wpAny_update i<|c0 ?_
 generalize d:Heap.update (s.heap.push {cls:=.type "dict",data:=.dict [].toArray}) bf (λo=>{cls:=o.cls,dict:=Y s.heap.objs.size,data:=o.data,slots:=o.slots})=g1
 let p:g1.get? bf=Y (ms C t<|Y s.heap.objs.size):=by rw[<-d];show zK _ i Z
 let P:g1.get? s.heap.objs.size=Y {cls:=.type "dict",data:=.dict [].toArray}:=by rw[<-d,r1 _ _ j];show jO _ Z
 let G:∀b o,b≠bf->s.heap.get? b=Y o->g1.get? b=Y o:=λb o f r=>by rw[<-d,r1 _ _<|c5 f];show fv _ r
 let u:g1.Ns s.heap.objs.size (λ_=>U):=#[_,[].toArray,_,P,Z,λe q=>a8 q bg,λ_=>rfl]
 (unfold storeInDict newKeyGuard;show aY<|c0<|aY ?_)
 show wpAny_nsSet1 (PZ u) λh' m g=>?_
 let#[T,ZX,R,x,H,KM]:=m.count<|P1 name v Within.nil
 show aY (wpAny_lookBehind x (by rw[H];show pastItsLine_dict<|dK KM (by rw[gi,Jm,EE];lia)) ?_)
 show c0 ?_
 show h h' _ ((g.2 _ j).trans p) m λb o f r=>(g.2 b<|eg<|dF r).trans<|G b o f r
end
section
variable {prog:eZ}{w:dM}{A:e0}{E:aB->bl->Prop}{h:df}{g:Array GenState}{d:Drawn}{a3:Nat}{os:OsState}{K:b2}{C bf t:ao}
def acc{Q:aB->bl->Prop}(X:K.In h)(m:qF K C)(c:h.get? bf=Y (ms C t U))
  (j:∀h' t',h'.get? bf=Y (ms C t' U)->(∀b o,b≠bf->h.get? b=Y o->h'.get? b=Y o)->Q .none #[h',g,d,a3,os]):
  bP (bJ prog w) A (ph (.builtin "Exception.__init__") [.ref bf]) Q E #[h,g,d,a3,os]:=by
 let#[nm,q,N,bs,i,n,B,sub,D,l,z,y,G,x,p,v,f,s,cf,cv,fo,u]:=m.ob
 let a:=X _ _ f
 let F:=Pz
 let k:(e3 C::i).contains (.type "Exception")=true:=by rw[vS,cf,B6]
 show zz<|EA F.init.plain F.initEntry ?_
 simp only[checkBuiltinCall,F.initKind,F.initSplit,F.initRow]
 repeat (first|(with_reducible show uf c ?_)|(with_reducible show uf a ?_)|(with_reducible show BE a ?_;rw[k])|wp_step)
 show j _ h.objs.size (zK _ (fv _ c) Z) λb o e r=>?_
 .rw[r1 _ _<|c5 e];show fv _ r
end
section
variable (X:b9) (c9:jl) (E:dG)
structure FnAt(k:Nat)(f:ao)(ps:List Str)(sp:j4):Prop where
 ok:∃fd,ny X.prog X.w X.K X.aL X.base c9 k f fd ps sp/\Binds X.K fd ps []
inductive Calls(a:ao)(ac:List V)(H:aw)(Q:ck):Prop where
 |fn {k:Nat}{ps:List Str}{sp:j4}:FnAt X c9 k a ps sp->e5 k X.A->sp ac H Q E->Calls a ac H Q
 |rA {k:Nat}{f:ao}{ps:List Str}{sp:j4}:hk X.K a f->FnAt X c9 k f ps sp->e5 (k+1) X.A->
   (∀x dx,H x=U->H dx=U->dx≠x->sp (.ref x::ac) (aE (aE H dx<|.own x) x<|.b7 a dx []) (λv ay=>v=.bB/\Q (.ref x) ay) E)->Calls a ac H Q
 |Tw:p7 X.K a=O->fJ X.K (.ref a) "__init__"=Y (Y<|.builtin "object.__init__")->e5 1 X.A->ac=[]->
   (∀x dx,H x=U->H dx=U->dx≠x->Q (.ref x) (aE (aE H dx<|.own x) x<|.b7 a dx []))->Calls a ac H Q
end
def Calls.hH(c:Calls X c9 E a ac H Q)(g:nz c9 X E)(I:aN X ah σ H s)(r:dA ac us):bP (bJ X.prog X.w) X.A (ph (.ref a) us) (lK X ah σ Q) X.er s:=by
 cases c with
 |fn F f h=>let#[fd,F,b]:=F.ok;show aae F f b .nil g I r (by rwa[uv])
 |rA M F f h=>let#[fd,F,b]:=F.ok;show aaf M F f b .nil g I r (by rwa[uv])
 |Tw hm ak f e h=>
  subst e;cases r;show zz<|Z0 I.fS hm ak (λd=>.of_pure<|PySem.W.oi_bind d) ?_;let i:((s.heap.push qZ).push<|q0 a s.heap.objs.size).get? (s.heap.objs.size+1)=Y (q0 a s.heap.objs.size):=by heap_get
  let sub:vM (bJ X.prog X.w) ((s.heap.push qZ).push<|q0 a s.heap.objs.size) (IK (.ref<|s.heap.objs.size+1)<|.type "object") true:=by show((Fk i).andThen .now).andThen<|(IY I.fS hm).top.keeps λb o e=>fv _<|fv _ e
  show EA PySem.W.oi_plain PySem.W.entry_oi<|@PySem.W.check_slot (bJ X.prog X.w) _ _ _ "object.__init__" "object" "__init__" (.ref<|s.heap.objs.size+1) [] [] _ PySem.W.oi_kind PySem.W.oi_split sub (PySem.W.oi_args<|.ref<|s.heap.objs.size+1) ?_;show c0 #[Z,#[V.ref<|s.heap.objs.size+1,_,aN.made I,Z,h (s.heap.objs.size+1) s.heap.objs.size (I.bL.fresh<|iT _) (I.bL.fresh<|bK _)<|eg<|k2 _]]
inductive LI(X:b9)(c9:jl)(E:dG)(t:j2)(σ:L2.St)(Q:ck)(x:V)(H1:aw):Prop
 |mk (a) (_:x=.ref a) (_:nV X.K (.ref a)=O) (_:t σ H1 λac ay=>Calls X c9 E a ac ay Q):LI X c9 E t σ Q x H1
def yU(X:b9)(c9:jl)(E:dG)(b:TE)(t:j2):TE:=λa H Q=>b a H λx H1=>LI X c9 E t a Q x H1
def LJ(v:nz c9 X E)(f:bS X func Dv)(j:mf X (e::es) t)(ai:eN (e::es) X.env=(J,eval e X.env)::eN es X.env:=by rfl)(k:(jN pos<|eN es X.env).any (·.1)=false:=by rfl)
  (n:eval (.Call func (e::es) [] pos) X.env=(do vE pos (<-eval func X.env) [] (jN pos<|eN (e::es) X.env) (rV pos<|rT [] X.env)):=by rfl):
  bS X (.Call func (e::es) [] pos) (yU X c9 E Dv t):=by
 intro c s d H Q I h
 show Call_ (ct (f c s d H _ I h) λu l W=>?_) n;let#[x,H1,o,m,a,g,p,q]:=W
 subst g
 obtain rfl:u=e3 a:=m
 show IV I.ok.mod.CW p (ct (j pos c l d H1 _ o q) λy z #[ac,w,b,r,i]=>#[b.fS,?_]) ai k
 show i.hH v b r
def pR(k:nz c9 X E)(c:bS X func Dv)
  (i:eval (.Call func [] [] pos) X.env=(do vE pos (<-eval func X.env) [] (jN pos<|eN [] X.env) (rV pos<|rT [] X.env)):=by rfl):
  bS X (.Call func [] [] pos) (yU X c9 E Dv kP):=by
 intro e s g H Q I h
 show Call_ (ct (c e s g H _ I h) λu l w=>?_) i;let#[x,H1,b,f,a,d,j,q]:=w
 subst d
 obtain rfl:u=e3 a:=f
 show IU b.fS j<|Calls.hH q k b .nil
inductive Tx(X:b9)(c9:jl)(E:dG)(f a:ao)(Q:ck)(ac:List V)(ay:aw):Prop
 |mk (k ps sp) (_:FnAt X c9 k f ps sp) (_:e5 k X.A) (_:sp (.ref a::ac) ay Q E):Tx X c9 E f a Q ac ay
inductive LK(X:b9)(c9:jl)(E:dG)(m:Str)(t:j2)(σ:L2.St)(Q:ck)(x:V)(H1:aw):Prop
 |mk (a) (C) (dx) (bb) (f) (_:x=.ref a) (_:H1 a=Y (.b7 C dx bb)) (_:ku X.K C) (_:c6 X.K C m f) (_:bb.lookup m=U) (_:t σ H1 λac ay=>Tx X c9 E f a Q ac ay):LK X c9 E m t σ Q x H1
def qI(X:b9)(c9:jl)(E:dG)(m:Str)(to:TE)(t:j2):TE:=λa H Q=>to a H λx H1=>LK X c9 E m t a Q x H1
def c4(L:nz c9 X E)(K:bS X o to)(z:mf X (e::es) t)
  (G:eN (e::es) X.env=(J,eval e X.env)::eN es X.env:=by rfl) (A:(jN pos<|eN es X.env).any (·.1)=false:=by rfl)
  (w:eval (.Call (.Attribute o m gH) (e::es) [] pos) X.env=(do
   let g <-eval o X.env
   vF gH.atName
   let (f,first) <-vG [g] (uh g m pl)
   vE pos f first (jN pos<|eN (e::es) X.env) (rV pos<|rT [] X.env)):=by rfl):
  bS X (.Call (.Attribute o m gH) (e::es) [] pos) (qI X c9 E m to t):=by
 intro d s i H Q I h
 show EP (ct (K d s i H _ I h) λu B W=>?_) w;let#[x,H1,j,v,a,C,dx,bb,f,n,y,c,hm,l,q]:=W
 subst n
 obtain rfl:u=e3 a:=v
 show RS j y c hm l<|IV I.ok.mod.CW hm.dX (ct (z pos d B i H1 _ j q) λR N #[ac,P,b,r,k,ps,M,F,D,p]=>#[b.fS,?_]) G A
 show Calls.hH (.fn F D p) L b<|.cons Z r
def jo(v:nz c9 X E)(t:bS X o to)
  (r:eval (.Call (.Attribute o m gH) [] [] pos) X.env=(do
   let e <-eval o X.env
   vF gH.atName
   let (f,first) <-vG [e] (uh e m pl)
   vE pos f first (jN pos<|eN [] X.env) (rV pos<|rT [] X.env)):=by rfl):
  bS X (.Call (.Attribute o m gH) [] [] pos) (qI X c9 E m to kP):=by
 intro n s q H Q I h
 show EP (ct (t n s q H _ I h) λu y z=>?_) r;let#[x,H1,b,p,a,C,dx,bb,f,d,i,c,hm,l,k,ps,w,F,j,g]:=z
 subst d
 obtain rfl:u=e3 a:=p
 show RS b i c hm l<|IU b.fS hm.dX<|Calls.hH (.fn F j g) v b<|.cons Z .nil
inductive LL(X:b9)(x:Str)(Q:ck)(H:aw):Prop
 |mk (v) (u) (_:X.aL x=Y u) (_:dq v u) (_:Q v H):LL X x Q H
def sC(X:b9)(x:Str):TE:=λq H Q=>LL X x Q H
def LM(b:pJ X x)(a:(x==("__debug__":Str))=false:=by decide):bS X (.Name x p) (sC X x):=by intro c s d H Q I h;let#[v,u,e,r,q]:=h;show Kp I b e #[v,H,I,r,q] a
inductive Tz(X:b9)(c9:jl)(E:dG)(g m:Str)(t:j2)(σ:L2.St)(H:aw)(Q:ck):Prop
 |mk (C) (f) (mc) (_:X.aL g=Y (.ref C)) (_:I3 X.K C mc=O) (_:zH X.K (.ref C) "__getattribute__"=Y (Y<|.builtin "type.__getattribute__")) (_:xQ X.K (.ref C) mc m=Y (.val<|.ref f)) (_:nV X.K (.ref f)=O) (_:t σ H λac ay=>Calls X c9 E f ac ay Q):Tz X c9 E g m t σ H Q
def acd(X:b9)(c9:jl)(E:dG)(g m:Str)(t:j2):TE:=λa H Q=>Tz X c9 E g m t a H Q
def u4(A:nz c9 X E)(d:pJ X g)(n:mf X (e::es) t)(b:(g==("__debug__":Str))=false:=by decide)
  (w:eN (e::es) X.env=(J,eval e X.env)::eN es X.env:=by rfl) (p:(jN pos<|eN es X.env).any (·.1)=false:=by rfl)
  (l:eval (.Call (.Attribute (.Name g AN) m gH) (e::es) [] pos) X.env=(do
   let o <-eval (.Name g AN) X.env
   vF gH.atName
   let (f,first) <-vG [o] (uh o m pl)
   vE pos f first (jN pos<|eN (e::es) X.env) (rV pos<|rT [] X.env)):=by rfl):
  bS X (.Call (.Attribute (.Name g AN) m gH) (e::es) [] pos) (acd X c9 E g m t):=by
 intro u s v H Q I h
 let#[C,f,D,j,i,k,y,z,q]:=h
 show EP (pl:=pl) (Kp I d j ?_ b) l
 show PySem.W.method_cls I.fS k<|PySem.W.cls_value I.fS i y Z ?_
 let x:=I.tok<|s.toks+1
 show IV (first:=[]) (h₀:=X.base) I.ok.mod.CW z (ct (n pos u _ v H _ x q) λG B #[ac,F,a,r,c]=>#[a.fS,?_]) w p
 show c.hH A a r
section
variable {prog:eZ}{w:dM}{A:e0}{s:bl}{K:b2}
def ace(X:K.In s.heap)(e:xQ K (.type "Exception") (.type "type") "__init__"=Y (.val<|.builtin "Exception.__init__"))
  (h:Q (.builtin "Exception.__init__",[]) {s with toks:=s.toks+1}):bP (bJ prog w) A (uh (.type "Exception") "__init__" pl) Q E s:=by
 let a:specialOf (.type "Exception") "__getattribute__"=pure (Y<|.builtin "type.__getattribute__"):=by
  let b:zE (.type "Exception")=pure (.type "type"):=by kernel_rfl
  unfold specialOf;rw[b];show PySem.W.KF.slot_tga.lookup
 unfold uh
 rw[a]
 show aY<|c0 ?_
 dsimp only
 rw[aR PySem.W.canon_tga]
 show aY (PySem.W.cls_open (mc:=.type "type") (hook:=U) X (.of_pure<|by rfl) (.of_pure<|by rfl) (by kernel_rfl) (.of_pure<|by rfl) (by kernel_rfl) e ?_)
 show c0 (PySem.W.handed_on (by kernel_rfl)<|c0 h)
end
def qJ(bf C:ao)(d:Option ao):hs:=.ext λh=>∃t,h.get? bf=Y (ms C t d)
def LN(e:h.get? bf=Y (ms C t d)):ht P w H h bf (qJ bf C d):=
 #[#[t,e],#[_,e],λc f #[a,b] k=>#[a,k _ b]]
def LO(ok:f8 P w H h)(e:H bf=Y (qJ bf C d)):∃t,h.get? bf=Y (ms C t d):=(ok _ _ e).1
def TA(h:H a=Y o):aE H a o=H:=by
 funext b
 unfold aE;split
 .rename_i e;rw[e];show h.symm
 .rfl
structure G3(K:b2)(C:ao):Prop where
 G4:qF K C
 lR:fJ K (.ref C) "__setattr__"=Y (Y<|.builtin "object.__setattr__")
 no:fJ K (.ref C) "number"=Y U
def acf(K:b2)(t:j2):TE:=λb H Q=>t b H λac H1=>∃a C,ac=[.ref a]/\H1 a=Y (qJ a C U)/\qF K C/\Q .bB H1
def acg(j:pJ X "Exception")(hm:X.aL "Exception"=U)(F:oA "Exception"=Y (.type "Exception"))(E:xQ X.K (.type "Exception") (.type "type") "__init__"=Y (.val<|.builtin "Exception.__init__"))
  (v:mf X [a] t) (B:eN [a] X.env=(J,eval a X.env)::eN [] X.env:=by rfl)
  (n:eval (.Call (.Attribute (.Name "Exception" AN) "__init__" gH) [a] [] pos) X.env=(do
   let o <-eval (.Name "Exception" AN) X.env
   vF gH.atName
   let (f,first) <-vG [o] (uh o "__init__" pl)
   vE pos f first (jN pos<|eN [a] X.env) (rV pos<|rT [] X.env)):=by rfl):
  bS X (.Call (.Attribute (.Name "Exception" AN) "__init__" gH) [a] [] pos) (acf X.K t):=by
 intro y s A H Q I h
 show EP (Ao I j hm F ?_) n
 show ace I.fS E ?_
 show PO (ct (v pos y _ A H _ (I.tok<|s.toks+1) h) λG m W=>?_) B Z;let#[ac,x,c,r,bf,C,ev,e,D,q]:=W
 subst ev
 let#[u,rfl,p]:=Ax r
 obtain rfl:u=e3 bf:=p
 let#[L,k]:=LO c.bL e
 let#[b3,g,d,a3,os]:=m
 show acc c.fS D k λh' t' i w=>#[.bB,x,?_,Z,q]
 show(TA e)▸(c.write (h':=h') (t':=a3) (by rw[e];show kb) (.inl Z) (λb u l z=>w b u l z) #[_,i]<|LN i)
def ach(K:b2)(e f:TE):hu:=λD d H=>f d H λy H1=>e d H1 λx c=>∃a C,x=.ref a/\c a=Y (qJ a C U)/\G3 K C/\∀b,c b=U->D.cM d (aE (aE c b<|.yp [("number",y)]) a<|qJ a C<|Y b)
def aci(L:bS X o dc)(R:bS X value dd)(ai:rU value (Y<|.Attribute o "number" kq) pos.line X.env=pure J):kp X (.Assign [.Attribute o "number" kq] value pos) (ach X.K dc dd):=by
 intro m s j H D I h;show On (ct (R m s j H _ I h) λu M #[y,H1,P,G,q]=>ct (L m M j H1 _ P q) λF i V=>?_) ai;let#[x,N,d,E,bf,C,p,a,g,t]:=V;subst p;obtain rfl:F=e3 bf:=E;let#[S,A]:=LO d.bL a;show acb d.fS g.G4 g.lR g.no A λh' a3 k B e=>?_;let fr:=d.bL.fresh<|bK _;show#[j,_,?_,t _ fr];show d.un (h':=h') (t':=a3) ?_ ?_
 .let lt:∀{b:ao}{o:Obj},i.heap.get? b=Y o->b≠i.heap.objs.size:=λr=>eg<|dF r;let i3:∀{b:ao}{v:hs},N b=Y v->¬uQ (Y v)->b≠bf:=λ{b v} z nm q=>by rw[q,a]at z;cases z;show nm kb
  show#[λb o r n W W=>e b o (λz=>by rw[z,a]at n;cases n) r,λb o r n W W=>#[o.slots,e b o (λz=>by rw[z,a]at n;cases n) r],λb o r n W=>?_,λb o r W=>?_,λb xs z=>?_,λb o u z=>?_,λb ps z=>#[[].toArray,?_]]
  .rw[aK (λz=>by rw[z,a]at n;cases n),aK<|lt r];show n
  .by_cases ae:b=bf
   .subst ae;show#[_,k]
   .show#[o,e b o ae r]
  .rw[aK (i3 z λq=>q),aK<|cx z fr];show z
  .rw[aK (i3 z λq=>q),aK<|cx z fr];show z
  .rw[aK (i3 z λq=>q),aK<|cx z fr,z];simp
 .intro b o z;by_cases ae:b=bf
  .subst ae;cases bj▸z;show LN k
  .rw[aK ae]at z;by_cases l:b=i.heap.objs.size
   .subst l;cases bj▸z;show#[_,B,λf=>?_];by_cases q:f=("number":Str)
    .rw[aR q,q];show G
    .rw[aM q];have:(f==("number":Str))=false:=beq_eq_false_iff_ne.mpr q;simp only[uw,this];show kb
   .rw[aK l]at z;show(d.bL b o z).oO (λc v Q r=>e c v ?_ r) (λc r=>?_) λc xs r=>?_
    .obtain q|q:=Q
     .rw[q];show ae
     .intro w;rw[w,a]at q;cases q
    .rw[aK (λw=>by rw[w,a]at r;cases r),aK<|cx r fr];show r
    .rw[aK (λw=>by rw[w,a]at r;cases r),aK<|cx r fr];show r
def TB:Option hs->Prop
 |some (.cu _)=>False
 |some (.fH _ _)=>False
 |some (.wv _)=>False
 |some (.own _)=>False
 |_=>True
def aN.acj(I:L2.aN X ah σ ay s)(h:∀b,H b=ay b\/(H b=U/\TB (ay b))):L2.aN X ah σ H s:=by
 let no:∀b,ay b=U->H b=none:=λb e=>by
  obtain q|q:=h b
  .rw[q];show e
  .show q.1
 let a:∀b u,ay b=Y u->¬TB (Y u)->H b=Y u:=λb u e f=>by
  obtain q|q:=h b
  .rw[q];show e
  .rw[e]at q;show a8 q.2 f
 show#[I.ok,I.os,I.f9,#[I.base.keep,I.base.slot,λb o r n j=>no b<|I.base.free b o r n j,I.base.there,λb xs e=>a b _ (I.base.mQ b xs e) λz=>z,λb o u e=>a b _ (I.base.lf b o u e) λz=>z,λb ps e=>?_],I.loc,I.cell,no _ I.free,λy c e=>no c<|I.mS y c e,λp aC=>?_,λb o e=>?_,I.len]
 .let#[more,q]:=I.base.mR b ps e;show#[more,a b _ q λz=>z]
 .let#[g,d,i]:=I.pin p aC;show#[g,no _ d,i]
 .let d:ay b=Y o:=by
   obtain q|q:=h b
   .rw[<-q];show e
   .rw[e]at q;cases q.1
  show(I.bL b o d).oO (λw w w r=>r) (λc r=>a c _ r λz=>z) λc xs r=>a c _ r λz=>z
def tK(C:ao)(n:Int):j4:=λac H Q q=>∃a,ac=[.ref a]/\H a=Y (qJ a C U)/\∀b,H b=U->Q .bB (aE (aE H b<|.yp [("number",.int n)]) a<|qJ a C<|Y b)
section
variable {P:eZ}{w:dM}{b8:ao->Prop}{K:b2}{aL:Str->Option aB}{base:df}{N:List Str}{qual:Str}{scope:iH}
inductive TC(X:b9)(c9:jl)(b8:ao->Prop)(E:dG)(x:Str)(H:aw):Prop
 |mk (C) (g) (k) (n) (_:X.aL x=Y (.ref C)) (_:b8 C) (_:G3 X.K C) (_:nV X.K (.ref C)=O) (_:fJ X.K (.ref C) "__init__"=Y (Y<|.ref g)) (_:BS X.K (.ref g)=Y (.type "function")) (_:FnAt X c9 k g ["self"] (tK C n)) (_:e5 (k+1) X.A) (_:E (.int n 0) U H):TC X c9 b8 E x H
def TD(X:b9)(c9:jl)(b8:ao->Prop)(E:dG)(x:Str):hu:=λq q H=>TC X c9 b8 E x H
def i4(cL:pJ (hx (eV P w b8) P w K aL base N qual scope f cd A bc eb gS E) x)(hd:(x==("__debug__":Str))=false:=by decide):
  kp (hx (eV P w b8) P w K aL base N qual scope f cd A bc eb gS E) (.Raise (Y<|.Call (.Name x AN) [] [] iq) U pos) (TD (hx (eV P w b8) P w K aL base N qual scope f cd A bc eb gS E) (eV P w b8) b8 E x):=by
 intro ah s σ H D I h
 let#[C,g,k,n,aq,rc,lq,dX,ak,hf,F,af,q]:=h
 let#[fd,F,b]:=F.ok
 show aY<|BI<|ab9 (K:=K) af.hd<|aY ?_
 show Call_<|Kp I cL aq ?_ hd
 show IU I.fS dX<|zz ?_
 let#[b3,SF,cN,a3,os]:=s
 show ab8 I.fS lq.G4 ak hf ?_
 let G5:((b3.push {cls:=.type "tuple",data:=.seq [].toArray}).push<|ms C b3.objs.size U).get? (b3.objs.size+1)=Y (ms C b3.objs.size U):=by heap_get
 let keep:∀c o,b3.get? c=Y o->((b3.push {cls:=.type "tuple",data:=.seq [].toArray}).push<|ms C b3.objs.size U).get? c=Y o:=λc o r=>fv _<|fv _ r
 let fr:=I.bL.fresh<|iT _
 let aZ:=I.oP (h':=(b3.push {cls:=.type "tuple",data:=.seq [].toArray}).push<|ms C b3.objs.size U) (t':=a3) keep (iT _)<|LN G5
 show xJ (F.run _ _ _ (aE H (b3.objs.size+1)<|qJ (b3.objs.size+1) C U) #[[.ref<|b3.objs.size+1],[]] [.ref<|b3.objs.size+1] [.ref<|b3.objs.size+1]
  (λv ay=>v=.bB/\∃a,aE H (b3.objs.size+1) (qJ (b3.objs.size+1) C U) a=U/\ay=aE (aE (aE H (b3.objs.size+1)<|qJ (b3.objs.size+1) C U) a<|.yp [("number",.int n)]) (b3.objs.size+1) (qJ (b3.objs.size+1) C<|Y a))
  (λ_ _ _=>False) (af.make C [] []) (aZ.CT.make C [] []) (b _ [.ref<|b3.objs.size+1] aZ.fS Z) (.cons Z .nil) #[9,bj,λa hd=>#[Z,a,hd,Z]]) λr s' z=>?_
 cases r with
 |error e=>let#[_,_,_,_,_,_,_,_,_,_,_,_,_,_,_,_,_,_,_,no]:=z;show no.elim
 |ok jH=>
  cases jH with
  |next=>show gY z
  |brk=>show gY z
  |cont=>show gY z
  |ret u=>
   let#[v,ay,S,M,TF,R,eL,ev,a,p,Di]:=z;let G:=aZ.yx (s':=s') S TF R M λc q=>a8 q bg;subst ev;obtain rfl:u=ka:=eL;subst Di;show#[Z,?_];let l:a≠b3.objs.size+1:=λz=>by rw[z,bj]at p;cases p
   let TG:H a=none:=by rwa[aK l]at p
   let d:=aN.acj G λc=>by
    by_cases y:c=b3.objs.size+1
    .show .inr #[by rw[y];show fr,?_];rw[y,bj];show kb
    .rw[aK y];by_cases T:c=a
     .show .inr #[by rw[T];show TG,?_];rw[T,bj];show kb
     .rw[aK T,aK y];show .inl Z
   let#[t',B]:=LO G.bL bj;let#[gy,ns,W]:=(G.bL a _<|by rw[aK l,bj]);let#[un,V,#[hv,dL]]:=la.Ay<|W "number";show aY<|BI<|c0 #[b3.objs.size+1,t',Y a,C,Z,lq.G4,d.fS,B,?_];let LP:=I.jh;let TH:b3.get? a=none:=by
    cases e:b3.get? a with
    |none=>rfl
    |some o=>have jg:=TF.free a o (keep a o e) p bg;rw[aK l,bj]at jg;cases jg
   let X:eb.heap.get? a=none:=by
    cases e:eb.heap.get? a with
    |none=>rfl
    |some o=>let#[e1,cG]:=I.base.there a o e (by simp[hx]);rw[TH]at cG;cases cG
   show ab5 I.ok.frames d.stack Z B Z Z λh' fz mn=>?_;let wY:a∉eT (hx (eV P w b8) P w K aL base N qual scope f cd A bc eb gS E).stack:=λhc=>by let#[_,o,bv,_]:=I.stack.mem hc;let mb:=bv;rw[TH]at mb;cases mb
   let pQ:=λo r=>mn.ee a o l l wY r;let Ds:a<s'.heap.objs.size:=by let#[o,_,_,r,_]:=ns;show dF r
   show#[b3.objs.size+1,s'.heap.objs.size,a,C,n,hv,H,gy,Z,rc,#[IM LP,dK LP<|ul<|nU (k2 _)<|dF B,X],fz,#[ns.at pQ,by rw[V,dL]],#[l,eg Ds],#[fr,d.bL.fresh<|bK _,TG],d.os,d.f9,?_,LB d.bL mn fr fr d.Al,q];let i:=d.base;let m:∀{c:ao}{o:Obj},eb.heap.get? c=Y o->c≠b3.objs.size+1:=λ{c o} r=>eg<|Nat.lt_succ_of_le<|dK (ul<|dF r) LP;let wZ:∀{c:ao}{o:Obj},eb.heap.get? c=Y o->c∉eT bc->c∉eT (hx (eV P w b8) P w K aL base N qual scope f cd A bc eb gS E).stack:=λ{c o} r j z=>by
    obtain q|q:=eG.mp (I.yw c z)
    .let c8:=q;show a8 (dF r) (by rw[c8];show m8 _)
    .show j q
   show#[λc o r n j t=>?_,λc o r n j t=>?_,i.free,λc o r t=>?_,i.mQ,i.lf,i.mR]
   .show mn.ee c o (m r) (m r) (wZ r j)<|i.keep c o r n j t
   .let#[c2,L]:=i.slot c o r n j t;let#[pI,Q]:=mn.lG c _ (m r) (m r) L;show#[pI,Q]
   .let#[e1,L]:=i.there c o r t;let#[pI,Q]:=mn.lG c _ (m r) (m r) L;show#[_,Q]
end
def top(i:Nat):Stmt:=xU.main.body.getD i<|.Pass #[0,0,0,0]
section
variable {P:eZ}{w:dM}{b8:ao->Prop}{K:b2}{aL:Str->Option aB}{base:df}
def tG.TJ{st:Stmt}{f:ao}{fd:oB}{N ps:List Str}{k:Nat}{sp:j4}(F:tG K x qual st f fd)(S:rq N ps (hY st))(len:∀ac H Q E,sp ac H Q E->z9 ac=z9 ps)
  (ae:∀(a:aB) (A:e0) (bc:List Env) (s:bl) (H:aw) (ac:List V) (Q:ck) (E:dG),e5 k (A.deeper<|oE qual (hY st) s.heap.objs.size f a)->sp ac H Q E->
   ∃t,lh (hx (eV P w b8) P w K aL base N qual (hY st) f a A bc s H E) (rx st) t/\t {cM:=λq c=>Q .bB c,n9:=Q} (start N ac) H):ny P w K aL base (eV P w b8) (k+1) f fd ps sp:=by
 let#[i,m,ez,e,pm,j,a,l,AC,rfl,h,b]:=F.ex
 show R8 h b S len λA bc s H ac Q E g d=>ae a A bc s H ac Q E g d
end
abbrev o2(h:df)(z TI dO:ao)(b a:aB):Prop:=
 h.get? z=Y {cls:=.type "zip",dict:=U,data:=.fields [b,a,.bool J,.ref TI,.ref dO].toArray,slots:=[].toArray}
def w0(b:aB):Prop:=b=.none\/∃a:Int,b=k1 a
def acp(h:Q (s.heap.get? a) s):bP M A (loadIfAlive a) Q E s:=λq q q=>h
def TK{z TI dO:ao}(c:o2 s.heap z TI dO f0 (.bool b))(f:w0 f0)(h1:Q O s)
  (d:∀h',o2 h' z TI dO f0 (.bool O)->p9 z s.heap h'->Q J {s with heap:=h'}):bP (bJ e w) A (Jz<|.ref z) Q E s:=by
 show aY<|jM c Z Z ?_
 obtain rfl|⟨a,rfl⟩:=f
 .show c0 h1
 .show bP _ _ (loadIfAlive a.toNat >>= _) _ _ _
  show aY<|acp ?_
  cases s.heap.get? a.toNat with
  |none=>show c0 h1
  |some o=>
   show aY<|jM c Z Z ?_
   cases b with
   |true=>show c0<|d _ c #[Z,λq q=>rfl]
   |false=>show aY<|qV c bg λh' g h=>c0<|d h' g h
def acq{z TI dO i l q t:ao}{u L:Nat}{xs ys:Array aB}{x y a b f0:aB}{I:Bool}{Q:aB->bl->Prop}(D:BM z TI dO i l q t)
  (F:o2 s.heap z TI dO f0 (.bool I)) (hf:w0 f0) (mu:kE s.heap TI (.ref i) (.ref l)) (mv:kE s.heap dO a b)
  (h1:s.heap.IsListIter i q u) (aj:s.heap.IsListIter l t L) (oh:s.heap.IsList q xs) (oX:s.heap.IsList t ys) (au:xs[u]?=Y x) (dI:ys[L]?=Y y)
  (ji:∀h' iy g1 a b,o2 h' z TI dO iy (.bool g1)->w0 iy->kE h' dO a b->h'.IsListIter i q (u+1)->h'.IsListIter l t (L+1)->kE h' s.heap.objs.size x y->h'.objs.size=s.heap.objs.size+1->
   (∀c o,c≠z->c≠dO->c≠i->c≠l->s.heap.get? c=Y o->h'.get? c=Y o)->Q (.ref s.heap.objs.size) {s with heap:=h'}):
  bP (bJ prog w) A (BO.«zip.__next__» #[[.ref z],[]]) (λR s'=>∃v,R=.done (.ret v)/\Q v s') E s:=by
 show bP _ _ (field (.ref z) 2 >>= _) _ _ _
 show aY<|jM F Z (x:=.bool J) Z ?_
 show bP _ _ (field (.ref z) 3 >>= _) _ _ _
 show aY<|jM F Z (x:=.ref TI) Z ?_
 show aY<|zy mu Z ?_
 show bP _ _ (Jz (.ref z) >>= _) _ _ _
 show aY<|TK F hf ?_ λoY G d=>?_
 .simp only[if_true];show aY<|IL ?_;show aY<|jM F Z (x:=.ref dO) Z ?_;show aY<|qV F bg λoY G d=>?_;replace G:o2 oY z TI dO .ellipsis (.bool I):=G;show aY ?_;show aY<|aY<|BJ ?_;show bP _ _ (Ca (.ref i) >>= _) _ _ _;show aY<|zw (h1.extBut d.extBut D.i1z) (oh.extBut d.extBut D.l1z) au λmi W f=>c0 ?_;let Dx:kE mi dO a b:=f.extBut _ _ D.TOi1<|d.extBut _ _ D.TOz mv;show aY<|zy Dx Z ?_;show aY<|Iw Dx λoZ M r=>?_;replace M:kE oZ dO x b:=M;show aY<|EG<|c0 ?_;show aY<|aY<|BJ ?_;show bP _ _ (Ca (.ref l) >>= _) _ _ _;show aY (zw (((aj.extBut d.extBut D.i2z).extBut f.extBut D.i12.symm).extBut r.extBut D.TOi2.symm)
   (((oX.extBut d.extBut D.l2z).extBut f.extBut D.l2i1).extBut r.extBut D.l2TO) dI λm P k=>c0 ?_)
  let TL:kE m dO x b:=k.extBut _ _ D.TOi2 M;show aY<|zy TL Z ?_;show aY<|Iw TL λg K C=>?_;replace K:kE g dO x y:=K;show aY<|EG<|c0<|c0 ?_;show aY<|zy K Z ?_;show aY<|ID ?_;let h:g.objs.size=s.heap.objs.size:=by rw[C.1,k.1,r.1,f.1,d.1]
  let TM:o2 g z TI dO .ellipsis (.bool I):=C.extBut _ _ D.TOz.symm<|k.extBut _ _ D.i2z.symm<|r.extBut _ _ D.TOz.symm<|f.extBut _ _ D.i1z.symm G;let acr:∀c o,c≠z->c≠dO->c≠i->c≠l->s.heap.get? c=Y o->g.get? c=Y o:=λc o j B p n e=>
   C.extBut _ _ B (k.extBut _ _ n<|r.extBut _ _ B<|f.extBut _ _ p<|d.extBut _ _ j e)
  let X:g.IsListIter i q (u+1):=((W.extBut r.extBut D.TOi1.symm).extBut k.extBut D.i12).extBut C.extBut D.TOi1.symm;let T:g.IsListIter l t (L+1):=P.extBut C.extBut D.TOi2.symm;let TN:z<g.objs.size:=dF TM;show aY ?_;unfold Pu;let acu:o2 (g.push {cls:=.type "tuple",data:=.seq [x,y].toArray}) z TI dO .ellipsis (.bool I):=fv _ TM;show aY<|qV acu bg λG8 acv w1=>?_;show qV acv bg λH TO S=>?_;let up:∀c o,c≠z->g.get? c=Y o->H.get? c=Y o:=λc o j e=>S.extBut _ _ j<|w1.extBut _ _ j<|fv _ e;let TP:kE H g.objs.size x y:=S.extBut _ _ (lZ TN)<|w1.extBut _ _ (lZ TN)<|jO _ Z;let TQ:H.objs.size=g.objs.size+1:=by rw[S.1,w1.1,nX]
  rw[h]at TO TP TQ;show c0 #[9,?_];show Q (.ref g.objs.size) _;rw[h];show ji H _ _ _ _ TO (.inr #[9]) (up _ _ D.TOz K) (X.at λo e=>up _ o D.i1z e) (T.at λo e=>up _ o D.i2z e) TP TQ λc o j B p n e=>up c o j<|acr c o j B p n e
 .simp only[Fa,if_false];show aY ?_;rw[<-Pm];simp only[E3,BZ];show aY<|aY<|sX ?_;show bP _ _ (Ca (.ref i) >>= _) _ _ _;show aY<|zw (h1.extBut d.extBut D.i1z) (oh.extBut d.extBut D.l1z) au λmi W f=>c0 ?_;show c0<|aY<|aY<|sX ?_;show bP _ _ (Ca (.ref l) >>= _) _ _ _;show aY<|zw ((aj.extBut d.extBut D.i2z).extBut f.extBut D.i12.symm) ((oX.extBut d.extBut D.l2z).extBut f.extBut D.l2i1) dI λm P k=>c0 ?_;show c0<|c0 ?_;let h:m.objs.size=s.heap.objs.size:=by rw[k.1,f.1,d.1]
  show bP _ _ (newTuple [x,y] >>= _) _ _ _;show aY<|ID ?_;let pS:∀c o,c≠z->c≠i->c≠l->s.heap.get? c=Y o->m.get? c=Y o:=λc o j p n e=>k.extBut _ _ n<|f.extBut _ _ p<|d.extBut _ _ j e;let V:o2 m z TI dO f0 (.bool O):=k.extBut _ _ D.i2z.symm<|f.extBut _ _ D.i1z.symm G;let N:m.IsListIter i q (u+1):=W.extBut k.extBut D.i12;show c0 #[9,?_];show Q (.ref m.objs.size) _;let dY:kE (m.push {cls:=.type "tuple",data:=.seq [x,y].toArray}) m.objs.size x y:=jO _ Z;rw[h]at dY ⊢;show ji _ _ _ _ _ (fv _ V) hf (fv _<|pS _ _ D.TOz D.TOi1 D.TOi2 mv) (N.at λo e=>fv _ e) (P.at λo e=>fv _ e) dY (by rw[nX,h]) λc o j B p n e=>fv _<|pS c o j p n e
def acy{z TI dO r v G y:ao}(b3:A.handled=U)(D:BM z TI dO r v G y)
  (q:o2 s.heap z TI dO f0 (.bool f1)) (hf:w0 f0) (mu:kE s.heap TI (.ref r) (.ref v)) (mv:kE s.heap dO a b)
  (h1:s.heap.IsListIter r G dW) (M:s.heap.IsListIter v y e2) (t:s.heap.IsList G xs) (V:s.heap.IsList y ys) (S:xs[dW]?=U\/ys[e2]?=U)
  (tJ:∀h' e,(∀c o,c≠z->c≠dO->c≠r->c≠v->s.heap.get? c=Y o->h'.get? c=Y o)->(∃o,h'.get? e=Y o/\o.cls=.type "StopIteration")->E (.ref e) {s with heap:=h'}):
  bP (bJ prog w) A (BO.«zip.__next__» #[[.ref z],[]]) Q E s:=by
 show bP _ _ (field (.ref z) 2 >>= _) _ _ _
 show aY<|jM q Z (x:=.bool J) Z ?_
 show bP _ _ (field (.ref z) 3 >>= _) _ _ _
 show aY<|jM q Z (x:=.ref TI) Z ?_
 show aY<|zy mu Z ?_
 show aY<|TK q hf ?_ λoY F d=>?_
 .simp only[if_true]
  show aY<|IL ?_
  show aY<|jM q Z (x:=.ref dO) Z ?_
  show aY<|qV q bg λoY F d=>?_
  show aY ?_
  show aY<|aY<|BJ ?_
  cases i:xs[dW]? with
  |none=>
   show aY<|Ez b3 (h1.extBut d.extBut D.i1z) (t.extBut d.extBut D.l1z) i λm e f l=>?_;let#[H,p,n]:=l;let T:o2 m z TI dO .ellipsis (.bool f1):=f _ _ D.i1z.symm F;let I:e≠z:=λx=>by subst x;cases T▸p;simp at n
   show qV T bg λN _ j=>tJ N e (λc o g _ k _ x=>j.extBut _ _ g<|f _ _ k<|d.extBut _ _ g x) #[H,j.extBut _ _ I p,n]
  |some x=>
   let B:ys[e2]?=none:=by obtain h|h:=S;cases i▸h;show h
   show aY<|zw (h1.extBut d.extBut D.i1z) (t.extBut d.extBut D.l1z) i λm Dw f=>c0 ?_;let L:kE m dO a b:=f.extBut _ _ D.TOi1<|d.extBut _ _ D.TOz mv;show aY<|zy L Z ?_;show aY<|Iw L λN G6 j=>?_;show aY<|EG<|c0 ?_;show aY<|aY<|BJ ?_;show aY (Ez b3 (((M.extBut d.extBut D.i2z).extBut f.extBut D.i12.symm).extBut j.extBut D.TOi2.symm)
    (((V.extBut d.extBut D.l2z).extBut f.extBut D.l2i1).extBut j.extBut D.l2TO) B λK e u l=>?_)
   let#[H,p,n]:=l;let R:o2 K z TI dO .ellipsis (.bool f1):=u _ _ D.i2z.symm<|j.extBut _ _ D.TOz.symm<|f.extBut _ _ D.i1z.symm F;let I:e≠z:=λx=>by subst x;cases R▸p;simp at n
   show qV R bg λW _ P=>tJ W e (λc o g X k C x=>P.extBut _ _ g<|u _ _ C<|j.extBut _ _ X<|f.extBut _ _ k<|d.extBut _ _ g x) #[H,P.extBut _ _ I p,n]
 .simp only[Fa,if_false]
  show aY ?_
  rw[<-Pm]
  simp only[E3,BZ]
  show aY<|aY<|sX ?_
  cases i:xs[dW]? with
  |none=>show aY<|Ez b3 (h1.extBut d.extBut D.i1z) (t.extBut d.extBut D.l1z) i λm e f l=>?_;show tJ m e (λc o g _ k _ x=>f _ _ k<|d.extBut _ _ g x) l
  |some x=>
   let B:ys[e2]?=none:=by obtain h|h:=S;cases i▸h;show h
   show aY<|zw (h1.extBut d.extBut D.i1z) (t.extBut d.extBut D.l1z) i λm Dw f=>c0 ?_;show c0<|aY<|aY<|sX ?_;show aY<|Ez b3 ((M.extBut d.extBut D.i2z).extBut f.extBut D.i12.symm) ((V.extBut d.extBut D.l2z).extBut f.extBut D.l2i1) B λK e u l=>?_;show tJ K e (λc o g _ k C x=>u _ _ C<|f.extBut _ _ k<|d.extBut _ _ g x) l
def acz{e z TI dO l k H v:ao}(D:BM z TI dO l k H v)(ne:e≠z/\e≠TI/\e≠dO/\e≠l/\e≠k)
  (t:xP s.heap e z (i:Nat) ei) (cX:o2 s.heap z TI dO f0 (.bool f1)) (hf:w0 f0) (mu:kE s.heap TI (.ref l) (.ref k)) (mv:kE s.heap dO a b)
  (h1:s.heap.IsListIter l H i) (aj:s.heap.IsListIter k v i) (oh:s.heap.IsList H xs) (oX:s.heap.IsList v ys) (au:xs[i]?=Y x) (dI:ys[i]?=Y y)
  (ji:∀h' a3 r g1 a b,IsEnumOut h' e z ((i:Int)+1) (.ref s.heap.objs.size) (s.heap.objs.size+1)->o2 h' z TI dO r (.bool g1)->w0 r->kE h' TI (.ref l) (.ref k)->kE h' dO a b->h'.IsListIter l H (i+1)->h'.IsListIter k v (i+1)->
   kE h' s.heap.objs.size x y->h'.get? (s.heap.objs.size+1)=Y {cls:=.type "tuple",data:=.seq [.int i a3,.ref s.heap.objs.size].toArray}->h'.objs.size=s.heap.objs.size+2->
   (∀c o,c≠e->c≠z->c≠dO->c≠l->c≠k->s.heap.get? c=Y o->h'.get? c=Y o)->Q (Y<|.ref<|s.heap.objs.size+1) {s with heap:=h',toks:=a3+1}):
  bP (bJ prog w) A (vH<|.ref e) Q E s:=by
 let#[cb,n2,S,AQ,w2]:=ne
 let dY:s.TypeIs (.ref e) "enumerate":=#[_,t,Z]
 unfold vH
 show aY (ED (zv (name:=ux "__next__") dY Ff
  (xH Ff dY PJ ?_<|PI _)))
 let#[aC,g,d,a3,os]:=s
 show bP _ _ (field (.ref e) 2 >>= _) _ _ _
 show aY<|jM t Z (x:=.ref z) Z ?_
 let Dz:Shared.TypeIs #[aC,g,d,a3,os] (.ref z) "zip":=#[_,cX,Z]
 show aY ?_
 unfold Ca
 show aY (zv (name:=ux "__next__") Dz Fg
  (xH Fg Dz PN (acq D cX hf mu mv h1 aj oh oX au dI λm r g1 gw hE d6 LU acA L T fp I P=>?_)<|PK _))
 show c0 ?_
 replace I:m.objs.size=aC.objs.size+1:=I
 let X:xP m e z (i:Nat) ei:=P e _ cb S AQ w2 t
 show aY<|jM X Z (x:=k1 i) Z ?_
 show aY<|jM X Z (x:=.none) Z ?_
 show bP _ _ (mkInt i >>= _) _ _ #[m,g,d,a3,os]
 show aY<|wpAny_mkInt ?_
 show aY<|qV X bg λmi LX p=>?_
 replace p:p9 e m mi:=p
 replace LX:xP mi e z ((i:Int)+1) ei:=LX
 show aY<|qV LX bg λoZ R F=>?_
 replace F:p9 e mi oZ:=F
 replace R:xP oZ e z ((i:Int)+1) ei:=R
 show aY<|ID ?_
 let G:xP (oZ.push {cls:=.type "tuple",data:=.seq [.int i a3,.ref aC.objs.size].toArray}) e z ((i:Int)+1) ei:=fv _ R
 generalize W:oZ.push {cls:=.type "tuple",data:=.seq [.int i a3,.ref aC.objs.size].toArray}=n at G
 let j:oZ.objs.size=aC.objs.size+1:=by rw[F.1,p.1,I]
 let N:e<aC.objs.size:=dF t
 let V:n.get? (aC.objs.size+1)=Y {cls:=.type "tuple",data:=.seq [.int i a3,.ref aC.objs.size].toArray}:=by rw[<-W,<-j];show jO _ Z
 let Ha:n.objs.size=aC.objs.size+2:=by rw[<-W,nX,j]
 let up:∀c o,c≠e->m.get? c=Y o->n.get? c=Y o:=λc o f q=>by rw[<-W];show fv _<|F.extBut c o f<|p.extBut c o f q
 rw[j]
 show aY ?_
 unfold Jz
 show aY<|jM G Z (x:=.none) Z<|c0 ?_
 simp only[if_true]
 show aY<|IL ?_
 show aY<|jM G Z (x:=ei) Z ?_
 show aY<|qV G bg λmj K C=>?_
 replace C:p9 e n mj:=C
 show aY ?_
 unfold Pu
 show aY<|qV K bg λTS M B=>?_
 replace B:p9 e mj TS:=B
 show qV M bg λG8 acG u=>?_
 replace u:p9 e TS G8:=u
 let h:∀c o,c≠e->n.get? c=Y o->G8.get? c=Y o:=λc o f q=>u.extBut c o f<|B.extBut c o f<|C.extBut c o f q
 show aY<|EG<|c0 #[9,c0<|ji G8 a3 r g1 gw hE acG (h _ _ cb.symm<|up _ _ cb.symm d6) LU ?_ (h _ _ S.symm<|up _ _ S.symm acA) ?_ ?_ ?_ ?_ ?_ λc o fT f fR gF lQ q=>h c o fT<|up c o fT<|P c o f fR gF lQ q]
 .show h _ _ n2.symm<|up _ _ n2.symm<|P _ _ D.TIz D.TITO D.TIi1 D.TIi2 mu
 .show L.at λo q=>h _ o AQ.symm<|up _ o AQ.symm q
 .show T.at λo q=>h _ o w2.symm<|up _ o w2.symm q
 .show h _ _ (lZ N)<|up _ _ (lZ N) fp
 .show h _ _ (lZ<|pj N) V
 .rw[u.1,B.1,C.1,Ha]
def acH{e z TI dO d f h g:ao}(b3:A.handled=U)(D:BM z TI dO d f h g)
  (n:xP s.heap e z (i:Nat) ei) (l:o2 s.heap z TI dO f0 (.bool f1)) (u:w0 f0) (B:kE s.heap TI (.ref d) (.ref f)) (C:kE s.heap dO a b)
  (h1:s.heap.IsListIter d h i) (t:s.heap.IsListIter f g i) (v:s.heap.IsList h xs) (F:s.heap.IsList g ys) (y:xs[i]?=U\/ys[i]?=U)
  (p:∀h',(∀c o,c≠z->c≠dO->c≠d->c≠f->s.heap.get? c=Y o->h'.get? c=Y o)->Q U {s with heap:=h'}):bP (bJ q w) A (vH<|.ref e) Q E s:=by
 let k:s.TypeIs (.ref e) "enumerate":=#[_,n,Z]
 let m:s.TypeIs (.ref z) "zip":=#[_,l,Z]
 show aY (ED (zv k Ff
  (xH Ff k PJ ?_<|PI _)))
 show bP _ _ (field (.ref e) 2 >>= _) _ _ _
 show aY<|jM n Z Z ?_
 show aY ?_
 show aY (zv m Fg
  (xH Fg m PN (acy (by first|show b3|simpa using b3) D l u B C h1 t v F y λh' x r j=>?_)<|PK _))
 let#[o,H,G]:=j
 show aY<|wpAny_isInstance #[o,H,G] isSubtype_stop ?_
 show c0<|p _ r
set_option tactic.hygienic true in
def acJ(z TI dO:ao):
  Meets (BO.«enumerate.__new__» #[[.type "enumerate",.ref z],[]]) (λq R s=>IsZip s.heap z TI dO .none/\
   R (.ok<|.ret<|.ref s.heap.objs.size) {s with heap:=s.heap.push {cls:=.type "enumerate",data:=.fields [.none,.bool J,.ref z,k1 0,.none,.none].toArray}}):=
 .of_wp λb w A R s h=>by
  let#[aC,g,d,a3,os]:=s;let#[a,h]:=h
  let e:=sub_enumerate
  wp_walk using Fh a
  show wpAny_stack_any λst=>c0 ?_
  split
  .rename_i c _ _ _ _ _;cases (c==vY "enumerate")
   .wp_walk using Fh a,Iz a
    show#[9,h]
   .wp_walk using Fh a,Iz a
    show#[9,h]
  .wp_walk using Fh a,Iz a
   show#[9,h]
def acK{ch:List ao}{T C:ao}{ob f:hs}(I:aN X ah σ H s)(k:∀b o,b∉ch->s.heap.get? b=Y o->h'.get? b=Y o)(d:∀b∈ch,qr X ah H b)(l:s.heap.objs.size<=T)(t:s.heap.objs.size<=C)(B:T≠C)
  (i:ht X.prog X.w (aE (aE H T ob) C f) h' T ob) (h:ht X.prog X.w (aE (aE H T ob) C f) h' C f):aN X ah σ (aE (aE H T ob) C f) {s with heap:=h',toks:=t'}:=by
 let hm:=I.bL.fresh t
 let g:∀{b u},H b=Y u->aE (aE H T ob) C f b=Y u:=λ{b u} e=>by rwa[aK<|cx e hm,aK<|cx e<|I.bL.fresh l]
 let j:∀b u,H b=Y u->b∉ch:=λb u e z=>by let q:=(d b z).1;cases q▸e
 show I.step (h9:=s.gens) (kN:=s.drawn) (λb ae=>#[(d b ae).2.2.2.1,(d b ae).2.1,(d b ae).2.2.2.2.1,(d b ae).2.2.2.2.2]) (λb o W W a e W=>k b o a e) (λb o W W a e W=>#[o.slots,k b o a e])
  (λb o W e n=>?_) (λb o a e=>#[o,k b o a e]) (λb xs e=>g e) (λb o u e=>g e) (λb ps e=>#[[].toArray,?_]) (λm hm=>?_) (λb u e=>?_) I.f9
 .rw[aK<|eg<|eR (dF e) t,aK<|eg<|eR (dF e) l];show n
 .rw[g e];simp
 .let#[o,x,y,A,r]:=hm;show#[o,x,y,k _ o (λz=>(d _ z).2.1 Z) A,r]
 .by_cases ae:b=C
  .subst ae;cases bj▸e;show h
  .rw[aK ae]at e;by_cases p:b=T
   .subst p;cases bj▸e;show i
   .rw[aK p]at e;show(I.bL b u e).oO (λc v a q=>k c v ?_ q) (λc q=>g q) λc xs q=>g q;obtain z|z:=a
    .rw[z];show j b u e
    .show j c _ z
def DB(K:b2)(a b:ao):rn:=
 #[λi H=>∃(xs c:List V) (x y:V),bM K H a xs/\bM K H b c/\xs[i]?=Y x/\c[i]?=Y y,
  λi H v d=>∃T e x y,v=.ref e/\H T=U/\H e=U/\T≠e/\d=aE (aE H T<|.cu [x,y]) e (.cu [.int (i:Nat),.ref T])/\(∀xs,bM K H a xs->xs[i]?=Y x)/\∀c,bM K H b c->c[i]?=Y y,
  λi H=>∃xs c:List V,bM K H a xs/\bM K H b c/\(z9 xs<=i\/z9 c<=i)]
def acM{w:dM}{K:b2}{N:List Expr}{mn:Nat}{AA:Pos}{a b e z TI dO g en:ao}(D:BM z TI dO g en a b)(G:e≠z/\e≠TI/\e≠dO/\e≠g/\e≠en):
  wF P w K (.Tuple N mn AA) (DB K a b) [e,z,TI,dO,g,en] e (λi h=>(∃C,xP h e z (i:Nat) C)/\(∃t B,o2 h z TI dO t (.bool B)/\w0 t)/\kE h TI (.ref g) (.ref en)/\(∃x y,kE h dO x y)/\h.IsListIter g a i/\h.IsListIter en b i) where
 mem:=by simp
 obj:=λi h st c V=>by
  let#[#[C,f],#[t,B,r,_],j,#[x,y,m],#[LU,R,_,lj],#[w4,W,_,o0]]:=st;let cG:c=e\/c=z\/c=TI\/c=dO\/c=g\/c=en:=by simpa using V
  obtain q|q|q|q|q|q:=cG
  .rw[q];show#[_,f,λv q=>nomatch q]
  .rw[q];show#[_,r,λv q=>nomatch q]
  .rw[q];show#[_,j,λv q=>nomatch q]
  .rw[q];show#[_,m,λv q=>nomatch q]
  .rw[q];show#[LU,R,λv q=>by rw[lj]at q;cases q]
  .rw[q];show#[w4,W,λv q=>by rw[o0]at q;cases q]
 keep:=λi h h' st k=>by let#[#[C,f],#[t,B,r,M],j,#[x,y,m],L,F]:=st;show#[#[C,k e bg _ f],#[t,B,k z bg _ r,M],k TI bg _ j,#[x,y,k dO bg _ m],L.at λo q=>k g bg o q,F.at λo q=>k en bg o q]
 item:=by
  intro X ks hw iM V i ah s σ H E I M st cL;subst ks hw iM;let#[#[C,f],#[t,B,r,L0],j,#[x0,pT,m],L,F]:=st;let#[xs,ys,x,y,S,T,au,dI]:=cL;let#[bF,eL,p,_]:=I.list S;let#[sx,Hf,eD,_]:=I.list T;let#[u,bY,jj]:=eL.get au;let#[hj,acN,acO]:=Hf.get dI;let yV:=dF f;show acz D G f r L0 j m L F p.isList eD.isList (by simpa using bY) (by simpa using acN) λh' a3 iy g1 gw hE yW jV acP acQ acR acS mM dY He hsz aD=>#[9,wpAny_letOwnedTupleGo_enum yW λAT acT iN=>?_];let up:∀c o,c≠e->h'.get? c=Y o->AT.get? c=Y o:=λc o n q=>(iN.2 c n).trans q;let L1:AT.get? s.heap.objs.size=Y {cls:=.type "tuple",data:=.seq [u,hj].toArray}:=up _ _ (lZ yV) dY;let acU:AT.get? (s.heap.objs.size+1)=Y {cls:=.type "tuple",data:=.seq [.int i a3,.ref s.heap.objs.size].toArray}:=up _ _ (lZ<|pj yV) He;let acV:∀c o,c∉[e,z,TI,dO,g,en]->s.heap.get? c=Y o->AT.get? c=Y o:=λc o ae q=>up c o (λd=>ae<|by simp[d]) (aD c o (λd=>ae<|by simp[d]) (λd=>ae<|by simp[d]) (λd=>ae<|by simp[d]) (λd=>ae<|by simp[d]) (λd=>ae<|by simp[d]) q);let aZ:aN X ah σ (aE (aE H s.heap.objs.size<|.cu [x,y]) (s.heap.objs.size+1)<|.cu [.int (i:Nat),.ref s.heap.objs.size]) {s with heap:=AT,toks:=a3+1}:=
   acK (t':=a3+1) I acV M (bK _) (iT _) (eg<|k2 _)
    #[by show 2<=sizeLine;decide,[u,hj],.cons jj<|.cons acO .nil,#[_,L1,Z,9]] #[by show 2<=sizeLine;decide,[.int i a3,.ref s.heap.objs.size],.cons #[9]<|.cons Z .nil,#[_,acU,Z,9]]
  show#[.ref<|s.heap.objs.size+1,_,aZ,Z,#[s.heap.objs.size,s.heap.objs.size+1,x,y,Z,I.bL.fresh<|bK _,I.bL.fresh<|iT _,eg<|k2 _,Z,λl hl=>by rw[I.Gj hl S];show au,λl hl=>by rw[I.Gj hl T];show dI],#[#[.ref s.heap.objs.size,?_],#[iy,g1,up _ _ G.1.symm jV,acP],up _ _ G.2.1.symm acQ,#[gw,hE,up _ _ G.2.2.1.symm acR],?_,?_],λc AU=>?_]
  .let R:((i+1:Nat):Int)=(i:Int)+1:=by lia
   rw[R];show acT
  .show acS.at λo q=>up _ o G.2.2.2.1.symm q
  .show mM.at λo q=>up _ o G.2.2.2.2.symm q
  .let gz:c<s.heap.objs.size:=by
    let cG:c=e\/c=z\/c=TI\/c=dO\/c=g\/c=en:=by simpa using AU
    obtain q|q|q|q|q|q:=cG
    .rw[q];show yV
    .rw[q];show dF r
    .rw[q];show dF j
    .rw[q];show dF m
    .rw[q];let#[_,R,_]:=L;show dF R
    .rw[q];let#[_,W,_]:=F;show dF W
   rw[aK<|eg<|pj gz,aK<|eg gz];show(M c AU).1
 done:=by
  intro X ks hw iM V i ah s σ H E I M st cL;subst ks hw iM;let#[#[C,f],#[t,B,r,L0],j,#[x0,pT,m],L,F]:=st;let#[xs,ys,S,T,AP]:=cL;let#[bF,eL,p,_]:=I.list S;let#[sx,Hf,eD,_]:=I.list T;let c1:=eL.length;let dN:=Hf.length;let Lp:bF.toArray[i]?=U\/sx.toArray[i]?=none:=by
   obtain q|q:=AP
   .show .inl (by simp;lia)
   .show .inr (by simp;lia)
  show acH (I.ok.hd V) D f r L0 j m L F p.isList eD.isList Lp λh' aD=>#[Z,I.abg (t':=s.toks) (λc o ae q=>
   aD c o (λd=>ae<|by simp[d]) (λd=>ae<|by simp[d]) (λd=>ae<|by simp[d]) (λd=>ae<|by simp[d]) q) M]
 self:=λA i s Q E st h=>let ⟨⟨_,f⟩,_⟩:=st;wpAny_pyIter_enum f h
def acW(K:b2)(d:j2):TI:=λe H R=>d e H λac H1=>∃a b xs c,ac=[.ref a,.ref b]/\bM K H1 a xs/\bM K H1 b c/\R (DB K a b) H1
def acX{e f:Expr}{w:j2}{p pos g k AA:Pos}{i:List Expr}{mn:Nat}(cL:pJ X "enumerate")(hm:X.aL "enumerate"=U)(u:pJ X "zip")(T:X.aL "zip"=U)(ax:mf X [e,f] w)
  (o4:eN [.Call (.Name "zip" g) [e,f] [] k] X.env=[(J,eval (.Call (.Name "zip" g) [e,f] [] k) X.env)]:=by rfl)
  (ai:eN [e,f] X.env=(J,eval e X.env)::eN [f] X.env:=by rfl) (P:(jN k<|eN [f] X.env).any (·.1)=false:=by rfl):
  tu X (.Tuple i mn AA) (.Call (.Name "enumerate" p) [.Call (.Name "zip" g) [e,f] [] k] [] pos) (acW X.K w):=by
 intro y s A H R I h
 show Call_<|Ao I cL hm boot_enumerate<|Fi ?_ o4 Z
 show xV<|Call_<|Ao I u T abA<|Fi (ct (ax k y s A H _ I h) λus d h0=>?_) ai P;let#[ac,H1,l,cW,L]:=h0
 let#[a,b,xs,ys,V,G,M,q]:=L
 subst V
 cases cW with
 |cons r n=>
  cases n with
  |cons N n=>
   cases n;cases r;cases N;let#[bF,eL,B,_]:=l.list G;let#[sx,Hf,g,_]:=l.list M;show call_zip_2 B.isList g.isList λx C Q S h1 aj j D=>zV<|callType_new F.called_enumerate cn (F.typeCall_enumerate_1 _) (F.newCall_enumerate_1 _) (λv=>F.args_object_init_2 v _) F.entry_enumerate_new (acJ _ _ _) #[C,?_];let t:(x.push {cls:=.type "enumerate",data:=.fields [.none,.bool J,.ref<|d.heap.objs.size+4,k1 0,.none,.none].toArray}).get? (d.heap.objs.size+5)=Y {cls:=.type "enumerate",data:=.fields [.none,.bool J,.ref<|d.heap.objs.size+4,k1 0,.none,.none].toArray}:=by rw[<-j];show jO _ Z
   rw[j];show#[#[_,t,Z],wpAny_pyIter_enum t ?_];let E:aN X y A H1 {d with heap:=x.push {cls:=.type "enumerate",data:=.fields [.none,.bool J,.ref<|d.heap.objs.size+4,k1 0,.none,.none].toArray}}:=l.kept (t':=d.toks) λc o z=>fv _<|D c o z;show#[d.heap.objs.size+5,[d.heap.objs.size+5,d.heap.objs.size+4,d.heap.objs.size+2,d.heap.objs.size+3,d.heap.objs.size,d.heap.objs.size+1],7,H1,Z,E,acM (PySem.W.ktu_apart d.heap.objs.size a b B.lt g.lt) #[lZ<|EL cn _,lZ<|EL cn _,lZ<|EL cn _,lZ<|Nat.lt_add_of_pos_right cn,lZ<|EL cn _],#[#[.none,t],#[7,fv _ C,.inl Z],fv _ Q,#[7,fv _ S],h1.at λo q=>fv _ q,aj.at λo q=>fv _ q],λc AU=>?_,q];let cG:c=d.heap.objs.size+5\/c=d.heap.objs.size+4\/c=d.heap.objs.size+2\/c=d.heap.objs.size+3\/c=d.heap.objs.size\/c=d.heap.objs.size+1:=by simpa using AU
   let m:d.heap.objs.size<=c:=by obtain z|z|z|z|z|z:=cG<;>rw[z]<;>first|show EM _ _|show bK _
   show l.C4 m<|l.bL.fresh m
def u1.wq(t:u1 h e T cls d x)(h1:h'.get? e=h.get? e)(k:h'.get? T=h.get? T):u1 h' e T cls d x:=by let#[q,q,q,q,a,b,c,d,e,f,g,i,j]:=t;show#[7,7,h1.trans a,b,c,d,e,f,k.trans g,i,j]
theorem FunFrames.TU{h h' base:df}{C:ao}(k:∀b o,b≠C->h.get? b=Y o->(∀ac,o.data≠.fields ac)->∃a,h'.get? b=Y a/\a.data=o.data):∀{l:List Env},C∉eT l->h.FunFrames base l->h'.FunFrames base l
 |[],_,_=>trivial
 |env::aT,c,f=>by
  let#[g,#[L,o,e,n,q,d],i]:=f;let j:eT (env::aT)=L::eT aT:=by unfold eT;rw[r3,e]
  rw[j]at c;let#[a,m,p]:=k L o (λz=>c (by rw[z];show fD)) q d;show#[g,#[L,a,e,n,m,λac=>p▸d ac],FunFrames.TU k (λz=>c<|e9 _ z) i]
section
variable {M:Model}{A:e0}
def TV
  (u:A.frames=Y (env::bc)) (F:s.heap.FunFrames base (env::bc)) (t:env.frame=Y L) (v:ce.frame=env.frame) (x:yS s.heap e T cls d)
  (h:∀h',u1 h' e s.heap.objs.size cls d (k1 L)->AJ (eT (env::bc)) e T s.heap h'->Q () {s with heap:=h'}):bP M A (ui (.ref e) ce) Q E s:=by
 let D:ui (.ref e) ce=ui (.ref e) env:=by unfold ui PySem.frameOf;rw[v]
 rw[D]
 let#[ix,pP,ac,I,g,K,B,i,p,S,f,eE,n]:=x
 let z:=(q9.mp p).1
 unfold ui
 simp only[t]
 show aY<|jM g i p ?_
 show aY<|jM f eE n ?_
 show aY<|vB f eE ((q9.mp n).1) ?_
 let a:∀b,b≠T->(s.heap.update T<|rb (·.setIfInBounds 3 ka)).get? b=s.heap.get? b:=λb w=>r1 _ _<|c5 w
 let C:∀b o,s.heap.get? b=Y o->(∀V,o.data≠.fields V)->b≠T:=λb o q c r=>by rw[r,f]at q;cases q;show c I eE
 let jh:(s.heap.update T<|rb (·.setIfInBounds 3 ka)).objs.size=s.heap.objs.size:=I6 ..
 show G1 (s:={s with heap:=s.heap.update T (rb (·.setIfInBounds 3 ka))}) u (F.of_keeps λb o q c=>#[o,(a b<|C b o q c).trans q,Z]) t ((a e<|c5 S).trans g) i z λh' N G2 m l G X qD P W=>?_
 rw[jh]at m l
 let#[H,y,R]:=u2 i (·.setIfInBounds 1 (.ref s.heap.objs.size))
 show h h' #[_,N,_,G2,m,H.trans K,y.trans B,R,by simp[z],lZ<|dF g,l,G,X] #[λb ob j k c q=>P b ob j c<|(a b k).trans q,λb ob j k q=>W b ob j<|(a b k).trans q]
def acZ
  (G:A.frames=Y (c::bc)) (R:s.heap.FunFrames base (c::bc)) (D:c.frame=Y L) (I:u1 s.heap e T cls d x)
  (h:∀h' jD,(jD=T\/jD=s.heap.objs.size)->yS h' e jD cls d->AJ (eT (c::bc)) e T s.heap h'->Q () {s with heap:=h'}):bP M A («leaving» c<|.ref e) Q E s:=by
 let#[ix,pP,ac,X,k,B,v,l,n,C,j,eE,y]:=I
 let z:=(q9.mp n).1
 let u:=(q9.mp y).1
 unfold «leaving» ui
 simp only[D]
 show aY<|aY<|jM k l n ?_
 show aY<|jM j eE y ?_
 split
 .show c0 (AK (L:=L) k l n C j eE u λm t o=>h m T (.inl Z) (by rwa[B,v]at t) #[λb ob i f g q=>(o b f).trans q,λb ob i f q=>#[ob.slots,(o b f).trans q]])
 .show aY<|vB j eE u ?_;let a:∀b,b≠T->(s.heap.update T<|rb (·.setIfInBounds 3 ka)).get? b=s.heap.get? b:=λb H=>r1 _ _<|c5 H;let N:∀b o,s.heap.get? b=Y o->(∀ws,o.data≠.fields ws)->b≠T:=λb o q g r=>by rw[r,j]at q;cases q;show g X eE
  let jh:(s.heap.update T<|rb (·.setIfInBounds 3 ka)).objs.size=s.heap.objs.size:=I6 ..;show G1 (s:={s with heap:=s.heap.update T (rb (·.setIfInBounds 3 ka))}) G (R.of_keeps λb o q g=>#[o,(a b<|N b o q g).trans q,Z]) D ((a e<|c5 C).trans k) l z λh' wX G2 w p S n6 W qE sq=>?_;rw[jh]at w p;let#[V,K,se]:=u2 l (·.setIfInBounds 1 (.ref s.heap.objs.size));show AK (L:=L) w se (by simp[z]) (lZ<|dF k) p S W λm t o=>h m _ (.inr Z) (by rwa[V,K,B,v]at t) #[λb ob i f g q=>((o b<|eg<|dF q)▸(qE b ob i g<|(a b f).trans q)),λb ob i f q=>?_]
  .let#[P,F]:=sq b ob i<|(a b f).trans q;show#[P,by rwa[o b<|eg<|dF q]]
def ac0(m:u1 s.heap e T cls d x)
  (h:∀h' y,u1 h' e T cls d y->p9 T s.heap h'->E (.ref e) {s with heap:=h'}):bP M A (PySem.passOn o (.ref e) ce:Sem aB) Q E s:=by
 let#[k,r,ac,q,b,p,n,a,c,i,j,eE,l]:=m
 let g:=(q9.mp l).1
 show aY<|jM b a c ?_
 show aY ?_
 show aY<|jM b a c ?_
 show vB j eE g (wpAny_throw<|h _ (ce.frame.elim ka λf=>k1 f) #[k,_,ac,_,(r1 _ _ i).trans b,p,n,a,c,i,zK _ j<|Fd (u2 eE _).2.2,(u2 eE _).2.2,by simp[g]]<|JG ..)
end
section
variable {P:eZ}{w:dM}{b8:ao->Prop}{K:b2}{aL:Str->Option aB}{base:df}{N:List Str}{qual:Str}
def ac1{X:b9}(yX:X=hx (eV P w b8) P w K aL base N qual scope f cd A bc eb gS E)
  (p:aN X ah σ bT g) (F:∀b∈dH,qr X ah bT b) (H:ce.locals=g.heap.objs.size) (sD:ce.frame=X.env.frame):
  nz (eV P w b8) {X.i0 g bT sc ce dH with er:=qW (bJ X.prog X.w) X.A ce λe s'=>uj (bJ X.prog X.w) X.A X.er use qL cK g.heap.objs.size (.error e) s'} E:=by
 subst yX
 intro uR cr ab s e s' I au
 let#[bf,T,bD,C,n,ac2,ay,m,rfl,rc,#[d6,cc,jg],fz,#[ns,hm],#[lj,o0],#[f1,f2,ac3],os,f9,un,bL,q]:=au
 let l:=I.yx (s':=s') os un bL f9 λb z=>a8 z bg
 let h:=p.yx l.os l.base l.bL l.f9 λb ae=>#[(F b ae).2.2.2.1,(F b ae).2.1,(F b ae).2.2.2.2.1,(F b ae).2.2.2.2.2]
 let M:=p.jh
 let w5:=I.jh
 let TW:g.heap.objs.size<s.heap.objs.size:=by have:=I.lt;rwa[H]at this
 let ac4:g.heap.objs.size<s'.heap.objs.size:=by have:=l.lt;rwa[H]at this
 let TX:=eg<|eR TW d6
 let TY:g.heap.objs.size∉eT (hx (eV P w b8) P w K aL base N qual scope f cd A bc eb gS E).stack:=λz=>by
  obtain r|r:=eG.mp (p.yw _ z)
  .show a8 p.lt (by rw[<-r];show m8 _)
  .show p.Gb (bK _) r
 let wY:bD∉eT (hx (eV P w b8) P w K aL base N qual scope f cd A bc eb gS E).stack:=λae=>by let#[_,o,bv,_]:=I.stack.mem ae;cases jg▸bv
 let V:g.heap.get? bD=U\/bD∈dH:=by
  cases e:g.heap.get? bD with
  |none=>show .inl Z
  |some o=>
   by_cases Q:bD∈dH
   .show .inr Q
   .let#[e1,G]:=I.base.there bD o e Q;rw[jg]at G;cases G
 let LC:eb.heap.get? bD=none:=by
  cases e:eb.heap.get? bD with
  |none=>rfl
  |some o=>
   let#[e1,G]:=p.base.there bD o e (by simp[hx]);obtain y|y:=V
   .rw[y]at G;cases G
   .let fb:=(F bD y).2.2.2.1;obtain fb|fb:=fb
    .show a8 fb (by simp[hx])
    .show a8 (eR (dF e) fb)<|m8 _
 let ac6:g.heap.objs.size≠bD:=λz=>by let#[_,t,_]:=I.loc;rw[H,z]at t;let#[o,_,_,r,_]:=t;cases jg▸r
 show TV h.ok.frames h.stack Z sD fz λh1 t1 dW=>?_
 let#[TZ,t,_]:=l.loc
 let t:s'.heap.Ns g.heap.objs.size TZ:=by rwa[<-H]
 show#[TZ,t.at λo r=>dW.ee _ o TX (eg<|eR TW cc) TY r,λaj L lO _=>?_]
 show ac0 (t1.wq (L.2 _<|c5 TX)<|L.2 _<|lZ ac4) λbO y t3 Hh=>?_
 let R:∀{b:ao}{o:Obj},s'.heap.get? b=Y o->b≠s'.heap.objs.size:=λ{b o} r=>eg<|dF r
 let ac7:=λb o cf cv fo x r=>(Hh.2 b<|R r).trans<|(L.2 b fo).trans<|dW.ee b o cf cv x r
 let T0:∀b o,b≠bf->b≠T->b≠g.heap.objs.size->s'.heap.get? b=Y o->∃j,bO.get? b=Y {o with slots:=j}:=λb o cf cv fo r=>by let#[j,c]:=dW.lG b o cf cv r;show#[j,(Hh.2 b<|R r).trans<|(L.2 b fo).trans c]
 let mZ:bO.FunFrames base (hx (eV P w b8) P w K aL base N qual scope f cd A bc eb gS E).stack:=by
  show FunFrames.TU (λb o i r a5=>?_) TY h.stack;let#[ix,pP,ac,ts,he,_,_,Q,_,_,dY,eE,_]:=fz;let cf:b≠bf:=λz=>by rw[z,he]at r;cases r;show a5 _ Q
  let cv:b≠T:=λz=>by rw[z,dY]at r;cases r;show a5 _ eE
  let#[j,c]:=T0 b o cf cv i r;show#[_,c,Z]
 show acZ h.ok.frames mZ Z t3 λfF jD ac8 T1 pS=>?_
 let ac9:s'.heap.objs.size<bO.objs.size:=by let#[_,_,_,_,_,_,_,_,_,_,r,_]:=t3;show dF r
 let W:s'.heap.objs.size<=jD:=by
  obtain r|r:=ac8
  .rw[r];show bK _
  .rw[r];show ul ac9
 let L4:=λb o cf cv fo x r=>
  pS.ee b o cf (R r) x (ac7 b o cf cv fo x r)
 let T2:∀b o,b≠bf->b≠T->b≠g.heap.objs.size->s'.heap.get? b=Y o->∃j,fF.get? b=Y {o with slots:=j}:=λb o cf cv fo r=>by let#[j,c]:=T0 b o cf cv fo r;let#[S,B]:=pS.lG b _ cf (R r) c;show#[S,B]
 let pQ:=λo r=>L4 bD o lj o0 (c5 ac6) wY r
 let Ds:bD<s'.heap.objs.size:=by let#[o,_,_,r,_]:=ns;show dF r
 let hv:∀{b:ao}{u:hs},ay b=Y u->b≠bf/\b≠T/\b≠g.heap.objs.size/\b∉eT (hx (eV P w b8) P w K aL base N qual scope f cd A bc eb gS E).stack:=λ{b u} r=>by show#[λz=>(by rw[z,f1]at r;cases r),λz=>(by rw[z,f2]at r;cases r),λz=>?_,λz=>(by rw[h.Al b z]at r;cases r)];rw[z,<-H,l.free]at r;cases r
 show#[bf,jD,bD,C,n,ac2,ay,m,Z,rc,#[dK M<|dK w5 d6,dK h.jh W,LC],T1,#[ns.at pQ,hm],#[lj,eg<|eR Ds W],#[f1,bL.fresh W,ac3],h.os,f9,?_,?_,q]
 .let k:=h.base;let d:∀{b:ao}{o:Obj},eb.heap.get? b=Y o->b≠bf/\b≠T/\b≠g.heap.objs.size:=λ{b o} r=>
   #[λz=>a8 (dF r) (p6.mpr (by rw[z];show dK M<|dK w5 d6)),λz=>a8 (dF r) (p6.mpr (by rw[z];show dK M<|dK w5 cc)),λz=>a8 (dF r)<|p6.mpr (by rwa[z])]
  let wZ:∀{b:ao}{o:Obj},eb.heap.get? b=Y o->b∉eT bc->b∉eT (hx (eV P w b8) P w K aL base N qual scope f cd A bc eb gS E).stack:=λ{b o} r i z=>by
   obtain q|q:=eG.mp (h.yw b z)
   .let c8:=q;show a8 (dF r) (by rw[c8];show m8 _)
   .show i q
  show#[λb o r n i D=>?_,λb o r n i D=>?_,k.free,λb o r D=>?_,k.mQ,k.lf,k.mR]
  .show L4 b o (d r).1 (d r).2.1 (d r).2.2 (wZ r i)<|k.keep b o r n i D
  .let#[j,c]:=k.slot b o r n i D;let#[S,B]:=T2 b _ (d r).1 (d r).2.1 (d r).2.2 c;show#[S,B]
  .let#[e1,c]:=k.there b o r D;let#[S,B]:=T2 b _ (d r).1 (d r).2.1 (d r).2.2 c;show#[_,B]
 .intro a o r;show(bL a o r).oO (λb u ae c=>?_) (λ_ z=>z) λ_ _ z=>z;let ai:∃v,ay b=Y v:=by
   obtain rfl|ae:=ae
   .show#[o,r]
   .show#[_,ae]
  let#[v,bk]:=ai;let#[cf,cv,fo,x]:=hv bk;show L4 b u cf cv fo x c
end
def L5{α:Type}{t:Sem α}{Q b:α->bl->Prop}{M:Model}{A:e0}{E c:aB->bl->Prop}{s:bl}(e:c=E)(h:bP M A t Q E s)(d:∀a s,Q a s->b a s):bP M A t b c s:=by subst e;show nR h d λq q x=>x
abbrev AllB(X:b9)(a:iH)(F:b9->Prop):Prop:=∀(s:bl) (H:aw) (C:ao) (cl:List (Str×ao)) (b:List ao) (ba:aB->bl->Prop),F ((X.i0 s H a (sY a cl C X.env) b).gN ba)
section
variable {X:b9}
def T3{P:eZ}{w:dM}{b8:ao->Prop}{K:b2}{aL:Str->Option aB}{base:df}{N:List Str}{qual:Str}{DE:iH}{DF:ao}{cd:aB}{A:e0}{bc:List Env}{eb:bl}{gS:aw}{w7:dG}{ah:List (ao×Obj)}{s:bl}{σ:L2.St}{H:aw}{Q:ck}{og fe iter:Expr}{nC:List Expr}{scope:iH}{own:List (Str×Nat)}{pos kq:Pos}{kr:TI}{g:mU}{tt:TT}{eF:TE}{use:Option (aB->Sem Unit)}{qL:aB->bl->Prop}
  (yX:X=hx (eV P w b8) P w K aL base N qual DE DF cd A bc eb gS w7) (hc:X.tn=O) (fM:X.N.Nodup) (I:aN X ah σ H s) (ak:tu X fe iter kr) (ok:wR X.N X.env.scope scope own)
  (cL:AllB X scope λY=>wC Y fe g) (bz:AllB X scope λY=>nz (eV P w b8) Y w7->Df Y nC tt)
  (he:AllB X scope λY=>bS Y og eF) (ai:∀x,EB iter X.env x=pure x)
  (h:GK kr g tt eF (own.map (·.2)) σ H Q)
  (ada:∀D C s' m ab,aN X ah σ ab s'->Q (.ref D) ab->s'.heap.Ns C m->qr X ah ab C->uj (bJ X.prog X.w) X.A X.er use qL (.ref D) C (.ok .next) s'):
  bP (bJ X.prog X.w) X.A (comprehension (.ListComp og [#[fe,iter,nC,0]] scope pos) scope X.env kq (newList []) false (eval iter X.env) use) qL X.er s:=by
 let uS:∀y∈scope.names,y.2=.free->∃c,X.env.cells.lookup y.1=some c:=λy dI e=>by
  obtain k|k:=ok.free y dI e
  .show I.ok.has _<|.inl k
  .show I.ok.has _<|.inr k
 show wpAny_comprehension_free (use:=use) Z ai (aaP uS) ok.kind (λy dI e=>by rw[ok.uniq y dI,e])
  (ct (ak ah s σ H _ I h) λal2 s1 au=>ct au λGp G aj=>?_)
 let#[it,a,hv,J,f,e,cy,T,z5,f2,q]:=aj
 subst e
 show BG (aaQ ?_) (by show 0<=sizeLine;decide)
 generalize wS:G.heap.objs.size=D
 let adb:f D=none:=cy.bL.fresh<|qY wS
 let#[W,#[m0,sm],turn]:=q D adb
 generalize F5:({G with heap:=G.heap.push {cls:=.type "list",data:=.seq ([]:List aB).toArray}}:bl)=s3
 let M:aN X ah σ (aE f D<|.bq []) s3:=by rw[<-F5];show cy.oP (t':=G.toks) (λb o e=>fv _ e) (qY wS) #[hQ _,[],0,.nil,?_];rw[<-wS];show jO _ Z
 let bO:s3.heap=G.heap.push {cls:=.type "list",data:=.seq ([]:List aB).toArray}:=by rw[<-F5]
 let jh:∀b∈a,b<G.heap.objs.size:=λb ae=>by let#[o,e,_]:=T.obj _ _ z5 b ae;show dF e
 let t:∀b∈a,qr X ah (aE f D<|.bq []) b/\b<s3.heap.objs.size:=λb ae=>by let gz:=jh b ae;show#[#[?_,(f2 b ae).2],by rw[bO,nX];show pj gz];rw[aK (by rw[<-wS];show eg gz)];show(f2 b ae).1
 let Gr:hv 0 s3.heap:=T.keep _ _ _ z5 λb _ o e=>by rw[bO];show fv _ e
 let R:=(aaR M ok fM t).gN<|qW (bJ X.prog X.w) X.A (sY scope (i7 (s3.heap.objs.size+1) scope.names<|jI X.env.cells scope.names []) s3.heap.objs.size X.env) λe s'=>uj (bJ X.prog X.w) X.A X.er use qL (.ref D) s3.heap.objs.size (.error e) s'
 let AV:=ac1 (sc:=scope) (ce:=sY scope (i7 (s3.heap.objs.size+1) scope.names<|jI X.env.cells scope.names []) s3.heap.objs.size X.env) (use:=use) (qL:=qL) (cK:=.ref D) yX M (λb ae=>(t b ae).1) Z Z
 let Az:=cL s3 (aE f D<|.bq []) s3.heap.objs.size (i7 (s3.heap.objs.size+1) scope.names<|jI X.env.cells scope.names []) a<|qW (bJ X.prog X.w) X.A (sY scope (i7 (s3.heap.objs.size+1) scope.names<|jI X.env.cells scope.names []) s3.heap.objs.size X.env) λe s'=>uj (bJ X.prog X.w) X.A X.er use qL (.ref D) s3.heap.objs.size (.error e) s'
 let pt:=bz s3 (aE f D<|.bq []) s3.heap.objs.size (i7 (s3.heap.objs.size+1) scope.names<|jI X.env.cells scope.names []) a (qW (bJ X.prog X.w) X.A (sY scope (i7 (s3.heap.objs.size+1) scope.names<|jI X.env.cells scope.names []) s3.heap.objs.size X.env) λe s'=>uj (bJ X.prog X.w) X.A X.er use qL (.ref D) s3.heap.objs.size (.error e) s') AV
 let qM:=he s3 (aE f D<|.bq []) s3.heap.objs.size (i7 (s3.heap.objs.size+1) scope.names<|jI X.env.cells scope.names []) a<|qW (bJ X.prog X.w) X.A (sY scope (i7 (s3.heap.objs.size+1) scope.names<|jI X.env.cells scope.names []) s3.heap.objs.size X.env) λe s'=>uj (bJ X.prog X.w) X.A X.er use qL (.ref D) s3.heap.objs.size (.error e) s'
 show pg _ _ (.compStart (.ListComp og [#[fe,iter,nC,0]] scope pos) 0 (.ref it) (.ref D)<|sY scope (i7 (s3.heap.objs.size+1) scope.names<|jI X.env.cells scope.names []) s3.heap.objs.size X.env) (uj (bJ X.prog X.w) X.A X.er use qL (.ref D) s3.heap.objs.size) {s3 with heap:=vD (s3.heap.push {cls:=.type "dict",data:=.dict [].toArray}) scope.names}
 let T4:∀b∈a,(aE f D<|.bq []) b=none:=λb ae=>(t b ae).1.1
 generalize sD:sY scope (i7 (s3.heap.objs.size+1) scope.names<|jI X.env.cells scope.names []) s3.heap.objs.size X.env=ce at R AV Az pt qM ⊢
 let T5:ce.locals=s3.heap.objs.size:=by subst sD;rfl
 generalize al3:aE f D (.bq [])=d at M R AV Az pt qM sm T4 t
 generalize AW:({s3 with heap:=vD (s3.heap.push {cls:=.type "dict",data:=.dict [].toArray}) scope.names}:bl)=s4 at R ⊢
 let T6:hv 0 s4.heap:=T.keep _ _ _ Gr λb _ o e=>by rw[<-AW];show EC _ _ _ _<|fv _ e
 generalize L6:qW (bJ X.prog X.w) X.A ce (λe s'=>uj (bJ X.prog X.w) X.A X.er use qL (.ref D) s3.heap.objs.size (.error e) s')=ba at R AV Az pt qM
 let yA:∀{cr:L2.St}{ab:aw}{s':bl},aN ((X.i0 s3 d scope ce a).gN ba) [] cr ab s'->(∀b∈a,ab b=U)->∀b∈a,qr ((X.i0 s3 d scope ce a).gN ba) [] ab b:=λ{cr ab s'} F E b ae=>
  #[E b ae,(F.ok.Ak b ae).1,F.ok.yv b ae,.inl ae,λx c e=>(F.ok.Ak b ae).2 x c e,λp aC=>a8 (show p∈([]:List (ao×Obj))++[]from aC) bg]
 let l:pg (bJ X.prog X.w) X.A (.compLoop (.ListComp og [#[fe,iter,nC,0]] scope pos) 0 (.ref it) (.ref D) ce) (uj (bJ X.prog X.w) X.A X.er use qL (.ref D) s3.heap.objs.size) s4:=by
  show aaX (λn s'=>∃i ab,aN ((X.i0 s3 d scope ce a).gN ba) [] (jJ σ<|own.map (·.2)) ab s'/\hv i s'.heap/\(∀b∈a,ab b=U)/\W i n ab) ?_ m0 #[0,d,R,T6,T4,sm];rintro n s5 ⟨i,B,ro,Au,w2,Ah⟩;obtain⟨V,DG⟩|⟨go,qx,adc,step⟩:=turn i n B Ah
  .let fi:=T.done ((X.i0 s3 d scope ce a).gN ba) Z Z Z hc i [] s5 _ B (λ_ _=>False) ro (yA ro w2) Au V;show Le fi λr pA #[af,L]=>?_;subst af;let jk:aN X ah σ B pA:=M.yx (ch:=a) L.os L.base L.bL L.f9 λb ae=>#[(t b ae).1.2.2.2.1,(t b ae).1.2.1,(t b ae).1.2.2.2.2.1,(t b ae).1.2.2.2.2.2];let ade:B s3.heap.objs.size=none:=by let z:B ce.locals=none:=L.free;rwa[T5]at z
   let#[m,E,_]:=L.loc;let E:pA.heap.Ns ce.locals m:=E;rw[T5]at E;show ada D s3.heap.objs.size pA m B jk DG E<|M.C4 (bK _) ade
  .let nq:=T.item ((X.i0 s3 d scope ce a).gN ba) Z Z Z hc i [] s5 _ B (λ_ _=>False) ro (yA ro w2) Au go
   show Le nq λr pA h0=>?_;let#[u,af,AX]:=h0
   subst af
   show Le AX λ_ pB h0=>?_;let#[x,kO,jk,Kz,adf,L7,yC]:=h0
   let adg:=jk.pinned (yA jk yC)<|T.obj _ _ L7
   show L5 L6 (Az _ pB _ kO x u _ adg Kz<|step x kO adf) λ_ CK h0=>?_;let#[Hj,Hk,adh,T7,adi]:=h0
   show L5 L6 (pt _ CK Hj Hk _ adh adi) λb adj h0=>?_;let#[adk,T8,Hl]:=h0
   let S:∀{s':bl}{ab:aw},aN ((X.i0 s3 d scope ce a).gN ba) ([]++C7 a pB.heap) Hj ab s'->qx ab->∃m,m<n/\∃i ab,aN ((X.i0 s3 d scope ce a).gN ba) [] (jJ σ<|own.map (·.2)) ab s'/\hv i s'.heap/\(∀b∈a,ab b=U)/\W i m ab:=λ{s' ab} F cM=>by
    let#[aO,hm,g0]:=adc ab cM;let T9:∀b∈a,∀o,pB.heap.get? b=some o->s'.heap.get? b=some o/\ab b=none:=λb ae o e=>
     let z:=F.pin (b,o)<|q7 _<|q7 _<|Ky ae e
     #[z.1,z.2.1]
    let hl:(jJ σ<|own.map (·.2)).length=z9 Hj:=by rw[<-T7,La]
    show#[aO,hm,i+1,ab,(F.Gq (ah:=[])).weak hl (λj v e=>?_),T.keep _ _ _ L7 λb ae o e=>(T9 b ae o e).1,λb ae=>?_,g0]
    .rw[<-T7]at e;show(Lb e).1
    .let#[o,e,_]:=T.obj _ _ L7 b ae;show(T9 b ae o e).2
   cases b with
   |false=>simp only[Fa,if_false]at Hl ⊢;show S T8 Hl
   |true=>simp only[if_true]at Hl ⊢;show L5 L6 (qM _ adj Hj adk _ T8 Hl) λz al4 #[al5,al6,adl,adm,cK,adn,ado,cM]=>?_;show aaV (X:=(X.i0 s3 d scope ce a).gN ba) adl adn ado adm λal7 adp=>S adp cM
 show codeAny_compStart_list l<|T.self X.A 0 _ _ _ T6 l
def Ua{P:eZ}{w:dM}{b8:ao->Prop}{K:b2}{aL:Str->Option aB}{base:df}{N:List Str}{a:Str}{S:iH}{t:ao}{cd:aB}{A:e0}{bc:List Env}{eb:bl}{gS:aw}{i:dG}{d c iter:Expr}{j:List Expr}{scope:iH}{own:List (Str×Nat)}{pos:Pos}{k:TI}{g:mU}{tt:TT}{eF:TE}(p:X=hx (eV P w b8) P w K aL base N a S t cd A bc eb gS i)(T:X.tn=O)(l:X.N.Nodup)(ak:tu X c iter k)(ok:wR X.N X.env.scope scope own)
  (r:AllB X scope λY=>wC Y c g) (z:AllB X scope λY=>nz (eV P w b8) Y i->Df Y j tt)
  (M:AllB X scope λY=>bS Y d eF) (ai:∀x,EB iter X.env x=pure x:=by intro _;rfl):
  bS X (.ListComp d [#[c,iter,j,0]] scope pos) (GK k g tt eF<|own.map (·.2)):=by
 intro V s W H Q I h
 rw[eval_ListComp]
 show T3 p T l I ak ok r z M ai h λD C n m E G q R f=>#[m,R,λAT F=>?_]
 let#[v,y,f2,B,L,u]:=f
 show#[.ref D,E,G.qp (t':=n.toks) (λb o ae e=>(F.2 b ae).trans e) v y B L u,Z,q]
def Ub{P:eZ}{w:dM}{b8:ao->Prop}{K:b2}{aL:Str->Option aB}{base:df}{N:List Str}{j:Str}{DE:iH}{S:ao}{cd:aB}{A:e0}{bc:List Env}{eb:bl}{gS:aw}{u:dG}{i:Nat}{y:Str}{k:Pos}{l c iter:Expr}{d:List Expr}{scope:iH}{own:List (Str×Nat)}{pos M:Pos}{r:TI}{g:mU}{tt:TT}{eF:TE}(R:X=hx (eV P w b8) P w K aL base N j DE S cd A bc eb gS u)(hc:X.tn=O)(G:X.N.Nodup)(dI:X.N[i]?=some y)(Q:X.env.scope.names.lookup y=some .local)
  (t:rU (.ListComp l [#[c,iter,d,0]] scope pos) (some<|.Name y k) M.line X.env=pure O) (ak:tu X c iter r) (ok:wR X.N X.env.scope scope own)
  (cL:AllB X scope λY=>wC Y c g) (bz:AllB X scope λY=>nz (eV P w b8) Y u->Df Y d tt)
  (he:AllB X scope λY=>bS Y l eF) (ai:∀x,EB iter X.env x=pure x:=by intro _;rfl):
  kp X (.Assign [.Name y k] (.ListComp l [#[c,iter,d,0]] scope pos) M) (Gn (GK r g tt eF<|own.map (·.2))<|sl i):=by
 intro ah s E H D I h
 rw[exec_Assign_Name_used _ _ _ _ t]
 show aY<|BI<|aY ?_
 show bP _ X.A (do let _ <-comprehension (.ListComp l [#[c,iter,d,0]] scope pos) scope X.env (firstIterPos [#[c,iter,d,0]] pos) (newList []) J (eval iter X.env) (some<|BP (.Name y k) X.env)) _ _ s
 let h:GK r g tt eF (own.map (·.2)) E H (λx H1=>sl i x E H1 D.cM):=h
 show aY<|ct (T3 (qL:=λ_ p=>yy X ah D .next p) R hc G I ak ok cL bz he ai h λL C p m ab fN q aJ f=>?_) λ_ p aS=>c0<|c0 aS
 show bP _ _ (BP (.Name y k) X.env<|.ref L) _ _ _
 show wpAny_assign_Name<|Rg (v:=V.ref L) fN G dI (.inl Q) Z (λs2 W h0=>?_)<|.inr Q;let#[a,iN,ax]:=h0
 let#[f0,B,f2,fm,F,T]:=f
 let n:C≠a:=by
  obtain z|z:=ax
  .rw[z];show B
  .show λe=>F y a z e.symm
 show#[m,aJ.sameBut iN n,λbO Hh=>?_]
 show#[_,ab,W.qp (t':=s2.toks) (λb o ae e=>(Hh.2 b ae).trans e) f0 B fm F T,q]
end
structure ej where
 c:Nat->ao
 x:Nat->ao
 f:Nat->ao
 g:Nat->ao
def Def(K:b2)(x a:Str)(st:Stmt)(ps:List Str)(f:ao):Prop:=∃fd,tG K x a st f fd/\Binds K fd ps []
structure yY(K:b2)(aL:Str->Option aB)(x:Str)(f:ao):Prop where
 aL:aL x=Y (.ref f)
 dX:nV K (.ref f)=O
structure Ue(K:b2)(C:ao)(m:Str)(f:ao):Prop where
 bG:I3 K C (.type "type")=O
 sp:zH K (.ref C) "__getattribute__"=Y (Y<|.builtin "type.__getattribute__")
 u6:xQ K (.ref C) (.type "type") m=Y (.val<|.ref f)
 dX:nV K (.ref f)=O
structure sE(K:b2)(aL:Str->Option aB)(x:Str)(C g:ao):Prop where
 lq:G3 K C
 aL:aL x=Y (.ref C)
 dX:nV K (.ref C)=O
 ak:fJ K (.ref C) "__init__"=Y (Y<|.ref g)
 ty:BS K (.ref g)=Y (.type "function")
noncomputable def ads:List (Nat×Nat):=[(1,1),(2,1),(3,1),(4,0),(5,0),(6,0),(7,0),(8,0),(10,1),(11,1),(12,1),(13,1),(14,1),(15,1),(16,1),(17,1),(18,1),(26,1),(27,1),(27,2),(27,3),(27,4),(27,5),(27,6),(27,7),(27,8),(27,9),(31,1),(31,2),(31,3),(31,4),(31,5),(49,0),(50,0),(51,0),(52,0),(53,0),(54,0),(55,0),(56,0),(57,0),(58,0),(61,1),(61,2),(61,3),(61,4),(61,5),(61,6),(61,7),(61,8),(62,0),(66,0),(67,0),(68,0),(69,0),(70,0),(71,0),(72,0),(73,0),(74,0),(75,0),(76,0),(77,0),(78,0),(79,0),(80,0),(84,1),(84,2),(85,1),(85,2),(86,1),(86,2),(87,1),(88,1),(88,2),(89,1),(89,2),(90,1),(90,2),(92,0),(93,0),(94,0),(95,0),(97,1),(98,1),(98,2),(99,1),(99,2),(100,1),(100,2),(101,0),(103,1),(103,2),(104,1),(105,1),(106,1),(107,1),(107,2),(108,1),(108,2),(109,1),(109,2),(110,1),(110,2),(111,1),(111,2),(112,0),(113,1),(113,2),(114,1),(114,2),(115,1),(115,2),(116,1),(116,2),(117,1),(117,2),(118,1),(118,2),(119,1),(119,2),(120,1),(120,2),(120,3),(122,0),(123,0),(124,0),(125,0),(126,0),(127,0),(128,0),(129,0),(130,0),(131,0),(132,0),(133,0),(134,0),(135,0),(136,0),(137,0),(138,0),(139,0),(140,0),(143,1),(144,0),(145,0),(146,0),(147,0),(152,0),(153,0),(154,0)]
def pl(n:Nat):Nat×Nat:=ads.getD n (4,0)
def st(n:Nat):Stmt:=match pl n with
 |(i,0)=>top i
 |(i,j+1)=>inClass (top i) j
def DH:Stmt->Str
 |.FunctionDef x _ _ _ _ _ _ _ _ _=>x
 |.ClassDef x _ _ _ _ _ _ _ _ _ _=>x
 |_=>""
def nm(n:Nat):Str:=DH<|st n
def mx(n:Nat):Str:=match pl n with
 |(i,0)=>DH<|top i
 |(i,_)=>DH (top i)++"."++nm n
def pm(n:Nat):List Str:=(Dp<|st n).args.map (·.arg)
noncomputable def L8:List Nat:=[1,2,3,26,27,31,61,84,85,86,87,88,89,90,97,98,99,100,103,104,105,106,107,108,109,110,111,113,114,115,116,117,118,119,120,143]
def b1(i:Nat):Str:=DH<|top<|L8.getD i 1
instance {N P:List Str}{sc:iH}:Decidable (rq N P sc):=
 decidable_of_iff ((match sc.kind with|.function=>O|_=>J)=O/\sc.isCoroutine=J/\sc.isGenerator=J/\N.Nodup/\N.take (z9 P)=P/\(∀x∈P,sc.names.lookup x=Y .local\/sc.names.lookup x=Y .cell)/\∀y∈sc.names,y.2≠.free)
  #[λh=>by let#[a,b,c,d,e,f,g]:=h;show#[by revert a;cases sc.kind<;>simp,b,c,d,e,f,g],λh=>by let#[a,b,c,d,e,f,g]:=h;show#[by rw[a],b,c,d,e,f,g]]
noncomputable def jH:List (List Str):=([["senders","takers"],["task","number"],["task","frame","slot","statement"],["number","parent","things","ready","waits_for","takes_from"],["processes","steps","row","tasks_made","tasks_over","cells_made","channels_made","written"],["seen","hidden","slots"],["tokens","place","scope"],["number"],["slot"],["slot"],[],["inner"]]:List (List Str))++([["inner"],["first","links"],[],["part","rest"],["slot"],["slot"],[],[],[],[],["cell","expression"],["channel","expression"]]:List (List Str))++([["channel","cell"],["expression"],["name","arguments"],["condition","chosen","otherwise"],["condition","repeated"],["listed"],["statements"],["branches"],["condition","statement"],["condition","statement"],["condition","statement","channel","cell"],["parameters","body"]]:List (List Str))
def fd(i j:Nat):Str:=(jH.getD i []).getD j ""
structure Txt(K:b2)(aL:Str->Option aB)(T:ej):Prop where
 d:∀n,Def K (nm n) (mx n) (st n) (pm n) (T.f n)
 t:∀n,(pl n).2=0->yY K aL (nm n) (T.f n)
 n:∀i j,pN K (T.c i) (fd i j)
 c:∀i,ku K (T.c i)/\yY K aL (b1 i) (T.c i)
 adt:hk K (T.c 0) (T.f 0)
 adu:hk K (T.c 1) (T.f 1)
 adv:hk K (T.c 2) (T.f 2)
 adw:hk K (T.c 3) (T.f 17)
 adx:c6 K (T.c 4) "run_main" (T.f 19)
 ady:c6 K (T.c 4) "go_on" (T.f 20)
 adz:c6 K (T.c 4) "finish" (T.f 21)
 Hm:c6 K (T.c 4) "make_ready" (T.f 22)
 Uf:c6 K (T.c 4) "make_tasks" (T.f 23)
 Ug:c6 K (T.c 4) "make_cell" (T.f 24)
 adA:c6 K (T.c 4) "make_channel" (T.f 25)
 adB:c6 K (T.c 4) "write_number" (T.f 26)
 adC:hk K (T.c 4) (T.f 18)
 L9:c6 K (T.c 5) "declare" (T.f 28)
 adD:c6 K (T.c 5) "mark" (T.f 29)
 adE:c6 K (T.c 5) "leave" (T.f 30)
 w8:c6 K (T.c 5) "slot_of" (T.f 31)
 Uh:hk K (T.c 5) (T.f 27)
 adF:c6 K (T.c 6) "at_end" (T.f 43)
 adG:c6 K (T.c 6) "at_number" (T.f 44)
 Ui:c6 K (T.c 6) "fixed" (T.f 45)
 Uj:c6 K (T.c 6) "step_over" (T.f 46)
 Uk:c6 K (T.c 6) "accept" (T.f 47)
 Ma:c6 K (T.c 6) "expect" (T.f 48)
 Ul:c6 K (T.c 6) "expect_name" (T.f 49)
 adH:hk K (T.c 6) (T.f 42)
 adI:c6 K (T.c 7) "work_out" (T.f 67)
 Um:hk K (T.c 7) (T.f 66)
 adJ:c6 K (T.c 8) "work_out" (T.f 69)
 adK:hk K (T.c 8) (T.f 68)
 adL:c6 K (T.c 9) "work_out" (T.f 71)
 adM:hk K (T.c 9) (T.f 70)
 adN:c6 K (T.c 10) "work_out" (T.f 72)
 adO:p7 K (T.c 10)=O
 adP:fJ K (.ref<|T.c 10) "__init__"=Y (Y<|.builtin "object.__init__")
 adQ:c6 K (T.c 11) "work_out" (T.f 74)
 adR:hk K (T.c 11) (T.f 73)
 adS:c6 K (T.c 12) "work_out" (T.f 76)
 adT:hk K (T.c 12) (T.f 75)
 adU:c6 K (T.c 13) "work_out" (T.f 78)
 adV:hk K (T.c 13) (T.f 77)
 adW:c6 K (T.c 14) "come_to" (T.f 83)
 adX:p7 K (T.c 14)=O
 adY:fJ K (.ref<|T.c 14) "__init__"=Y (Y<|.builtin "object.__init__")
 adZ:c6 K (T.c 15) "come_to" (T.f 85)
 ad0:hk K (T.c 15) (T.f 84)
 ad1:c6 K (T.c 16) "come_to_in_list" (T.f 87)
 ad2:hk K (T.c 16) (T.f 86)
 ad3:c6 K (T.c 17) "come_to_in_list" (T.f 89)
 ad4:hk K (T.c 17) (T.f 88)
 al8:c6 K (T.c 18) "come_to" (T.f 91)
 al9:c6 K (T.c 18) "come_to_in_list" (T.f 92)
 ama:p7 K (T.c 18)=O
 amb:fJ K (.ref<|T.c 18) "__init__"=Y (Y<|.builtin "object.__init__")
 ad5:c6 K (T.c 19) "come_to" (T.f 91)
 ad6:c6 K (T.c 19) "come_to_in_list" (T.f 92)
 ad7:c6 K (T.c 19) "begin" (T.f 93)
 Mb:p7 K (T.c 19)=O
 Mc:fJ K (.ref<|T.c 19) "__init__"=Y (Y<|.builtin "object.__init__")
 ad8:c6 K (T.c 20) "come_to" (T.f 91)
 ad9:c6 K (T.c 20) "come_to_in_list" (T.f 92)
 aea:c6 K (T.c 20) "begin" (T.f 94)
 aeb:p7 K (T.c 20)=O
 aec:fJ K (.ref<|T.c 20) "__init__"=Y (Y<|.builtin "object.__init__")
 aed:c6 K (T.c 21) "come_to" (T.f 91)
 aee:c6 K (T.c 21) "come_to_in_list" (T.f 92)
 aef:c6 K (T.c 21) "begin" (T.f 95)
 Md:p7 K (T.c 21)=O
 Me:fJ K (.ref<|T.c 21) "__init__"=Y (Y<|.builtin "object.__init__")
 aeg:c6 K (T.c 22) "come_to" (T.f 91)
 aeh:c6 K (T.c 22) "come_to_in_list" (T.f 92)
 aei:c6 K (T.c 22) "begin" (T.f 97)
 aej:hk K (T.c 22) (T.f 96)
 aek:c6 K (T.c 23) "come_to" (T.f 91)
 ael:c6 K (T.c 23) "come_to_in_list" (T.f 92)
 aem:c6 K (T.c 23) "begin" (T.f 99)
 aen:hk K (T.c 23) (T.f 98)
 aeo:c6 K (T.c 24) "come_to" (T.f 91)
 aep:c6 K (T.c 24) "come_to_in_list" (T.f 92)
 aeq:c6 K (T.c 24) "begin" (T.f 101)
 aer:hk K (T.c 24) (T.f 100)
 aes:c6 K (T.c 25) "come_to" (T.f 91)
 aet:c6 K (T.c 25) "come_to_in_list" (T.f 92)
 aeu:c6 K (T.c 25) "begin" (T.f 103)
 aev:hk K (T.c 25) (T.f 102)
 aew:c6 K (T.c 26) "come_to" (T.f 91)
 aex:c6 K (T.c 26) "come_to_in_list" (T.f 92)
 aey:c6 K (T.c 26) "begin" (T.f 105)
 aez:hk K (T.c 26) (T.f 104)
 aeA:c6 K (T.c 27) "come_to" (T.f 91)
 aeB:c6 K (T.c 27) "come_to_in_list" (T.f 92)
 aeC:c6 K (T.c 27) "begin" (T.f 108)
 Un:hk K (T.c 27) (T.f 107)
 aeD:c6 K (T.c 28) "come_to" (T.f 91)
 aeE:c6 K (T.c 28) "come_to_in_list" (T.f 92)
 aeF:c6 K (T.c 28) "begin" (T.f 110)
 aeG:hk K (T.c 28) (T.f 109)
 aeH:c6 K (T.c 29) "come_to" (T.f 91)
 aeI:c6 K (T.c 29) "come_to_in_list" (T.f 92)
 aeJ:c6 K (T.c 29) "begin" (T.f 112)
 aeK:hk K (T.c 29) (T.f 111)
 aeL:c6 K (T.c 30) "come_to" (T.f 91)
 aeM:c6 K (T.c 30) "come_to_in_list" (T.f 92)
 aeN:c6 K (T.c 30) "begin" (T.f 114)
 aeO:hk K (T.c 30) (T.f 113)
 aeP:c6 K (T.c 31) "come_to" (T.f 91)
 aeQ:c6 K (T.c 31) "come_to_in_list" (T.f 92)
 aeR:c6 K (T.c 31) "begin" (T.f 116)
 aeS:hk K (T.c 31) (T.f 115)
 amc:c6 K (T.c 32) "counts" (T.f 118)
 amd:hk K (T.c 32) (T.f 117)
 aeT:c6 K (T.c 33) "counts" (T.f 118)
 aeU:c6 K (T.c 33) "look_up" (T.f 119)
 aeV:c6 K (T.c 33) "can_be_done" (T.f 120)
 aeW:hk K (T.c 33) (T.f 117)
 aeX:c6 K (T.c 34) "counts" (T.f 118)
 aeY:c6 K (T.c 34) "look_up" (T.f 122)
 aeZ:c6 K (T.c 34) "can_be_done" (T.f 123)
 ae0:hk K (T.c 34) (T.f 121)
 ae1:hk K (T.c 35) (T.f 143)
 AM:Ue K (T.c 32) "__init__" (T.f 117)
 u7:sE K aL "Refusal" (T.x 0) (T.f 8)
 Uo:sE K aL "OutOfRange" (T.x 1) (T.f 9)
 Up:sE K aL "NoProgram" (T.x 2) (T.f 10)
 Uq:sE K aL "WrongName" (T.x 3) (T.f 11)
 Ur:sE K aL "DividedByZero" (T.x 4) (T.f 12)
 Us:sE K aL "TooMany" (T.x 5) (T.f 13)
 Ut:sE K aL "NoStepLeft" (T.x 6) (T.f 14)
 Uu:sE K aL "NotAllOver" (T.x 7) (T.f 15)
 Uv:sE K aL "TooLong" (T.x 8) (T.f 16)
 hP:Ue K (T.x 0) "__init__" (T.f 8)
 ex:xQ K (.type "Exception") (.type "type") "__init__"=Y (.val<|.builtin "Exception.__init__")
 ae2:∃t,aL "MOST_TASKS"=Y (.int 4096 t)
 ae3:∃t,aL "MOST_CELLS"=Y (.int 1000000 t)
 ae4:∃t,aL "MOST_CHANNELS"=Y (.int 1000000 t)
 ae5:∃t,aL "MOST_BYTES"=Y (.int 1048576 t)
 ae6:∃t,aL "MOST_THINGS"=Y (.int 512 t)
 ae7:∃t,aL "NEWLINE_machines"=Y (.int 10 t)
 AY:∃t,aL "CELL"=Y (.str "cell" t)
 yZ:∃t,aL "CHANNEL"=Y (.str "channel" t)
 Uw:∃t,aL "NUMBER"=Y (.str "number" t)
 Ux:∃t,aL "NAME"=Y (.str "name" t)
 Mf:∃t,aL "FIXED"=Y (.str "fixed" t)
 Uy:∃t,aL "END"=Y (.str "end" t)
 ae8:∃t,aL "NAME_LETTERS"=Y (.str "abcdefghijklmnopqrstuvwxyzABCDEFGHIJKLMNOPQRSTUVWXYZ0123456789_" t)
 ae9:∃t,aL "BLANK"=Y (.int 32 t)
 afa:∃t,aL "TAB"=Y (.int 9 t)
 afb:∃t,aL "NEWLINE_tokens"=Y (.int 10 t)
 afc:∃t,aL "HASH"=Y (.int 35 t)
 afd:∃t,aL "PERCENT"=Y (.int 37 t)
 Uz:∃t,aL "DIGIT_ZERO"=Y (.int 48 t)
 afe:∃t,aL "DIGIT_NINE"=Y (.int 57 t)
 aff:∃t,aL "MOST_DIGITS"=Y (.int 10 t)
 afg:∃t,aL "FIRST_NUMBER_TOO_LARGE"=Y (.int 2147483648 t)
 afh:∃t,aL "DEEPEST_LEVEL"=Y (.int 99 t)
 afi:∃t,aL "HALF"=Y (.int 2147483648 t)
 afj:∃t,aL "WHOLE"=Y (.int 4294967296 t)
 afk:∃t,aL "LONGEST_TEXT"=Y (.int 65536 t)
 afl:∃t,aL "MOST_STEPS"=Y (.int 100000000 t)
 afm:∃t,aL "LARGEST_MOST"=Y (.int 1048576 t)
 afn:aL "KEPT_WORDS"=Y (.ref<|T.g 0)
 afo:aL "SIGNS"=Y (.ref<|T.g 1)
 afp:aL "OPERATORS"=Y (.ref<|T.g 2)
 UA:aL "TIGHTNESS"=Y (.ref<|T.g 3)
 UB:aL "STARTS"=Y (.ref<|T.g 4)
 lJ:∀x∈(["len","range","ord","str","tuple","reversed","enumerate","zip","abs","isinstance","Exception","list","int"]:List Str),aL x=U
section
variable (P:eZ) (w:dM) (b8:ao->Prop) (K:b2) (aL:Str->Option aB) (base:df)
def kR(k:Nat)(f:ao)(ps:List Str)(sp:j4):Prop:=∃fd,ny P w K aL base (eV P w b8) k f fd ps sp/\Binds K fd ps []
end
def bh(M:List ao)(H a:aw):Prop:=∀b o,H b=Y o->b∉M->a b=Y o
def gd(E:dG)(n:Int):Prop:=∀a,E (.int n 0) U a
noncomputable def ky(D:ej):Nat->ao
 |0=>(D.f 52)|1=>(D.f 53)|2=>(D.f 54)|3=>(D.f 55)|4=>(D.f 56)|5=>(D.f 57)|6=>(D.f 58)|7=>(D.f 59)
 |8=>(D.f 60)|9=>(D.f 61)|10=>(D.f 62)|11=>(D.f 63)|_=>(D.f 64)
def cZ(b:br):Str:=#[b.toArray]
noncomputable def sF:List br:=(["%","==","!=","<=",">=","&&","||","(",")","{","}",",",";",":","=","<",">","+","-","*","/","!","?","&"]:List String).map ascii
def d8(b:br):List V:=b.map λc=>.int (c:Nat)
def w9(b:br)(a c:Int):Prop:=65536<z9 b\/¬ (0<=a/\a<=100000000)\/¬ (0<=c/\c<=1048576)
def DI(E:dG)(r:Except Bad (vO×EV)):Prop:=(∀b,r=.error b->gd E (uE b))/\(∀s,r=.ok (s,.late)->gd E (-5))/\∀s,r=.ok (s,.dead)->gd E (-6)
instance (b:br)(a c:Int):Decidable (w9 b a c):=by unfold w9;infer_instance
def tL(H:aw)(Q:ck)(E:dG)(a c:Int)(b:br):Prop:=if w9 b a c then gd E (-2)else match zJ b with
 |none=>gd E<|-3
 |some ps=>∃n r,uo ps n (Sn24.first ps a.toNat)=Y r/\DI E r/\∀s,r=.ok (s,.over)->if c<(z9 s.out:Int)then gd E (-1)else ∀p d,bh [] H d->H p=U->d p=Y (.bq<|d8 s.out)->z9 s.out<=1048576->Q (.ref p) d
structure tM(P:eZ)(w:dM)(K:b2)(a:ao)(av:List (Key×V)):Prop where
 ns:(a==nQ)=J
 nG:∀h:df,K.In h->∃ac,jG av ac/\h.DictOf (jF P w) a ac
noncomputable def sG:List (Key×V):=[(cT "||",.int 1),(cT "&&",.int 2),(cT "==",.int 3),(cT "!=",.int 3),(cT "<",.int 4),(cT "<=",.int 4),(cT ">",.int 4),(cT ">=",.int 4),(cT "+",.int 5),(cT "-",.int 5),(cT "*",.int 6),(cT "/",.int 6),(cT "remainder of",.int 6)]
noncomputable def AZ(D:ej):List (Key×V):=[(cT "||",.ref<|ky D 0),(cT "&&",.ref<|ky D 1),(cT "==",.ref<|ky D 2),(cT "!=",.ref<|ky D 3),(cT "<",.ref<|ky D 4),(cT "<=",.ref<|ky D 5),(cT ">",.ref<|ky D 6),(cT ">=",.ref<|ky D 7),(cT "+",.ref<|ky D 8),(cT "-",.ref<|ky D 9),(cT "*",.ref<|ky D 10),(cT "/",.ref<|ky D 11),(cT "remainder of",.ref<|ky D 12)]
noncomputable def y0(D:ej):List (Key×V):=[(cT "int",.ref<|D.f 130),(cT "chan",.ref<|D.f 130),(cT "skip",.ref<|D.f 131),(cT "stop",.ref<|D.f 132),(cT "print",.ref<|D.f 133),(cT "run",.ref<|D.f 134),(cT "if",.ref<|D.f 136),(cT "while",.ref<|D.f 137),(cT "{",.ref<|D.f 138),(cT "par",.ref<|D.f 140),(cT "alt",.ref<|D.f 141)]
def A0:List V:=(sF.drop 1).map λs=>.str<|cZ s
def DJ(K:b2)(a:ao)(xs:List V):Prop:=∀H,gb K H a xs
def A1:List V:=Sn24.kept.map λs=>.str<|cZ s
structure u9(K:b2)(C b1:ao)(b:Bool):Prop where
 cl:ku K C
 ax:fJ K (.ref C) "__class__"=Y (Y<|.builtin "object.__class__")
 hm:I2 K C (.type "object")=Y O
 wk:ET K (.ref C) (.ref b1)=Y b
structure Mg(K:b2)(D:ej):Prop where
 aJ:zH K (.builtin "object.__class__") "__get__"=Y (Y<|.builtin "getset_descriptor.__get__")
 n7:I0 K (.builtin "object.__class__")=Y O
 cA:u9 K (D.c 7) (D.c 9) J
 gx:u9 K (D.c 8) (D.c 9) J
 aH:u9 K (D.c 9) (D.c 9) O
 afq:u9 K (D.c 10) (D.c 9) J
 mJ:u9 K (D.c 11) (D.c 9) J
 afr:u9 K (D.c 12) (D.c 9) J
 afs:u9 K (D.c 13) (D.c 9) J
structure Hn(K:b2)(tB C:ao):Prop where
 em:OS K (.ref C) (.ref tB)=Y O
 lq:qF K C
 ga:fJ K (.ref C) "__getattribute__"=Y (Y<|.builtin "BaseException.__getattribute__")
 gt:fJ K (.ref C) "__getattr__"=Y U
 hd:zG K C=O
 no:fJ K (.ref C) "number"=Y U
def DK(H:aw)(Q:ck)(a d:Int)(b:br):Prop:=
 tL H (λv c=>∀p o,v=.ref p->c p=Y (.bq o)->z9 o<=1048576->∀e l,c e=U->c l=U->l≠e->Q (.ref l) (aE (aE c e<|.bq [.int (z9 o)]) l<|.bq (.int (z9 o)::o))) (λv q c=>∃n:Int,v=.int n 0/\∀l,c l=U->Q (.ref l) (aE c l<|.bq [.int n])) a d b
def Hp(K:b2):j4:=λac H Q q=>∃a d dp b,ac=[.int a,.int d,.ref dp]/\bM K H dp (d8 b)/\(∀c∈b,c<256)/\DK H Q a d b
structure Mh where
 P:eZ
 w:dM
 K:b2
 aL:Str->Option aB
 fC:df
 D:ej
structure tN(b:Mh):Prop where
 T:Txt b.K b.aL b.D
 Hq:tM b.P b.w b.K (b.D.g 3) sG
 Mi:tM b.P b.w b.K (b.D.g 2) (AZ b.D)
 Hr:tM b.P b.w b.K (b.D.g 4) (y0 b.D)
 kt:DJ b.K (b.D.g 1) A0
 mn:DJ b.K (b.D.g 0) A1
 aft:Mg b.K b.D
 rc:∀i,Hn b.K (b.D.x 0) (b.D.x i)
def tO(K:b2)(a:ao):Option oB:=match K.lookup a with
 |some #[7,.func fd,_]=>Y fd
 |_=>U
def xa(b:Mh):Prop:=∃fd,ny b.P b.w b.K b.aL b.fC (eV b.P b.w (λC=>∃i,C=b.D.x i)) 415 (b.D.f 148) fd (pm 148) (Hp b.K)/\tO b.K (b.D.f 148)=Y fd
end Ho
namespace Ho
open PySem PySem.Spec PyProof.Rows L2 PySem.Builtin.ObjectAttr
open Sn24(Bytes ascii Bad digit letter Proc)
open PySem.W (nsIn findIn keepIn makesIn isFn findCls codeIn fnOf plainGet hasDictIn plainOver specialIn readsIn Frag)
namespace Hd
noncomputable def cz:ej:=#[λi=>([31,52,73,301,376,425,563,705,733,761,782,810,838,866,915,943,971,999,1034,1055,1074,1093,1119,1145,1171,1197,1223,1256,1282,1308,1334,1358,1384,1412,1445,1598]:List Nat).getD i 31,λi=>([129,149,168,187,206,225,244,263,282]:List Nat).getD i 129,λi=>([28,49,70,84,91,98,105,112,126,146,165,184,203,222,241,260,279,298,319,326,333,340,347,354,361,368,373,394,401,408,415,422,438,445,450,457,464,471,478,485,490,497,511,518,525,532,539,546,553,560,574,581,588,595,602,609,616,623,630,637,644,651,658,665,672,679,695,702,723,730,751,758,779,800,807,828,835,856,863,877,884,891,898,912,933,940,961,968,989,996,1010,1024,1031,1052,1071,1090,1109,1116,1135,1142,1161,1168,1187,1194,1213,1220,1232,1246,1253,1272,1279,1298,1305,1324,1331,1350,1355,1374,1381,1402,1409,1428,1435,1442,1454,1461,1468,1475,1482,1489,1496,1503,1510,1517,1524,1531,1538,1545,1552,1559,1566,1573,1580,1595,1609,1616,1623,1630,1637,1644,1651]:List Nat).getD i 84,λi=>([430,431,680,681,1581]:List Nat).getD i 0]
def K9{α a:Type}{l:List α}{f g:α->a}(h:l.map f=l.map g)(i:Nat)(ak:i<z9 l:=by decide):f l[i]=g l[i]:=oD.mp h _<|zN ak
def oi{a:Type}{n:Nat}{f g:Nat->a}(h:(gK n).map f=(gK n).map g){i:Nat}(ak:i<n):f i=g i:=oD.mp h i<|nc.mpr ak
noncomputable def UC(n:Nat)(fd:oB):oB:=zI (nm n) (mx n) (Dp<|st n) (rx<|st n) (hY<|st n) .none fd.kwdefaults fd.doc fd.pyModule fd.annotations fd.code fd.closureTuple
def UD(p:jt):(gK 151).map (λn=>tO (c7 p)<|cz.f n)=(gK 151).map λn=>(tO (c7 p)<|cz.f n).map<|UC n:=by kernel_rfl
def Mj(p:jt):(gK 151).map (λn=>((tO (c7 p)<|cz.f n).map λfd=>I4 (c7 p) fd.code<|mx n,nV (c7 p)<|.ref<|cz.f n,BU (c7 p)<|.ref<|cz.f n))=(gK 151).map λn=>(Y O,O,O):=by kernel_rfl
noncomputable def UE:List Nat:=(gK 151).filter λn=>(pl n).2==0
def afu(p:jt):UE.map (λn=>q1 (c7 p) k0<|nm n)=UE.map λn=>Y<|Y<|.ref<|cz.f n:=by kernel_rfl
noncomputable def obs:Option (Option aB):=Y<|Y<|.builtin "object.__setattr__"
def Mk(p:jt):(gK 36).map (λi=>(BR (c7 p) (cz.c i) Str.empty,zG (c7 p)<|cz.c i,I1 (c7 p)<|cz.c i,fJ (c7 p) (.ref<|cz.c i) "__setattr__",q1 (c7 p) k0<|b1 i,p7 (c7 p)<|cz.c i,nV (c7 p)<|.ref<|cz.c i,(("":Str)::jH.getD i []).map<|fJ (c7 p)<|.ref<|cz.c i))=
  (gK 36).map λi=>(O,O,O,obs,Y<|Y<|.ref<|cz.c i,O,O,(("":Str)::jH.getD i []).map λq=>Y U):=by kernel_rfl
noncomputable def Ml:List (Nat×Nat):=[(0,0),(1,1),(2,2),(3,17),(4,18),(5,27),(6,42),(7,66),(8,68),(9,70),(11,73),(12,75),(13,77),(15,84),(16,86),(17,88),(22,96),(23,98),(24,100),(25,102),(26,104),(27,107),(28,109),(29,111),(30,113),(31,115),(32,117),(33,117),(34,121),(35,143)]
noncomputable def Mm:List (Nat×Nat):=[(4,19),(4,20),(4,21),(4,22),(4,23),(4,24),(4,25),(4,26),(5,28),(5,29),(5,30),(5,31),(6,43),(6,44),(6,45),(6,46),(6,47),(6,48),(6,49),(7,67),(8,69),(9,71),(10,72),(11,74),(12,76),(13,78),(14,83),(15,85),(16,87),(17,89),(18,91),(18,92),(19,91),(19,92),(19,93),(20,91),(20,92),(20,94),(21,91),(21,92),(21,95),(22,91),(22,92),(22,97),(23,91),(23,92),(23,99),(24,91),(24,92),(24,101),(25,91),(25,92),(25,103),(26,91),(26,92),(26,105),(27,91),(27,92),(27,108),(28,91),(28,92),(28,110),(29,91),(29,92),(29,112),(30,91),(30,92),(30,114),(31,91),(31,92),(31,116),(32,118),(33,118),(33,119),(33,120),(34,118),(34,122),(34,123)]
def afv(p:jt):Ml.map (λx=>fJ (c7 p) (.ref<|cz.c x.1) "__init__")=Ml.map λx=>Y<|Y<|.ref<|cz.f x.2:=by kernel_rfl
def afw(p:jt):Mm.map (λx=>fJ (c7 p) (.ref<|cz.c x.1)<|nm x.2)=Mm.map λx=>Y<|Y<|.ref<|cz.f x.2:=by kernel_rfl
def afx(p:jt):([10,14,18,19,20,21]:List Nat).map (λi=>fJ (c7 p) (.ref<|cz.c i) "__init__")=([10,14,18,19,20,21]:List Nat).map λi=>Y<|Y<|.builtin "object.__init__":=by kernel_rfl
noncomputable def Mn(K:b2)(x:Str):Option V:=((q1 K k0 x).bind id).bind uU
noncomputable def sH:List (Str×V):=[("MOST_TASKS",.int 4096),("MOST_CELLS",.int 1000000),("MOST_CHANNELS",.int 1000000),("MOST_BYTES",.int 1048576),("MOST_THINGS",.int 512),("NEWLINE_machines",.int 10),("CELL",.str "cell"),("CHANNEL",.str "channel"),("NUMBER",.str "number"),("NAME",.str "name"),("FIXED",.str "fixed"),("END",.str "end"),("NAME_LETTERS",.str "abcdefghijklmnopqrstuvwxyzABCDEFGHIJKLMNOPQRSTUVWXYZ0123456789_"),("BLANK",.int 32),("TAB",.int 9),("NEWLINE_tokens",.int 10),("HASH",.int 35),("PERCENT",.int 37),("DIGIT_ZERO",.int 48),("DIGIT_NINE",.int 57),("MOST_DIGITS",.int 10),("FIRST_NUMBER_TOO_LARGE",.int 2147483648),("DEEPEST_LEVEL",.int 99),("HALF",.int 2147483648),("WHOLE",.int 4294967296),("LONGEST_TEXT",.int 65536),("MOST_STEPS",.int 100000000),("LARGEST_MOST",.int 1048576)]
def afy(p:jt):sH.map (λx=>Mn (c7 p) x.1)=sH.map λx=>Y x.2:=by kernel_rfl
noncomputable def UF:List Str:=["KEPT_WORDS","SIGNS","OPERATORS","TIGHTNESS","STARTS"]
def afz(p:jt):(gK 5).map (λi=>q1 (c7 p) k0<|UF.getD i "")=(gK 5).map λi=>Y<|Y<|.ref<|cz.g i:=by kernel_rfl
noncomputable def lr:List Str:=["len","range","ord","str","tuple","reversed","enumerate","zip","abs","isinstance","Exception","list","int"]
def afA(p:jt):lr.map (q1 (c7 p) k0)=lr.map λq=>Y none:=by kernel_rfl
noncomputable def CR(i:Nat):Str:=DH<|top<|10+i
noncomputable def tP(o:Obj):ClassData:=match o.data with
 |.cls c=>c
 |_=>default
noncomputable def afB(C:ao)(o:Obj):Obj:=IF (tP o).name (tP o).qualname C (tP o).ns (tP o).bases ((tP o).mro.drop 1) O (tP o).slotNames (tP o).subclasses (tP o).abstract (tP o).collection o.dict (o.slots.getD 0 U) (o.slots.getD 1 U) (o.slots.getD 2 U) (o.slots.getD 3 U) (o.slots.getD 5 U) "Exception.__new__"
def afC(p:jt):(gK 9).map (λi=>((c7 p).lookup<|cz.x i).map λo=>(afB (cz.x i) o,Dt<|(tP o).mro.drop 1))=(gK 9).map λi=>((c7 p).lookup<|cz.x i).map (·,O):=by kernel_rfl
def Mo(p:jt):(gK 9).map (λi=>(((c7 p).lookup<|cz.x i).isSome,fJ (c7 p) (.ref<|cz.x i) "__setattr__",fJ (c7 p) (.ref<|cz.x i) "number",q1 (c7 p) k0<|CR i,nV (c7 p)<|.ref<|cz.x i,fJ (c7 p) (.ref<|cz.x i) "__init__",BS (c7 p)<|.ref<|cz.f<|8+i,
   OS (c7 p) (.ref<|cz.x i) (.ref<|cz.x 0),fJ (c7 p) (.ref<|cz.x i) "__getattribute__",fJ (c7 p) (.ref<|cz.x i) "__getattr__",zG (c7 p) (cz.x i)))=
  (gK 9).map λi=>(O,obs,Y U,Y<|Y<|.ref<|cz.x i,O,Y<|Y<|.ref<|cz.f<|8+i,Y<|.type "function",Y O,Y<|Y<|.builtin "BaseException.__getattribute__",Y U,O):=by kernel_rfl
noncomputable def Mp(K:b2)(C:ao):Bool×Option (Option aB)×Option OT:=(I3 K C<|.type "type",zH K (.ref C) "__getattribute__",xQ K (.ref C) (.type "type") "__init__")
noncomputable def Mq(f:ao):Bool×Option (Option aB)×Option OT:=(O,Y<|Y<|.builtin "type.__getattribute__",Y<|.val<|.ref f)
def UG(p:jt):(Mp (c7 p)<|cz.c 32,Mp (c7 p)<|cz.x 0,xQ (c7 p) (.type "Exception") (.type "type") "__init__",zH (c7 p) (.builtin "object.__class__") "__get__",I0 (c7 p)<|.builtin "object.__class__")=
  (Mq<|cz.f 117,Mq<|cz.f 8,Y<|.val<|.builtin "Exception.__init__",Y<|Y<|.builtin "getset_descriptor.__get__",Y O):=by kernel_rfl
def tabI(p:jt):(gK 7).map (λi=>(fJ (c7 p) (.ref<|cz.c<|7+i) "__class__",I2 (c7 p) (cz.c<|7+i)<|.type "object",ET (c7 p) (.ref<|cz.c<|7+i)<|.ref<|cz.c 9))=
  (gK 7).map λi=>(Y<|Y<|.builtin "object.__class__",Y O,Y<|i==2):=by kernel_rfl
end Hd
namespace Hd
def Hs(e:uU u=Y x):dq x u:=by cases u<;>cases e<;>first|rfl|show#[9]
theorem UH:∀{us:List aB}{xs:List V},us.map uU=xs.map Y->dA xs us
 |[],[],_=>.nil
 |_::_,_::_,e=>.cons (Hs (Ci e).1)<|UH (Ci e).2
noncomputable def Ht(K:b2)(a:ao):Option (aB×List (Option V)):=match K.lookup a with
 |some #[c,_,.seq b _,_]=>Y (c,b.toList.map uU)
 |_=>U
set_option tactic.hygienic true in
def UI{K:b2}{a:ao}{xs:List V}(j:z9 xs<=sizeLine)(e:Ht K a=Y (.type "tuple",xs.map Y)):DJ K a xs:=λH=>by
 unfold Ht at e;split at e
 .rename_i c d g n i h;cases c<;>injection e with e<;>injection e with f b<;>cases f
  show .inr #[_,g,n,h,Z,Z,?_,UH b];have:=congrArg Jq b;rw[hR,hR,zQ]at this;lia
 .cases e
def afD:∀{es:List zA},es.map (λe=>(e.hash,uU e.key,uU e.val))=av.map (λx=>(F9 w x.1,Y<|ez x.1,Y x.2))->
  ∃ac,jG av ac/\Pairs (jF P w) es ac/\ac.map (·.1)=av.map (·.1)/\∀e∈es,∃k,(jF P w).is k e.key=O/\e.hash=(jF P w).hash k:=by
 induction av with
 |nil=>intro es h;cases es with
  |nil=>show#[[],.nil,.nil,Z,λq m=>a8 m vV]
  |cons _ _=>cases h
 |cons x av i=>intro es h;cases es with
  |nil=>cases h
  |cons e es=>
   let#[o,l]:=Ci h;let#[ac,a,b,c,d]:=i l;injection o with p f
   injection f with f n
   let g:=rt (P:=P) (w:=w)<|Hs f;show#[(x.1,e.val)::ac,.cons #[Z,Hs n] a,.cons g Z b,by rw[mH,mH,c],λj m=>by
    obtain rfl|m:=eG.mp m
    .show#[_,g,p]
    .show d j m]
noncomputable def DL(K:b2)(a:ao):Option (aB×Option ao×Array (Option aB)×List (Int×Option V×Option V)):=match K.lookup a with
 |some #[c,d,.dict f _,b]=>Y (c,d,b,f.toList.map λe=>(e.hash,uU e.key,uU e.val))
 |_=>U
set_option tactic.hygienic true in
def Mr{P:eZ}{w:dM}{K:b2}{a:ao}{av:List (Key×V)}(k:(a==nQ)=J)(f:(av.map (·.1)).Nodup)(e:DL K a=Y (.type "dict",U,[].toArray,av.map λx=>(F9 w x.1,Y<|ez x.1,Y x.2))):tM P w K a av:=#[k,λh i=>by
 unfold DL at e;split at e
 .rename_i c d j n r o;injection e with e
  injection e with l e
  injection e with g e
  injection e with p q
  subst l g p;let#[ac,a,b,c,d]:=afD q;show#[ac,a,_,j,n,i _ _ o,#[Z,Z,Z],Z,λe m=>d e<|Pk.mpr m,b,c▸f]
 .cases e]
noncomputable def o5(k:Nat):List Nat:=(gK 151).filter λn=>(pm n).length==k
section
variable (ez doc m1 b6 fI:aB) (an:Option ao)
noncomputable def tQ(us:List aB)(n:Nat):=bindArgs (zI (nm n) (mx n) (Dp<|st n) (rx<|st n) (hY<|st n) .none ez doc m1 an b6 fI) #[us,[]]
noncomputable def xb(us:List aB)(n:Nat):Sem (List<|Str×aB):=pure<|(pm n).zip us
def afE:(o5 0).map (tQ ez doc m1 b6 fI an [])=(o5 0).map (xb []):=by kernel_rfl
def afF(a:aB):(o5 1).map (tQ ez doc m1 b6 fI an [a])=(o5 1).map (xb [a]):=by kernel_rfl
def afG(a b:aB):(o5 2).map (tQ ez doc m1 b6 fI an [a,b])=(o5 2).map (xb [a,b]):=by kernel_rfl
def afH(a b c:aB):(o5 3).map (tQ ez doc m1 b6 fI an [a,b,c])=(o5 3).map (xb [a,b,c]):=by kernel_rfl
def afI(a b c d:aB):(o5 4).map (tQ ez doc m1 b6 fI an [a,b,c,d])=(o5 4).map (xb [a,b,c,d]):=by kernel_rfl
def afJ(a b c d e:aB):(o5 5).map (tQ ez doc m1 b6 fI an [a,b,c,d,e])=(o5 5).map (xb [a,b,c,d,e]):=by kernel_rfl
def afK(a b c d e f:aB):(o5 6).map (tQ ez doc m1 b6 fI an [a,b,c,d,e,f])=(o5 6).map (xb [a,b,c,d,e,f]):=by kernel_rfl
def afL:(gK 151).all (λn=>decide<|(pm n).length<7)=true:=by kernel_rfl
def UK(j:n<151)(i:z9 us=(pm n).length):tQ ez doc m1 b6 fI an us n=xb us n:=by
 let m:∀k,z9 us=k->n∈o5 k:=λk e=>vW.mpr #[nc.mpr j,by rw[<-i,e];show beq_self_eq_true k]
 let h:z9 us<7:=by rw[i];show kc<|BY.mp afL n<|nc.mpr j
 match us,m,h with
 |[],m,_=>show oD.mp (afE ez doc m1 b6 fI an) n<|m _ Z
 |[a],m,_=>show oD.mp (afF ez doc m1 b6 fI an a) n<|m _ Z
 |[a,b],m,_=>show oD.mp (afG ez doc m1 b6 fI an a b) n<|m _ Z
 |[a,b,c],m,_=>show oD.mp (afH ez doc m1 b6 fI an a b c) n<|m _ Z
 |[a,b,c,d],m,_=>show oD.mp (afI ez doc m1 b6 fI an a b c d) n<|m _ Z
 |[a,b,c,d,e],m,_=>show oD.mp (afJ ez doc m1 b6 fI an a b c d e) n<|m _ Z
 |[a,b,c,d,e,f],m,_=>show oD.mp (afK ez doc m1 b6 fI an a b c d e f) n<|m _ Z
 |a::b::c::d::e::f::g::r,_,l=>show a8 l (by simp only[gi];lia)
end
set_option tactic.hygienic true in
def afN(h:n<151):Def (c7 p) (nm n) (mx n) (st n) (pm n) (cz.f n):=by
 let a:=oi (UD p) h
 let b:=oi (Mj p) h
 cases e:tO (c7 p) (cz.f n)with
 |none=>rw[e]at b;injection b with b;cases b
 |some fd=>
  rw[e]at a b;injection b with cf b
  injection b with cv fo
  unfold tO at e;split at e
  .rename_i c d f q m;cases e;let F:tG (c7 p) (nm n) (mx n) (st n) (cz.f n) fd:=#[#[7,7,7,7,_,iX a,m,iX cf],cv];show#[fd,F,F.binds λez g k l i o r j=>UK ez g k i o l h j]
  .cases e
def afO(h:¬n<151):pl n=pl 3:=by unfold pl;rw[q6,qa<|by show BQ h];rfl
def afP(h:¬n<151):cz.f n=cz.f 3:=by unfold cz;dsimp only;rw[q6,qa<|by show BQ h];rfl
def UL{Q:Nat->Prop}(h:∀n,n<151->Q n)(s:∀n,pl n=pl 3->cz.f n=cz.f 3->Q 3->Q n)(n:Nat):Q n:=
 if z:n<151 then h n z else s n (afO z) (afP z) (h 3 cn)
def wq(e:pl n=pl 3):st n=st 3/\nm n=nm 3/\mx n=mx 3/\pm n=pm 3:=by
 let s:st n=st 3:=by unfold st;rw[e]
 let m:nm n=nm 3:=by unfold nm;rw[s]
 show#[s,m,by unfold mx;rw[e,m],by unfold pm;rw[s]]
def afQ{p:jt}(n:Nat):Def (c7 p) (nm n) (mx n) (st n) (pm n) (cz.f n):=
 UL (λw=>afN) (λn e f q=>by let#[a,b,c,d]:=wq e;rwa[a,b,c,d,f]) n
def UM(h:¬i<36):cz.c i=cz.c 0/\b1 i=b1 0/\jH.getD i []=[]:=by
 unfold cz b1;dsimp only;let h:=BQ h;show#[?_,?_,?_]
 .rw[q6,qa<|by show h];rfl
 .rw[q6,qa<|by show h];rfl
 .rw[q6,qa<|by show h];rfl
def afR(h:¬i<9):cz.x i=cz.x 0:=by unfold cz;dsimp only;rw[q6,qa<|by show BQ h];rfl
section
variable {w:dM}{aL:Str->Option aB}(hm:∀x r,q1 (c7 w.params) k0 x=Y r->aL x=r)
def UN(ak:i<36)(a:f∈("":Str)::jH.getD i []):pN (c7 p) (cz.c i) f:=by let t:=oi (Mk p) ak;simp only[s8]at t;show oD.mp t.2.2.2.2.2.2.2 f a
def afS(i j:Nat):pN (c7 p) (cz.c i) (fd i j):=by
 by_cases ak:i<36
 .show UN ak ?_
  unfold fd
  generalize jH.getD i []=l
  rw[q6]
  cases e:l[j]? with
  |none=>show fD
  |some x=>show e9 _<|mF e
 .let#[a,q,b]:=UM ak;unfold fd;rw[a,b];show UN cn fD
def UO(ak:i<36):ku (c7 p) (cz.c i):=by let t:=oi (Mk p) ak;simp only[s8]at t;show#[t.1,t.2.1,t.2.2.1,t.2.2.2.1]
def tR(i:Nat)(ak:i<36:=by decide):p7 (c7 p) (cz.c i)=O/\nV (c7 p) (.ref<|cz.c i)=O/\q1 (c7 p) k0 (b1 i)=Y (Y<|.ref<|cz.c i):=by let t:=oi (Mk p) ak;simp only[s8]at t;show#[t.2.2.2.2.2.1,t.2.2.2.2.2.2.1,t.2.2.2.2.1]
def A2{p:jt}{n:Nat}(a:n<151):nV (c7 p) (.ref<|cz.f n)=O/\BU (c7 p) (.ref<|cz.f n)=true:=by let t:=oi (Mj p) a;simp only[s8]at t;show t.2
def mk(i n:Nat)(m:(i,n)∈Ml:=by decide)(ak:i<36:=by decide)(a:n<151:=by decide):hk (c7 p) (cz.c i) (cz.f n):=
 #[(tR i ak).1,oD.mp (afv p) _ m,(A2 a).2,(tR i ak).2.1]
def dy(i n:Nat)(m:(i,n)∈Mm:=by decide)(a:n<151:=by decide):c6 (c7 p) (cz.c i) (nm n) (cz.f n):=
 #[oD.mp (afw p) _ m,(A2 a).2,(A2 a).1]
def m0(i:Nat)(m:i∈([10,14,18,19,20,21]:List Nat):=by decide):fJ (c7 p) (.ref<|cz.c i) "__init__"=Y (Y<|.builtin "object.__init__"):=oD.mp (afx p) _ m
def UP(ak:i<9):qF (c7 p) (cz.x i):=by
 let a:=oi (afC p) ak
 let b:=oi (Mo p) ak
 simp only[s8]at b
 cases e:(c7 p).lookup (cz.x i)with
 |none=>rw[e]at b;cases b.1
 |some o=>
  rw[e]at a;injection (iX a)with c d
  show#[7,7,7,7,7,7,7,_,e.trans<|congrArg Y c.symm,d]
include hm in
def fz(i:Nat)(ak:i<9:=by decide):sE (c7 w.params) aL (CR i) (cz.x i) (cz.f<|8+i):=by let t:=oi (Mo w.params) ak;simp only[s8]at t;show#[#[UP ak,t.2.1,t.2.2.1],hm _ _ t.2.2.2.1,t.2.2.2.2.1,t.2.2.2.2.2.1,t.2.2.2.2.2.2.1]
def UQ(ak:i<9):Hn (c7 p) (cz.x 0) (cz.x i):=by let t:=oi (Mo p) ak;simp only[s8]at t;show#[t.2.2.2.2.2.2.2.1,UP ak,t.2.2.2.2.2.2.2.2.1,t.2.2.2.2.2.2.2.2.2.1,t.2.2.2.2.2.2.2.2.2.2,t.2.2.1]
def afT{K:b2}(hm:∀x r,q1 K k0 x=Y r->aL x=r)(e:Mn K x=Y v):∃u,aL x=Y u/\dq v u:=by
 unfold Mn at e
 cases h:q1 K k0 x with
 |none=>cases h▸e
 |some r=>
  rw[h]at e
  cases r with
  |none=>cases e
  |some u=>show#[u,hm _ _ h,Hs e]
include hm in
def sI(i:Nat)(ak:i<z9 sH:=by decide):∃u,aL sH[i].1=Y u/\dq sH[i].2 u:=afT hm<|K9 (afy w.params) i ak
include hm in
def lu(i:Nat)(ak:i<z9 sH:=by decide)(e:sH[i].2=.int c:=by rfl):∃t,aL sH[i].1=Y (.int c t):=by let#[u,a,b]:=sI hm i ak;rw[e]at b;let#[t,rfl]:=b;show#[t,a]
include hm in
def ac(i:Nat)(ak:i<z9 sH:=by decide)(e:sH[i].2=.str c:=by rfl):∃t,aL sH[i].1=Y (.str c t):=by let#[u,a,b]:=sI hm i ak;rw[e]at b;let#[t,rfl]:=b;show#[t,a]
include hm in
def DM(i:Nat)(ak:i<5:=by decide):aL (UF.getD i "")=Y (.ref<|cz.g i):=hm _ _<|oi (afz w.params) ak
include hm in
def tt(n:Nat):(pl n).2=0->yY (c7 w.params) aL (nm n) (cz.f n):=
 UL (Q:=λn=>(pl n).2=0->yY (c7 w.params) aL (nm n) (cz.f n)) (λn a z=>#[hm _ _ (oD.mp (afu w.params) n<|vW.mpr #[nc.mpr a,by rw[z];rfl]),(A2 a).1])
  (λn e f q z=>by rw[(wq e).2.1,f];show q<|e▸z) n
include hm in
def qy(i:Nat):ku (c7 w.params) (cz.c i)/\yY (c7 w.params) aL (b1 i) (cz.c i):=by
 let go:∀{i:Nat},i<36->ku (c7 w.params) (cz.c i)/\yY (c7 w.params) aL (b1 i) (cz.c i):=λ{i} ak=>#[UO ak,hm _ _ (tR i ak).2.2,(tR i ak).2.1];by_cases ak:i<36
 .show go ak
 .let#[a,b,q]:=UM ak;rw[a,b];show go cn
def va(i:Nat)(ak:i<7):u9 (c7 p) (cz.c<|7+i) (cz.c 9) (i==2):=by let t:=oi (tabI p) ak;simp only[s8]at t;show#[UO aV,t.1,t.2.1,t.2.2]
noncomputable def Ms(w:dM)(av:List (Key×V)):Option (aB×Option ao×Array (Option aB)×List (Int×Option V×Option V)):=Y (.type "dict",U,[].toArray,av.map λx=>(F9 w x.1,Y<|ez x.1,Y x.2))
def afU(w:dM):(DL (c7 w.params)<|cz.g 3,DL (c7 w.params)<|cz.g 2,DL (c7 w.params)<|cz.g 4)=(Ms w sG,Ms w<|AZ cz,Ms w<|y0 cz):=by kernel_rfl
def afV(p:jt):(Ht (c7 p)<|cz.g 1,Ht (c7 p)<|cz.g 0)=(Y (.type "tuple",A0.map Y),Y (.type "tuple",A1.map Y)):=by kernel_rfl
include hm in
def afW:Txt (c7 w.params) aL cz:=by let z:=UG w.params;unfold Mp Mq at z;simp only[s8]at z;let#[#[cf,cv,fo],#[d,b,c],a,q]:=z;show#[afQ,tt hm,afS,qy hm,mk 0 0,mk 1 1,mk 2 2,mk 3 17,dy 4 19,dy 4 20,dy 4 21,dy 4 22,dy 4 23,dy 4 24,dy 4 25,dy 4 26,mk 4 18,dy 5 28,dy 5 29,dy 5 30,dy 5 31,mk 5 27,dy 6 43,dy 6 44,dy 6 45,dy 6 46,dy 6 47,dy 6 48,dy 6 49,mk 6 42,dy 7 67,mk 7 66,dy 8 69,mk 8 68,dy 9 71,mk 9 70,dy 10 72,(tR 10).1,m0 10,dy 11 74,mk 11 73,dy 12 76,mk 12 75,dy 13 78,mk 13 77,dy 14 83,(tR 14).1,m0 14,dy 15 85,mk 15 84,dy 16 87,mk 16 86,dy 17 89,mk 17 88,dy 18 91,dy 18 92,(tR 18).1,m0 18,dy 19 91,dy 19 92,dy 19 93,(tR 19).1,m0 19,dy 20 91,dy 20 92,dy 20 94,(tR 20).1,m0 20,dy 21 91,dy 21 92,dy 21 95,(tR 21).1,m0 21,dy 22 91,dy 22 92,dy 22 97,mk 22 96,dy 23 91,dy 23 92,dy 23 99,mk 23 98,dy 24 91,dy 24 92,dy 24 101,mk 24 100,dy 25 91,dy 25 92,dy 25 103,mk 25 102,dy 26 91,dy 26 92,dy 26 105,mk 26 104,dy 27 91,dy 27 92,dy 27 108,mk 27 107,dy 28 91,dy 28 92,dy 28 110,mk 28 109,dy 29 91,dy 29 92,dy 29 112,mk 29 111,dy 30 91,dy 30 92,dy 30 114,mk 30 113,dy 31 91,dy 31 92,dy 31 116,mk 31 115,dy 32 118,mk 32 117,dy 33 118,dy 33 119,dy 33 120,mk 33 117,dy 34 118,dy 34 122,dy 34 123,mk 34 121,mk 35 143,#[cf,cv,fo,(A2 cn).1],fz hm 0,fz hm 1,fz hm 2,fz hm 3,fz hm 4,fz hm 5,fz hm 6,fz hm 7,fz hm 8,#[d,b,c,(A2 cn).1],a,lu hm 0,lu hm 1,lu hm 2,lu hm 3,lu hm 4,lu hm 5,ac hm 6,ac hm 7,ac hm 8,ac hm 9,ac hm 10,ac hm 11,ac hm 12,lu hm 13,lu hm 14,lu hm 15,lu hm 16,lu hm 17,lu hm 18,lu hm 19,lu hm 20,lu hm 21,lu hm 22,lu hm 23,lu hm 24,lu hm 25,lu hm 26,lu hm 27,DM hm 0,DM hm 1,DM hm 2,DM hm 3,DM hm 4,λx e=>hm _ _<|oD.mp (afA w.params) x e]
include hm in
def UR{P:eZ}{base:df}:tN #[P,w,c7 w.params,aL,base,cz]:=by
 let z:=UG w.params;let k:=afU w;let s:=afV w.params;simp only[s8]at z k s;let a:((AZ cz).map (·.1)).Nodup:=by decide +kernel
 let b:((y0 cz).map (·.1)).Nodup:=by decide +kernel
 show#[afW hm,Mr Z eH k.1,Mr Z a k.2.1,Mr Z b k.2.2,UI eH s.1,UI eH s.2,
  #[z.2.2.2.1,z.2.2.2.2,va 0 cn,va 1 cn,va 2 cn,va 3 cn,va 4 cn,va 5 cn,va 6 cn],λi=>if h:i<9 then UQ h else (by rw[afR h];show UQ cn)]
end
def US:∃b,tN b:=#[#[xU,#[λq q=>0,{strHash:=λq=>0,shareClass:=λq=>0,mergeTok:=id,idOf:=λq=>0,idOfShared:=λq q=>0,followText:=λq=>J,idOfImm:=λq=>0}],c7 _,λx=>(q1 (c7 _) k0 x).getD U,#[[].toArray,{}],cz],UR λx r e=>by rw[e];rfl]
end Hd
section
variable {P:eZ}{w:dM}{b8:ao->Prop}{K:b2}{aL:Str->Option aB}
def kR.up(h:kR P w b8 K aL base j f ps sp)(le:j<=k:=by lia):kR P w b8 K aL base k f ps sp:=let ⟨fd,F,b⟩:=h;#[fd,F.cI le,b]
def kR.hK(h:kR P w b8 K aL base k f ps sp)(q:∀ac H Q E,GC ac H Q E->sp ac H Q E):kR P w b8 K aL base k f ps GC:=let ⟨fd,F,b⟩:=h;#[fd,F.imp q,b]
def Def.i5{st:Stmt}{N:List Str}(d:Def K x qual st ps f)(S:rq N ps (hY st))(len:∀ac H Q E,sp ac H Q E->z9 ac=z9 ps)
  (ae:∀(a:aB) (A:e0) (bc:List Env) (s:bl) (H:aw) (ac:List V) (Q:ck) (E:dG),e5 k (A.deeper<|oE qual (hY st) s.heap.objs.size f a)->sp ac H Q E->
   ∃t,lh (hx (eV P w b8) P w K aL base N qual (hY st) f a A bc s H E) (rx st) t/\t {cM:=λq c=>Q .bB c,n9:=Q} (start N ac) H):kR P w b8 K aL base (k+1) f ps sp:=by
 let#[fd,F,b]:=d
 show#[fd,tG.TJ F S len ae,b]
def dk(h:kR X.prog X.w b8 X.K X.aL X.base k a ps sp)(b:e5 k X.A)(q:sp ac H Q E):Calls X (eV X.prog X.w b8) E a ac H Q:=.fn #[h] b q
def nH(h:∃t,X.aL x=Y (.int n t))(q:Q (.int n) H):sC X x σ H Q:=let ⟨t,e⟩:=h;#[.int n,_,e,#[t,Z],q]
def oj(h:∃t,X.aL x=Y (.str y t))(q:Q (.str y) H):sC X x σ H Q:=let ⟨t,e⟩:=h;#[.str y,_,e,#[t,Z],q]
def UT(h:X.aL x=Y (.ref a))(q:Q (.ref a) H):sC X x σ H Q:=#[.ref a,_,h,Z,q]
def cm{X:b9}{c9:jl}{E:dG}{t:j2}{σ:L2.St}{Q:ck}{H:aw}{x:Str}{f:ao}(g:yY X.K X.aL x f)(q:t σ H λac a=>Calls X c9 E f ac a Q):LL X x (λx H1=>LI X c9 E t σ Q x H1) H:=#[.ref f,_,g.aL,Z,f,Z,g.dX,q]
def kS(C:ao)(a:List Str):j4:=λac H Q q=>∃x dx as,ac=.ref x::as/\z9 as=z9 a/\H x=Y (.b7 C dx [])/\Q .bB (aE H x<|.b7 C dx<|a.zip as)
def dJ(H:aw)(x dx C:ao)(bb:List (Str×V)):aw:=aE (aE H dx<|.own x) x<|.b7 C dx bb
def hz:dJ H x dx C bb x=Y (.b7 C dx bb):=bj
def gV(h:H b=Y o)(c:H x=U)(a:H dx=U):dJ H x dx C bb b=Y o:=by unfold dJ;rwa[aK<|cx h c,aK<|cx h a]
def kT(M:hk X.K C f)(h:kR X.prog X.w b8 X.K X.aL X.base k f ps (kS C names))(d:e5 (k+1) X.A)(b:z9 ac=z9 names)
  (q:∀x dx,H x=U->H dx=U->dx≠x->Q (.ref x) (dJ H x dx C<|names.zip ac)):Calls X (eV X.prog X.w b8) E C ac H Q:=
 .rA M #[h] d λx dx e a c=>#[x,dx,ac,Z,b,bj,Z,by rw[io];show q x dx e a c]
def vb(h1:p7 X.K C=O)(b:fJ X.K (.ref C) "__init__"=Y (Y<|.builtin "object.__init__"))(a:e5 1 X.A)
  (q:∀x dx,H x=U->H dx=U->dx≠x->Q (.ref x) (dJ H x dx C [])):Calls X c9 E C [] H Q:=.Tw h1 b a Z q
def bh.hW:bh M H H:=λq q h q=>h
def bh.bw(a:bh M H H1)(b:bh M H1 ay):bh M H ay:=λc o h n=>b c o (a c o h n) n
def bh.cI(a:bh M H H1)(h:∀b∈M,b∈N):bh N H H1:=λc o q n=>a c o q λz=>n<|h c z
def bh.g6(h:H p=U):bh M H (aE H p o):=λb u q w=>by rwa[aK<|cx q h]
def bh.dJ(c:H x=U)(a:H dx=U):bh M H (dJ H x dx C bb):=λb u q w=>gV q c a
def bh.nI(h:p∈M):bh M H (aE H p o):=λb u q n=>by rwa[aK λz=>n (by rw[z];show h)]
end
def B:Mh:=Fl (h:=Hd.US.elim λb q=>#[b]) λb=>tN b/\(xa b->∀a,tN a->xa a)
def UU:tN B/\(xa B->∀a,tN a->xa a):=JF (p:=λb=>tN b/\(xa b->∀a,tN a->xa a)) (by
 let#[b,h]:=Hd.US;by_cases z:∃a,tN a/\¬xa a
 .let#[a,d,e]:=z;show#[a,d,λg=>a8 g e]
 .show#[b,h,λq a c=>JE λn=>z #[a,c,n]])
def pG:tN B:=UU.1
def P:eZ:=B.P
def w:dM:=B.w
def K:b2:=B.K
def aL:Str->Option aB:=B.aL
def fC:df:=B.fC
def D:ej:=B.D
def b8(C:ao):Prop:=∃i,C=D.x i
def T:Txt K aL D:=pG.T
noncomputable abbrev kU:=hx (eV P w b8) P w K aL fC
abbrev bX(k n:Nat)(sp:j4):Prop:=kR P w b8 K aL fC k (D.f n) (pm n) sp
def aI:ku K (D.c i):=(T.c i).1
def ek{k:Nat}{sp:j4}(n:Nat)(N:List Str)
  (ae:∀(a:aB) (A:e0) (bc:List Env) (s:bl) (H:aw) (ac:List V) (Q:ck) (E:dG),N.Nodup->e5 k (A.deeper<|oE (mx n) (hY<|st n) s.heap.objs.size (D.f n) a)->sp ac H Q E->
   ∃t,lh (kU N (mx n) (hY<|st n) (D.f n) a A bc s H E) (rx<|st n) t/\t {cM:=λq b=>Q .bB b,n9:=Q} (start N ac) H)
  (len:∀ac H Q E,sp ac H Q E->z9 ac=(pm n).length:=by intro ac H Q E h;repeat first|(cases h;subst_vars;rfl)|let#[q,h]:=h) (S:rq N (pm n) (hY<|st n):=by decide +kernel):bX (k+1) n sp:=
 (T.d n).i5 S len λa A bc s H ac Q E=>ae a A bc s H ac Q E S.aG
structure dC where
 ac:List V
 pr:aw->ck->dG->Prop
noncomputable def dZ(ac:List V)(a:aw->ck->dG->Prop):dC:=#[ac,a]
structure gQ(N:List Str)(α:Type) where
 b6:aB
 A:e0
 bc:List Env
 s:bl
 H:aw
 Q:ck
 E:dG
 x:α
def gQ.a(c:gQ N (α×z)):=c.x.1
def gQ.i(c:gQ N (α×z)):=c.x.2
def gQ.b(c:gQ N (α×β×z)):=c.x.2.1
def gQ.j(c:gQ N (α×β×z)):=c.x.2.2
def gQ.k(c:gQ N (α×β×p×z)):=c.x.2.2.2
def gQ.c(c:gQ N (α×β×p×z)):=c.x.2.2.1
def gQ.l(c:gQ N (α×β×p×q×z)):=c.x.2.2.2.2
def gQ.d(c:gQ N (α×β×p×q×z)):=c.x.2.2.2.1
def gQ.m(c:gQ N (α×β×p×q×r×z)):=c.x.2.2.2.2.2
def gQ.e(c:gQ N (α×β×p×q×r×z)):=c.x.2.2.2.2.1
def gQ.n(c:gQ N (α×β×p×q×r×u×z)):=c.x.2.2.2.2.2.2
def gQ.f(c:gQ N (α×β×p×q×r×u×z)):=c.x.2.2.2.2.2.1
def gQ.g(c:gQ N (α×β×p×q×r×u×v×z)):=c.x.2.2.2.2.2.2.1
def gQ.o(c:gQ N (α×β×p×q×r×u×v×z)):=c.x.2.2.2.2.2.2.2
def gQ.h(c:gQ N (α×β×p×q×r×u×v×y×z)):=c.x.2.2.2.2.2.2.2.1
def rC{α:Type}{N:List Str}(n:Nat)(l:gQ N α):b9:=kU N (mx n) (hY<|st n) (D.f n) l.b6 l.A l.bc l.s l.H l.E
section
variable {α:Type}{d:α->Nat}{c:α->dC}{N:List Str}
def Hu(n k:Nat)(c:α->dC)(l:gQ N α):Prop:=e5 k (l.A.deeper<|oE (mx n) (hY<|st n) l.s.heap.objs.size (D.f n) l.b6)->(c l.x).pr l.H l.Q l.E->
 ∃t,lh (rC n l) (rx<|st n) t/\t {cM:=λq a=>l.Q .bB a,n9:=l.Q} (start N (c l.x).ac) l.H
instance:Nonempty aB:=#[.none]
instance:Nonempty e0:=#[qX]
instance:Nonempty bl:=#[{}]
instance [Nonempty α]:Nonempty (gQ N α):=#[#[Fm inferInstance,Fm inferInstance,[],Fm inferInstance,λq=>U,λq q=>True,λq q q=>True,Fm inferInstance]]
def LE(_:Nat)(N:List Str)(_:α->Nat)(_:α->dC):Type:=gQ N α
def dR[Nonempty α](n:Nat)(N:List Str)(d:α->Nat)(c:α->dC):LE n N d c:=Fl (α:=gQ N α) λl=>¬Hu n (d l.x) c l
def sJ(n:Nat)(N:List Str)(d:α->Nat)(c:α->dC):Prop:=rq N (pm n) (hY<|st n)/\(∀x,(c x).ac.length=(pm n).length)/\∀l:gQ N α,Hu n (d l.x) c l
def ee[Nonempty α](C:LE n N d c)(x:α)(H:aw)(Q:ck)(E:dG)
  (ae:N.Nodup->e5 (d x) (C.A.deeper<|oE (mx n) (hY<|st n) C.s.heap.objs.size (D.f n) C.b6)->(c x).pr H Q E->∃t,lh (rC n C) (rx<|st n) t/\t {cM:=λw k=>Q .bB k,n9:=Q} (start N (c x).ac) H)
  (z:C=dR n N d c/\C=#[C.b6,C.A,C.bc,C.s,H,Q,E,x]/\rq N (pm n) (hY<|st n)/\∀x,(c x).ac.length=(pm n).length:=by show#[Z,Z,eH,by intros;rfl]):sJ n N d c:=
 #[z.2.2.1,z.2.2.2,λl=>JE λy=>by
  let#[a,h,S,w]:=z;let b:¬Hu n (d C.x) c C:=by rw[a];show JF (p:=λl:gQ N α=>¬Hu n (d l.x) c l) #[l,y]
  show b ?_;clear a b;cases C with|mk b6 A bc s q g r o=>
  injection h with _ _ _ _ i e j m
  subst i e j m;show ae S.aG]
theorem sJ.i5(h:sJ n N d c)(i:∀ac H Q E,sp ac H Q E->∃x,d x=k/\ac=(c x).ac/\(c x).pr H Q E):bX (k+1) n sp:=by
 let#[S,len,all]:=h;show(T.d n).i5 S (λac H Q E h=>?_) λa A bc s H ac Q E b h=>?_
 .let#[x,w,e,w]:=i _ _ _ _ h;rw[e];show len x
 .let#[x,rfl,e,q]:=i _ _ _ _ h;rw[e];show all #[a,A,bc,s,H,Q,E,x] b q
inductive UV(c:α->dC)(ac:List V)(H:aw)(Q:ck)(E:dG):Prop
 |mk (x) (_:ac=(c x).ac) (_:(c x).pr H Q E):UV c ac H Q E
def fj[Nonempty α](C:LE n N (λw=>k) c)(x:α)(H:aw)(Q:ck)(E:dG)
  (ae:N.Nodup->e5 k (C.A.deeper<|oE (mx n) (hY<|st n) C.s.heap.objs.size (D.f n) C.b6)->(c x).pr H Q E->∃t,lh (rC n C) (rx<|st n) t/\t {cM:=λw a=>Q .bB a,n9:=Q} (start N (c x).ac) H)
  (z:C=dR n N (λw=>k) c/\C=#[C.b6,C.A,C.bc,C.s,H,Q,E,x]/\rq N (pm n) (hY<|st n)/\∀x,(c x).ac.length=(pm n).length:=by show#[Z,Z,eH,by intros;rfl]):bX (k+1) n (UV c):=
 (ee C x H Q E ae z).i5 λ_ _ _ _ #[x,e,q]=>#[x,Z,e,q]
end
instance:Nonempty V:=#[.bB]
instance:Nonempty kg:=#[#[λq q=>U,λq=>[],λq=>[]]]
instance:Nonempty vO:=#[#[[],0,[],[],[],[],0]]
instance:Nonempty (Except Sn24.Bad α):=#[.error .name]
instance:Nonempty ba:=#[.n0]
instance:Nonempty cJ:=#[.d3]
instance:Nonempty ja:=#[.gx 0]
instance:Nonempty kI:=#[#[[],[],.d3]]
instance:Nonempty gW:=#[.skip]
instance:Nonempty h3:=#[#[[],[],.skip]]
theorem UW:∀{bb:List (Str×V)},(∀p∈bb,p.1≠f)->lN f v bb=bb++[(f,v)]
 |[],_=>rfl
 |(g,x)::r,h=>by unfold lN;rw[aM<|h _ fD,UW λp aC=>h p<|e9 _ aC];rfl
def Mt(K:b2):Nat->List Str->hu
 |_,[]=>Kq
 |i,[x]=>GA K (hM 0) (hM i) x
 |i,x::r=>Gk (GA K (hM 0) (hM i) x)<|Mt K (i+1) r
def afX{C a dx:ao}(c:ku K C){D:nt}{σ:L2.St}(d:σ[0]?=Y (Y<|.ref a)):∀(xs:List Str) (as:List V) {i:Nat}{bb:List (Str×V)}{H:aw},xs≠[]->z9 as=z9 xs->(∀x∈xs,pN K C x)->xs.Nodup->(∀x∈xs,∀p∈bb,p.1≠x)->
  z9 bb+z9 xs<1000->(∀j v,as[j]?=Y v->σ[i+j]?=Y (Y v))->H a=Y (.b7 C dx bb)->D.cM σ (aE H a<|.b7 C dx<|bb++xs.zip as)->Mt K i xs D σ H:=by
 intro xs
 induction xs with
 |nil=>intro t t t t n;show a8 Z n
 |cons x r h=>
  intro as i bb H t z n f ds l g e q
  cases as with
  |nil=>cases z
  |cons v as=>
  let p:=UW (v:=v)<|ds x fD
  cases r with
  |nil=>
   cases as with
   |cons=>cases z
   |nil=>show#[v,g 0 v Z,_,d,a,C,dx,bb,Z,e,c,n x fD,OD l,by rwa[p]]
  |cons y r=>
   cases as with
   |nil=>cases z
   |cons u as=>
    show#[v,g 0 v Z,_,d,a,C,dx,bb,Z,e,c,n x fD,by simp at l;lia,?_];rw[p];show h (u::as) (λz=>by cases z) (P2 z) (λb ae=>n b<|e9 _ ae) (l2.mp f).2 (λb ae p aC=>?_) (by simp at l ⊢;lia) (λj w k=>?_) bj (by rwa[io,m9])
    .obtain aC|aC:=iV.mp aC
     .show ds b (e9 _ ae) p aC
     .rw[gX.mp aC];show λz:x=b=>(l2.mp f).1<|z▸ae
    .rw[show i+1+j=i+(j+1)by lia];show g (j+1) w k
def lS(e:jH.getD i []=xs:=by rfl)(o:xs.Nodup:=by decide)(l:xs≠[]:=by decide)(le:z9 xs<1000:=by decide)(pl:(pm n).length=z9 xs+1:=by rfl)(S:rq ("self"::xs) (pm n) (hY<|st n):=by decide +kernel)
  (d:∀(b:aB) (A:e0) (bc:List Env) (s:bl) (H:aw) (E:dG),lh (kU ("self"::xs) (mx n) (hY<|st n) (D.f n) b A bc s H E) (rx<|st n) (Mt K 1 xs):=by intros;repeat first|show aP (KR (aa 0) (aa _) Z)|show aU (KR (aa 0) (aa _) Z) ?_):
  bX 1 n (kS (D.c i) xs):=by
 show ek n ("self"::xs) (λb A bc s H ac Q E m r h=>?_) (λac H Q E h=>by let#[x,dx,as,rfl,a,w]:=h;rw[pl];show congrArg (·+1) a) S
 .let#[x,dx,as,rfl,a,p,q]:=h;show#[_,d _ _ _ _ _ _,afX aI Z xs as l a (λy k=>?_) o (λw w w aC=>by cases aC) (by simpa using le) (λj v g=>?_) p q]
  .subst e
   let#[j,lt,rfl]:=O5 k
   have:=T.n i j
   unfold fd at this
   rwa [q6,pq lt]at this
  .show(L2.start _ _)[1+j]?=_;unfold L2.start;rw[vQ (by simp;have:=(jP.mp g).1;lia),r4,EO,List.getElem?_cons_succ,g];rfl
def UX:bX 1 66 (kS (D.c 7) ["number"]):=lS
def afY:bX 1 68 (kS (D.c 8) ["slot"]):=lS
def afZ:bX 1 70 (kS (D.c 9) ["slot"]):=lS
def af0:bX 1 73 (kS (D.c 11) ["inner"]):=lS
def af1:bX 1 75 (kS (D.c 12) ["inner"]):=lS
def af2:bX 1 77 (kS (D.c 13) ["first","links"]):=lS
def af3:bX 1 84 (kS (D.c 15) ["part","rest"]):=lS
def af4:bX 1 86 (kS (D.c 16) ["slot"]):=lS
def af5:bX 1 88 (kS (D.c 17) ["slot"]):=lS
def af6:bX 1 96 (kS (D.c 22) ["cell","expression"]):=lS
def af7:bX 1 98 (kS (D.c 23) ["channel","expression"]):=lS
def af8:bX 1 100 (kS (D.c 24) ["channel","cell"]):=lS
def af9:bX 1 102 (kS (D.c 25) ["expression"]):=lS
def aga:bX 1 104 (kS (D.c 26) ["name","arguments"]):=lS
def UY:bX 1 107 (kS (D.c 27) ["condition","chosen","otherwise"]):=lS
def agb:bX 1 109 (kS (D.c 28) ["condition","repeated"]):=lS
def agc:bX 1 111 (kS (D.c 29) ["listed"]):=lS
def agd:bX 1 113 (kS (D.c 30) ["statements"]):=lS
def age:bX 1 115 (kS (D.c 31) ["branches"]):=lS
def agf:bX 1 143 (kS (D.c 35) ["parameters","body"]):=lS
inductive UZ(X:b9)(Q:ck)(x y:V)(ay:aw):Prop
 |mk (a) (av) (k) (v) (_:x=.ref a) (_:tM X.prog X.w X.K a av) (_:y=ez k) (_:ec av k=Y v) (_:Q v ay):UZ X Q x y ay
def agg(X:b9)(d c:TE):TE:=λa H Q=>d a H λx H1=>c a H1 λy b=>UZ X Q x y b
def Mu(C:bS X o fi)(ak:bS X i ty)(ai:GL i):bS X (.Subscript o i pos) (agg X fi ty):=by intro f s g H Q I h;show SO Py.lookup ai<|ct (C f s g H _ I h) λu t #[x,H1,A,n,p]=>ct (ak f t g H1 _ A p) λF D W=>?_;let#[y,w,c,q,a,av,k,v,j,d,z,l,m]:=W;subst j z;obtain rfl:u=e3 a:=n;let#[ac,b,e]:=d.nG _ c.fS;let#[E,r,B]:=la.Ay (v:=v) (o:=xN ac k) (by rw[<-l];show b.val k);show#[e.typeIs,wpAny_getItem_of (rt q) e.mapOf r #[v,w,c.tok _,B,m]]
def agh(X:b9)(d e:TE):TE:=λb H Q=>d b H λy H1=>e b H1 λx c=>∃a av k,x=.ref a/\tM X.prog X.w X.K a av/\y=ez k/\Q (.cC<|!(ec av k).isSome) c
def agi(ak:bS X i ty)(w:bS X o fi):Gh X .NotIn i o (agh X ty fi):=by intro e s f H Q I h;show ct (ak e s f H _ I h) λA m #[y,H1,v,t,q]=>ct (w e m f H1 _ v q) λu z W=>?_;let#[x,n,c,p,a,av,k,g,d,r,j]:=W;subst g r;obtain rfl:u=e3 a:=p;let#[ac,b,l]:=d.nG _ c.fS;show wpAny_notIn_of (rt t) d.ns l.mapOf ?_;rw[<- (b.val k).yM];show#[.cC<|!(ec av k).isSome,n,c.tok _,Z,j]
def agj(X:b9)(f e dp:TE):TE:=λb H Q=>f b H λx H1=>∃a av,x=.ref a/\tM X.prog X.w X.K a av/\e b H1 λy c=>dp b c λz d=>∃k,y=ez k/\Q ((ec av k).getD z) d
def agk(V:bS X o fi)(S:bS X e ty)(K:bS X f dp)(m:M2 X o "get" gH e f iq):bS X (.Call (.Attribute o "get" gH) [e,f] [] iq) (agj X fi ty dp):=by
 intro i s j H Q I h;show Ix m.base m.GN m.line JA Ce PF<|ct (V i s j H _ I h) λu M h0=>?_;let#[x,H1,n,v,a,av,p,d,B]:=h0;subst p;obtain rfl:u=e3 a:=v;let#[ac,g,c]:=d.nG _ n.fS;show#[c.typeIs,λb q=>?_,?_]
 .cases q;let#[ob,_,_,E,A,_]:=c;show#[ob,E,A.2.1]
 rw[m.trees];show zU Z (Cb (xV (ct (S i M j H1 _ n B) λW D #[y,N,t,C,r]=>
  xV (ct (K i D j N _ t r) λT s3 #[z,P,l,G,k,R,L]=>zV ?_))))
 subst R;let#[ac,g,c]:=d.nG _ l.fS;show BK Ce c.typeIs JB (PySem.F.args_dict_get_3 _ _ _) (meets_dict_get_default (jF X.prog X.w) a (rt C) d.ns T) #[_,c.mapOf,#[_,P,l.tok _,(g.val k).getD G,L]]
def agl:ib X (xM .FloorDiv) (Gs (λw j=>j≠0/\j.natAbs<2 ^ 64) λi j=>.int<|i.fdiv j):=KC λi j w w w w w a q=>
 floordiv_int a.1 q (.inl<|PyProof.noPylong_of_log2<|eR ((Nat.log2_lt λz=>a.1<|Int.natAbs_eq_zero.mp z).mpr a.2) cn)
def agm:rp X (.builtin "isinstance") (λxs H Q=>∃x c t b,xs=[x,.ref c]/\qv X.K H x t/\ET X.K t (.ref c)=Y b/\Q (.cC b) H):=by
 intro g s i H ac j Q I r h
 let#[x,c,t,b,rfl,d,k,q]:=h
 cases r with
 |cons e a=>
  cases a with
  |cons f a=>cases a;cases f;show Z8 I e d k λa3=>#[.cC b,H,I.tok _,Z,q]
def agn:oA "isinstance"=Y (.builtin "isinstance"):=by decide +kernel
section
variable {X:b9}{c9:jl}{E:dG}{x f:Str}{a b c d e o value iter fe:Expr}{es body:List Expr}{p pos kq gH iq:Pos}{op:CmpOp}{r:dB}
def dr(i:Nat)(b:X.N.Nodup)(c:bS X e eF)(ak:X.N[i]?=Y x:=by rfl)(d:Loc X.env.scope x:=by show .inl Z)(ai:rU e (Y<|.Name x kq) pos.line X.env=pure false:=by rfl)(a:X.fn x=O\/X.env.scope.names.lookup x=Y .local:=by first|show .inl Z|show .inr Z):kp X (.Assign [.Name x kq] e pos) (Gn eF<|sl i):=Zv b ak d c ai a
def o6(i:Nat)(b:X.N.Nodup)(ak:X.N[i]?=Y x:=by rfl)(c:Loc X.env.scope x:=by show .inl Z)(a:X.fn x=O\/X.env.scope.names.lookup x=Y .local:=by first|show .inl Z|show .inr Z):wC X (.Name x pos) (sl i):=C3 b ak c a
def bV(a:bS X e dc)(ae:ug e f X.env (eval e X.env)=eval e X.env:=by rfl):bS X (.Attribute e f pos) (RW X.K dc f):=Z3 a ae
def fY(b:bS X o dc)(a:bS X value dd)(ai:rU value (Y<|.Attribute o f kq) pos.line X.env=pure false:=by rfl):kp X (.Assign [.Attribute o f kq] value pos) (GA X.K dc dd f):=KR b a ai
def iz(e:bS X a dc)(d:∀b,xO a X.env b=(do let v <-b;vF a.pos;vG [v] (truthy v)):=by intro q;rfl):lg X a (λσ H Q=>dc σ H λx c=>∃k,wL X.K x c k/\Q k c):=RL e d
def d9(c:ib X (lY op) r)(d:bS X a dc)(ae:bS X b dv)(hm:vC op b=false:=by first|show Aw _|rfl):lg X (.Compare a [op] [b] pos) (Gx<|Av r dc dv):=ZP c d ae hm
def ea(b:pJ X x:=by rfl)(a:(x==("__debug__":Str))=false:=by decide):bS X (.Name x p) (sC X x):=LM b a
def iA(c:bS X a dc)(ae:bS X b dv)(ai:Sd b:=by intro q q;rfl):=aan (pos:=pos) (X:=X) aar c ae ai
def sK(b:X.A.units+1<nT)(c:bS X o fi)(ak:bS X a dc)(ai:GL a:=by intro q q;rfl):bS X (.Subscript o a pos) (SQ fi dc):=aa7 b c ak ai
def qN(b:X.A.units+1<nT)(d:bS X o fi)(ak:bS X a dc)(c:bS X value dd)(ai:rU value (Y<|.Subscript o a kq) pos.line X.env=pure false:=by rfl):kp X (.Assign [.Subscript o a kq] value pos) (SV fi dc dd):=aa8 b d ak c ai
def cP(g:nz c9 X E)(d:mf X (e::es) t)(b:pJ X x:=by rfl)(a:(x==("__debug__":Str))=false:=by decide)(ai:eN (e::es) X.env=(J,eval e X.env)::eN es X.env:=by rfl)(f:(jN pos<|eN es X.env).any (·.1)=false:=by rfl)
  (c:eval (.Call (.Name x p) (e::es) [] pos) X.env=(do vE pos (<-eval (.Name x p) X.env) [] (jN pos<|eN (e::es) X.env) (rV pos<|rT [] X.env)):=by rfl):bS X (.Call (.Name x p) (e::es) [] pos) (yU X c9 E (sC X x) t):=LJ g (LM b a) d ai f c
def bo(b:bS X a dc)(h1:eN [a] X.env=(J,eval a X.env)::eN [] X.env:=by rfl):mf X [a] (lk dc kP):=fX b nx h1
def cH(d:bS X a dc)(ae:bS X b dv)(h1:eN [a,b] X.env=(J,eval a X.env)::eN [b] X.env:=by rfl)(c:eN [b] X.env=(J,eval b X.env)::eN [] X.env:=by rfl):mf X [a,b] (lk dc<|lk dv kP):=fX d (fX ae nx c) h1
end
def cf:IJ "list":=Cd
def cv:Slot "list" "append" "list.append":=PG
def fo:zE (.builtin "list.append")=pure (.type "method_descriptor"):=PySem.F.type_list_append
def lr:aL "len"=none:=T.lJ _ bg
def Mv:aL "ord"=none:=T.lJ _ bg
def Mw:aL "tuple"=none:=T.lJ _ bg
structure tS(P:eZ)(w:dM)(b8:ao->Prop)(K:b2)(aL:Str->Option aB)(base:df)(x:Str)(C g:ao)(n:Int):Prop where
 t:sE K aL x C g
 rc:b8 C
 h:kR P w b8 K aL base 2 g ["self"] (tK C n)
def tS.iB(h:tS P w b8 K aL fC x C g n)
  {vc:nt}{σ:L2.St}{H:aw}(a:e5 3 (kU N qual scope f cd A bc eb gS E).A) (q:gd E n):TD (kU N qual scope f cd A bc eb gS E) (eV P w b8) b8 E x vc σ H:=
 #[C,g,2,n,h.t.aL,h.rc,h.t.lq,h.t.dX,h.t.ak,h.t.ty,#[h.h],a,q H]
def ago(K:b2):j4:=λac H Q q=>∃a C n,ac=[.ref a,.int n]/\G3 K C/\H a=Y (qJ a C U)/\∀b,H b=U->Q .bB (aE (aE H b<|.yp [("number",.int n)]) a<|qJ a C<|Y b)
def agp:oA "Exception"=Y (.type "Exception"):=by decide +kernel
def xc:bX 1 8 (ago K):=by show ek 8 ["self","number"] λg A bc s H ac Q E f i h=>?_;let#[a,C,n,rfl,b,c,q]:=h;show#[_,aU (cU<|acg Z (T.lJ _ bg) agp T.ex<|fX (aa 0) nx)<|aP<|aci (aa 0) (aa 1) Z,#[9,a,C,Z,c,b.G4,9,9,a,C,Z,c,b,λe d=>q e d]]
def agq:bX 2 9 (tK (D.x 1)<|-2):=by show ek 9 ["self"] λe A bc s H ac Q E d b h=>?_;let#[a,rfl,c,q]:=h;show#[_,aP<|cU<|u4 aQ Z<|cH (aa 0)<|tw tx cE,#[7,.type "type",T.u7.aL,T.hP.bG,T.hP.sp,T.hP.u6,T.hP.dX,9,9,dk (xc) b #[a,D.x 1,9,T.Uo.lq,c,q]]]
def Mx:tS P w b8 K aL fC "OutOfRange" (D.x 1) (D.f 9) (-2):=#[T.Uo,#[9],agq]
def agr:bX 2 10 (tK (D.x 2)<|-3):=by show ek 10 ["self"] λe A bc s H ac Q E d b h=>?_;let#[a,rfl,c,q]:=h;show#[_,aP<|cU<|u4 aQ Z<|cH (aa 0)<|tw tx cE,#[7,.type "type",T.u7.aL,T.hP.bG,T.hP.sp,T.hP.u6,T.hP.dX,9,9,dk (xc) b #[a,D.x 2,9,T.Up.lq,c,q]]]
def vd:tS P w b8 K aL fC "NoProgram" (D.x 2) (D.f 10) (-3):=#[T.Up,#[9],agr]
def ags:bX 2 11 (tK (D.x 3)<|-11):=by show ek 11 ["self"] λe A bc s H ac Q E d b h=>?_;let#[a,rfl,c,q]:=h;show#[_,aP<|cU<|u4 aQ Z<|cH (aa 0)<|tw tx cE,#[7,.type "type",T.u7.aL,T.hP.bG,T.hP.sp,T.hP.u6,T.hP.dX,9,9,dk (xc) b #[a,D.x 3,9,T.Uq.lq,c,q]]]
def xd:tS P w b8 K aL fC "WrongName" (D.x 3) (D.f 11) (-11):=#[T.Uq,#[9],ags]
def agt:bX 2 12 (tK (D.x 4)<|-12):=by show ek 12 ["self"] λe A bc s H ac Q E d b h=>?_;let#[a,rfl,c,q]:=h;show#[_,aP<|cU<|u4 aQ Z<|cH (aa 0)<|tw tx cE,#[7,.type "type",T.u7.aL,T.hP.bG,T.hP.sp,T.hP.u6,T.hP.dX,9,9,dk (xc) b #[a,D.x 4,9,T.Ur.lq,c,q]]]
def agu:tS P w b8 K aL fC "DividedByZero" (D.x 4) (D.f 12) (-12):=#[T.Ur,#[9],agt]
def agv:bX 2 13 (tK (D.x 5)<|-13):=by show ek 13 ["self"] λe A bc s H ac Q E d b h=>?_;let#[a,rfl,c,q]:=h;show#[_,aP<|cU<|u4 aQ Z<|cH (aa 0)<|tw tx cE,#[7,.type "type",T.u7.aL,T.hP.bG,T.hP.sp,T.hP.u6,T.hP.dX,9,9,dk (xc) b #[a,D.x 5,9,T.Us.lq,c,q]]]
def DN:tS P w b8 K aL fC "TooMany" (D.x 5) (D.f 13) (-13):=#[T.Us,#[9],agv]
def agw:bX 2 14 (tK (D.x 6)<|-5):=by show ek 14 ["self"] λe A bc s H ac Q E d b h=>?_;let#[a,rfl,c,q]:=h;show#[_,aP<|cU<|u4 aQ Z<|cH (aa 0)<|tw tx cE,#[7,.type "type",T.u7.aL,T.hP.bG,T.hP.sp,T.hP.u6,T.hP.dX,9,9,dk (xc) b #[a,D.x 6,9,T.Ut.lq,c,q]]]
def agx:tS P w b8 K aL fC "NoStepLeft" (D.x 6) (D.f 14) (-5):=#[T.Ut,#[9],agw]
def agy:bX 2 15 (tK (D.x 7)<|-6):=by show ek 15 ["self"] λe A bc s H ac Q E d b h=>?_;let#[a,rfl,c,q]:=h;show#[_,aP<|cU<|u4 aQ Z<|cH (aa 0)<|tw tx cE,#[7,.type "type",T.u7.aL,T.hP.bG,T.hP.sp,T.hP.u6,T.hP.dX,9,9,dk (xc) b #[a,D.x 7,9,T.Uu.lq,c,q]]]
def agz:tS P w b8 K aL fC "NotAllOver" (D.x 7) (D.f 15) (-6):=#[T.Uu,#[9],agy]
def agA:bX 2 16 (tK (D.x 8)<|-1):=by show ek 16 ["self"] λe A bc s H ac Q E d b h=>?_;let#[a,rfl,c,q]:=h;show#[_,aP<|cU<|u4 aQ Z<|cH (aa 0)<|tw tx cE,#[7,.type "type",T.u7.aL,T.hP.bG,T.hP.sp,T.hP.u6,T.hP.dX,9,9,dk (xc) b #[a,D.x 8,9,T.Uv.lq,c,q]]]
def agB:tS P w b8 K aL fC "TooLong" (D.x 8) (D.f 16) (-1):=#[T.Uv,#[9],agA]
abbrev Tk:=Sn24.Tok
noncomputable def kV(s:br):Str:=if s=ascii "%" then "remainder of" else cZ s
noncomputable def xe:Option Tk->Str
 |none=>"end"
 |some (.num _)=>"number"
 |some (.name w)=>if Sn24.kept.contains w=O then "fixed" else "name"
 |some (.sign _)=>"fixed"
def xf:Option Tk->V
 |none=>.str ""
 |some (.num n)=>.int n
 |some (.name w)=>.str<|cZ w
 |some (.sign s)=>.str<|kV s
def j6:Option Tk->Str
 |some (.name w)=>if Sn24.kept.contains w=O then cZ w else ""
 |some (.sign s)=>kV s
 |_=>""
def ve:Option Tk->Bool
 |some (.name w)=>!Sn24.kept.contains w
 |_=>J
def U0:Option Tk->Bool
 |some (.num _)=>O
 |_=>J
def agC(t:Option Tk):(if decide (V.str (xe t)=V.str "fixed")=O then xf t else .str "")=.str (j6 t):=by
 cases t with
 |none=>rfl
 |some t=>
  cases t with
  |num n=>rfl
  |sign s=>rfl
  |name w=>show(if decide (V.str (if Sn24.kept.contains w=O then "fixed" else "name")=V.str "fixed")=O then V.str (cZ w)else .str "")=.str (if Sn24.kept.contains w=O then cZ w else "");cases Sn24.kept.contains w<;>rfl
def agD(t:Option Tk):decide (V.str (xe t)=V.str "end")=t.isNone:=by
 cases t with
 |none=>rfl
 |some t=>
  cases t with
  |num n=>rfl
  |sign s=>rfl
  |name w=>show decide (V.str (if Sn24.kept.contains w=O then "fixed" else "name")=V.str "end")=J;cases Sn24.kept.contains w<;>rfl
def agE(t:Option Tk):decide (V.str (xe t)=V.str "number")=U0 t:=by
 cases t with
 |none=>rfl
 |some t=>
  cases t with
  |num n=>rfl
  |sign s=>rfl
  |name w=>show decide (V.str (if Sn24.kept.contains w=O then "fixed" else "name")=V.str "number")=J;cases Sn24.kept.contains w<;>rfl
def U1(t:Option Tk):(!decide (V.str (xe t)=V.str "name"))=!ve t:=by
 cases t with
 |none=>rfl
 |some t=>
  cases t with
  |num n=>rfl
  |sign s=>rfl
  |name w=>show(!decide (V.str (if Sn24.kept.contains w=O then "fixed" else "name")=V.str "name"))=!(!Sn24.kept.contains w);cases Sn24.kept.contains w<;>rfl
def xg(H:aw)(a3:ao)(b:List Tk):Prop:=∃c,H a3=Y (.bq c)/\z9 c=z9 b+1/\∀j,j<=z9 b->∃a,c[j]?=Y (.ref a)/\H a=Y (.cu [.str<|xe b[j]?,xf b[j]?])
noncomputable def A3(a3:ao)(i:Nat)(sc:ao):List (Str×V):=[("tokens",.ref a3),("place",.int i),("scope",.ref sc)]
structure pV(D:ej)(H:aw)(r cN a3 sc:ao)(toks:List Tk)(i:Nat):Prop where
 ob:H r=Y (.b7 (D.c 6) cN<|A3 a3 i sc)
 jK:xg H a3 toks
 le:i<=z9 toks
def hA(D:ej)(H:aw)(r cN a3 sc:ao)(i:Nat):aw:=aE H r<|.b7 (D.c 6) cN<|A3 a3 i sc
def My(D:ej)(F:Option Tk->V):j4:=λac H Q q=>∃r cN a3 sc a i,ac=[.ref r]/\pV D H r cN a3 sc a i/\Q (F a[i]?) H
def agF:bX 1 43 (My D λt=>.cC t.isNone):=by show ek 43 ["self"] λl A bc s H ac Q E j m h=>?_;let#[r,cN,a3,sc,b,i,rfl,R,q]:=h;show#[_,aP<|cS<|C8 lM (iA (iA (bV<|aa 0)<|bV<|aa 0) cE) ea<|Aw _,?_];let#[d,e,k,f]:=R.jK;let#[a,g,c]:=f i R.le;show#[9,8,R.ob,aI,T.n 6 0,Z,9,8,R.ob,aI,T.n 6 1,Z,.inl #[a3,d,i,.ref a,Z,Z,bM.of e,qw g,.inr<|.inl #[a,_,0,9,Z,gb.of c,Z,?_]]];show oj T.Uy #[Z,?_];rwa[agD]
def agG:bX 1 44 (My D λt=>.cC<|U0 t):=by show ek 44 ["self"] λl A bc s H ac Q E j m h=>?_;let#[r,cN,a3,sc,b,i,rfl,R,q]:=h;show#[_,aP<|cS<|C8 lM (iA (iA (bV<|aa 0)<|bV<|aa 0) cE) ea<|Aw _,?_];let#[d,e,k,f]:=R.jK;let#[a,g,c]:=f i R.le;show#[9,8,R.ob,aI,T.n 6 0,Z,9,8,R.ob,aI,T.n 6 1,Z,.inl #[a3,d,i,.ref a,Z,Z,bM.of e,qw g,.inr<|.inl #[a,_,0,9,Z,gb.of c,Z,?_]]];show oj T.Uw #[Z,?_];rwa[agE]
def U2:bX 1 45 (My D λt=>.str<|j6 t):=by
 show ek 45 ["self","token"] λm A bc s H ac Q E f o h=>?_;let#[r,cN,a3,sc,b,i,rfl,R,q]:=h;show#[_,aU (dr 1 f<|iA (bV<|aa 0)<|bV<|aa 0)<|aP<|cS<|oT (d9 lM (iA (aa 1) cE) ea) (iA (aa 1) cE) fc,?_];let#[g,d,l,e]:=R.jK;let#[a,j,c]:=e i R.le;show#[9,8,R.ob,aI,T.n 6 0,Z,9,8,R.ob,aI,T.n 6 1,Z,.inl #[a3,g,i,.ref a,Z,Z,bM.of d,qw j,?_]];show#[9,.inr<|.inl #[a,_,0,9,Z,gb.of c,Z,?_]];show oj T.Mf #[Z,9,?_];let k:=agC b[i]?;show iR (λz=>?_) λz=>?_
 .rw[aR z]at k;show#[9,.inr<|.inl #[a,_,1,9,Z,gb.of c,Z,?_]];rwa[k]
 .rw[aM z]at k;show Q (.str "") H;rwa[k]
namespace Mz
def bN:ao×ao×ao×ao×List Ho.Tk×Nat->dC:=λ(r,cN,a3,sc,a,i)=>dZ [.ref r] λH Q q=>pV D H r cN a3 sc a i/\Q (xf a[i]?) (hA D H r cN a3 sc<|i+1)
def W:=dR 46 ["self","token"] (λq=>0) bN
def t:=fj W (W.a,W.b,W.c,W.d,W.e,W.m) W.H W.Q W.E λj r h=>by let#[R,q]:=h;show#[_,aU (dr 1 j<|iA (bV<|aa 0)<|bV<|aa 0)<|aU (uW (aa 0) cE yF)<|aP<|cS<|iA (aa 1) cE,?_];let#[o,i,p,k]:=R.jK;let#[a,l,f]:=k W.m R.le;show#[9,8,R.ob,aI,T.n 6 0,Z,9,8,R.ob,aI,T.n 6 1,Z,.inl #[W.c,o,W.m,.ref a,Z,Z,bM.of i,qw l,?_]];show#[9,8,R.ob,aI,T.n 6 1,Z,_,9,Z,7,R.ob,fE,?_];let g:a≠W.a:=iL f R.ob (by intro z;cases z);show#[9,.inr<|.inl #[a,_,1,9,Z,gb.of (by rwa[aK g]),Z,?_]];show q
end Mz
def agH(D:ej):j4:=λac H Q q=>∃r cN a3 sc a i x,ac=[.ref r,.str x]/\pV D H r cN a3 sc a i/\(j6 a[i]?=x->Q (.cC O) (hA D H r cN a3 sc<|i+1))/\(j6 a[i]?≠x->Q (.cC J) H)
def U3:bX 2 47 (agH D):=by
 show ek 47 ["self","fixed_text"] λg A bc s H ac Q E f c h=>?_;let#[r,cN,a3,sc,a,i,x,rfl,R,d,b]:=h;show#[_,aU (ed (d9 pM (jo aQ<|aa 0)<|aa 1) (aP<|cS oS) eP)<|aU (uW (aa 0) cE yF)<|aP<|cS oS,#[9,r,_,cN,_,9,R.ob,aI,T.Ui,Z,1,7,#[U2],c,r,cN,a3,sc,a,i,Z,R,?_]];show#[9,Z,9,iR (λz=>?_) λz=>?_]
 .show b λe=>by simp[e]at z
 .show#[9,8,R.ob,aI,T.n 6 1,Z,_,9,Z,7,R.ob,fE,d ?_];simpa using z
def agI(D:ej):j4:=λac H Q E=>∃r cN a3 sc a i x,ac=[.ref r,.str x]/\pV D H r cN a3 sc a i/\(j6 a[i]?=x->Q .bB (hA D H r cN a3 sc<|i+1))/\(j6 a[i]?≠x->gd E (-3))
def MA:bX 4 48 (agI D):=by
 show ek 48 ["self","fixed_text"] λg A bc s H ac Q E f b h=>?_;let#[r,cN,a3,sc,a,i,x,rfl,R,d,c]:=h;show#[_,aP<|ed (qq<|iz<|c4 aQ (aa 0)<|bo<|aa 1) (aP<|i4 Z) eP,#[9,r,_,cN,_,9,R.ob,aI,T.Uk,Z,9,2,7,#[U3],b.bH,r,cN,a3,sc,a,i,x,Z,R,λe=>?_,λe=>?_]]
 .show#[O,Z,di<|d e]
 .show#[J,Z,dw<|vd.iB b<|c e]
def U4:bX 4 49
  (λac H Q E=>∃r cN a3 sc b i,ac=[.ref r]/\pV D H r cN a3 sc b i/\(ve b[i]?=O->Q (xf b[i]?) (hA D H r cN a3 sc<|i+1))/\(ve b[i]?=J->gd E (-3))):=by
 show ek 49 ["self"] λo A bc s H ac Q E p c h=>?_
 let#[r,cN,a3,sc,b,i,rfl,R,e,d]:=h
 show#[_,aU (ed (d9 pM (iA (iA (bV<|aa 0)<|bV<|aa 0) cE) ea) (aP<|i4 Z) eP)<|aP<|cS<|jo aQ<|aa 0,?_]
 let#[k,f,m,g]:=R.jK
 let#[a,l,j]:=g i R.le
 show#[9,8,R.ob,aI,T.n 6 0,Z,9,8,R.ob,aI,T.n 6 1,Z,.inl #[a3,k,i,.ref a,Z,Z,bM.of f,qw l,.inr<|.inl #[a,_,0,9,Z,gb.of j,Z,?_]]]
 show oj T.Ux #[Z,9,iR (λz=>?_) λz=>?_]
 .rw[U1]at z;show vd.iB c (d<|by simpa using z)
 .rw[U1]at z;show#[9,r,_,cN,_,9,R.ob,aI,T.Uj,Z,1,7,#[Mz.t],c.bH,(r,cN,a3,sc,b,i),Z,R,e<|by simpa using z]
def MB:bX 4 50
  (λac H Q E=>∃n:Nat,ac=[.int n]/\(n<100->Q .bB H)/\(100<=n->gd E (-3))):=by
 show ek 50 ["level"] λe A bc s H ac Q E d b h=>?_
 let#[n,rfl,c,a]:=h
 show#[_,aP<|ed (d9 tA (aa 0) ea) (aP<|i4 Z) eP,#[9,nH T.afh #[_,9,Z,9,iR (λz=>?_) λz=>?_]]]
 .show vd.iB b (a (by have:=kc z;lia))
 .show c (by have:¬ ((99:Int)<n):=λw=>z<|gv w;lia)
noncomputable def iS:Bool->Str
 |true=>"channel"
 |false=>"cell"
def DO(h:cZ a=cZ b):a=b:=by have:a.toArray=b.toArray:=congrArg Str.cps h;simpa using this
abbrev fU:=Option<|Bool×Nat
def DP(H:aw)(v:V):fU->Prop
 |none=>v=.bB
 |some (k,s)=>∃t,v=.ref t/\H t=Y (.cu [.str<|iS k,.int (s:Nat)])
def om(H:aw)(av:List (Key×V))(S:Sc):Prop:=∀y,match S y with
 |none=>ec av (cT<|cZ y)=U
 |some (k,s)=>∃t,ec av (cT<|cZ y)=Y (.ref t)/\H t=Y (.cu [.str<|iS k,.int (s:Nat)])
def om.pC(h:om H av S)(y:br):DP H ((ec av<|cT<|cZ y).getD .bB) (S y):=by
 have:=h y
 cases q:S y with
 |none=>rw[q]at this;rw[this];rfl
 |some c=>let#[k,s]:=c;rw[q]at this;let#[t,a,b]:=this;rw[a];show#[t,Z,b]
def eW(H a:aw):Prop:=∀t xs,H t=Y (.cu xs)->a t=Y (.cu xs)
def eW.bw(a:eW H H1)(b:eW H1 ay):eW H ay:=λt xs h=>b t xs<|a t xs h
def eW.hW:eW H H:=λq q h=>h
def eW.g6(h:H p=U):eW H (aE H p o):=λt xs e=>by rwa[aK<|cx e h]
def eW.nI(h:H p=Y u)(m:∀xs,u≠.cu xs):eW H (aE H p o):=λt xs e=>by rwa[aK<|iL e h λz=>m xs z.symm]
def DP.ee(h:DP H v r)(k:eW H ab):DP ab v r:=by
 cases r with
 |none=>show h
 |some c=>let#[t,a,b]:=h;show#[t,a,k _ _ b]
def om.ee(h:om H av S)(k:eW H ab):om ab av S:=λy=>by
 have:=h y
 cases q:S y with
 |none=>rwa[q]at this
 |some c=>let#[d,s]:=c;rw[q]at this;let#[t,a,b]:=this;show#[t,a,k _ _ b]
def DQ(H:aw)(v:V)(e:br×fU):Prop:=∃t p,v=.ref t/\H t=Y (.cu [.str<|cZ e.1,p])/\DP H p e.2
theorem DQ.ee(h:DQ H v e)(k:eW H ab):DQ ab v e:=by let#[t,p,a,b,c]:=h;show#[t,p,a,k _ _ b,c.ee k]
def Sc.pW(S:Sc)(y:br)(r:fU):Sc:=λz=>if z=y then r else S z
def Sc.U5(S:Sc)(y:br)(k:Bool×Nat):(S.gm y k).pW y (S y)=S:=by
 funext z
 unfold Sc.pW Sc.gm;by_cases e:z=y
 .rw[aR e,e]
 .rw[aM e,aM e]
def U6:Sc->List (br×fU)->Prop
 |_,[]=>True
 |S,(y,r)::l=>S y≠U/\U6 (S.pW y r) l
def pX(k:Nat):Sc->List (br×fU)->Sc×List (br×fU)
 |S,[]=>(S,[])
 |S,(y,r)::l=>if k<=z9 l then pX k (S.pW y r) l else (S,(y,r)::l)
def y1(cQ ak:ao)(n:Nat):List (Str×V):=[("seen",.ref cQ),("hidden",.ref ak),("slots",.int n)]
structure SC(D:ej)(H:aw)(sc ds cQ ak:ao)(S:Sc)(n:Nat)(ai:List (br×fU)):Prop where
 ob:H sc=Y (.b7 (D.c 5) ds<|y1 cQ ak n)
 sn:∃av,H cQ=Y (.cY av)/\z9 av<=n/\om H av S
 hd:∃bk,H ak=Y (.bq bk)/\dE (DQ H) bk.reverse ai
 ok:U6 S ai
 le:z9 ai<=n
theorem SC.ee(h:SC D H sc ds cQ ak S n ai)(k:eW H ab)(a:ab sc=H sc)(b:ab cQ=H cQ)(c:ab ak=H ak):SC D ab sc ds cQ ak S n ai:=by let#[av,d,e,g]:=h.sn;let#[f,cf,cv]:=h.hd;show#[a.trans h.ob,#[av,b.trans d,e,g.ee k],#[f,c.trans cf,cv.hK λq q q z=>z.ee k],h.ok,h.le]
def dE.tj{α a:Type}{R:α->a->Prop}{l:List α}{m:List a}(h:dE R l m):z9 l=z9 m:=by
 induction h with
 |dg=>rfl
 |cB _ _ b=>simp[b]
namespace MC
def bN:ao×ao->dC:=λ(x,dx)=>dZ [.ref x] λH Q q=>H x=Y (.b7 (D.c 5) dx [])/\
  ∀cQ ak a,H cQ=U->H ak=U->SC D a x dx cQ ak wn 0 []->(∀b,b≠x->b≠cQ->b≠ak->a b=H b)->eW H a->Q .bB a
def W:=dR 27 ["self"] (λq=>0) bN
def x:=W.a
def t:=fj W (x,W.i) W.H W.Q W.E λl m h=>by
 let#[j,q]:=h;show#[_,aU (fY (aa 0) yQ)<|aU (fY (aa 0)<|oa nx)<|aP<|fY (aa 0) cE,?_];intro cQ g;let c:x≠cQ:=cx j g;show#[9,x,_,W.i,9,by rwa[aK c],aI,T.n 5 0,fE,?_];show#[by show 0<=sizeLine;decide,λak a=>?_];let d:ak≠x:=λz=>by rw[z,bj]at a;cases a
 rw[aK d]at a;let k:ak≠cQ:=λz=>by rw[z,bj]at a;cases a
 rw[aK k]at a;show#[9,x,_,W.i,9,by rw[aK<|c5 d];show bj,aI,T.n 5 1,fE,?_];show#[9,x,_,W.i,9,bj,aI,T.n 5 2,fE,?_];show q cQ ak _ g a #[bj,#[[],?_,bK _,λy=>rfl],#[[],?_,.dg],kb,bK _] (λb cf cv fo=>?_) λt xs e=>?_
 .rw[aK<|c5 c,aK<|c5 c,aK<|c5 k,aK<|c5 c,bj]
 .rw[aK d,aK d,bj]
 .rw[aK cf,aK cf,aK fo,aK cf,aK cv]
 .let f:t≠x:=iL e j (by intro z;cases z);rwa[aK f,aK f,aK<|cx e a,aK f,aK<|cx e g]
end MC
namespace U7
def bN:ao×ao×ao×ao×Ho.Sc×Nat×List (br×Ho.fU)->dC:=λ(sc,ds,cQ,ak,S,n,ai)=>dZ [.ref sc] λH Q q=>SC D H sc ds cQ ak S n ai/\Q (.int (z9 ai:Nat)) H
def W:=dR 29 ["self"] (λq=>0) bN
def t:=fj W (W.a,W.b,W.c,W.d,W.e,W.f,W.n) W.H W.Q W.E λi j h=>by let#[C,q]:=h;show#[_,aP<|cS<|j5 mY Z lr mD<|bo<|bV<|aa 0,?_];let#[g,cf,cv]:=C.hd;show#[9,8,C.ob,aI,T.n 5 1,Z,W.d,g,Z,.inl<|bM.of cf,?_];have:=cv.tj;rw[BW]at this;rwa[this]
end U7
def tT:Option Nat->V
 |none=>.bB
 |some s=>.int (s:Nat)
def xi:bX 1 31 (λac H Q w=>∃sc ds cQ ak S n ai y k,ac=[.ref sc,.str<|cZ y,.str<|iS k]/\SC D H sc ds cQ ak S n ai/\Q (tT<|S.of k y) H):=by
 show ek 31 ["self","name","kind","found"] λo A bc s H ac Q E j m h=>?_
 let#[sc,ds,cQ,ak,S,n,ai,y,k,rfl,C,q]:=h
 show#[_,aU (dr 3 j<|Lm (g5 m) (bV<|aa 0) (aa 1) #[Z,Z,Z,Z])<|aU (ed (me.pt<|Ar (d9 su (aa 3) lL)<|Ap<|d9 pM (iA (aa 3) cE)<|aa 2) (aP<|cS lL) eP)<|aP<|cS<|iA (aa 3) cE,?_]
 let#[av,d,p,f]:=C.sn
 show#[9,8,C.ob,aI,T.n 5 0,Z,cQ,Z,.inl #[av,.inl d],9,_,g4.k (k:=cT<|cZ y) d,?_]
 let g:=f.pC y
 generalize ev:(ec av<|cT<|cZ y).getD .bB=v at g
 show#[9,Z,9,?_]
 cases b:S y with
 |none=>
  rw[b]at g;let g:v=.bB:=g;subst g;show dw<|dw ?_;have:S.of k y=none:=by unfold Sc.of;rw[b]
  rwa[this]at q
 |some e=>
  let#[a,i]:=e;rw[b]at g;let#[t,l,c]:=g;subst l;show di #[9,.inr<|.inl #[t,_,0,9,Z,gb.of c,Z,9,Z,9,?_]];let of:S.of k y=if a=k then Y i else none:=Sc.tg b;rw[of]at q;by_cases z:a=k
  .rw[aR z]at q;subst z;show abG Z #[9,.inr<|.inl #[t,_,1,9,Z,gb.of c,Z,q]]
  .rw[aM z]at q;have:(!decide (V.str (iS a)=V.str (iS k)))=true:=by cases a<;>cases k<;>first|show a8 Z z|rfl
   rw[this];show dw q
def dE.m2{α c:Type}{R:α->c->Prop}{l:List α}{m:List c}{a:α}{b:c}(h:dE R l.reverse m)(r:R a b):dE R (l++[a]).reverse (b::m):=by rw[EY];show .cB r h
theorem om.gm(h:om H av S)(e:H t=Y (.cu [.str<|iS k,.int (n:Nat)])):om H (gP av (cT<|cZ y)<|.ref t) (S.gm y (k,n)):=λz=>by
 show match (if z=y then Y (k,n)else S z)with|none=>_|some (k,s)=>_
 rw[SJ];by_cases q:z=y
 .rw[aR q,aR<|by rw[q]];show#[t,Z,e]
 .rw[aM q,aM λw=>q<|DO<|Ck w];show h z
theorem U8[DecidableEq fs](k j:fs):∀av:List (fs×V),ec (nD av k) j=if j=k then U else ec av j
 |[]=>by show U=_;split<;>rfl
 |p::r=>by
  let a:=U8 k j r;by_cases e:p.1=k
  .rw[Lx e,a];by_cases q:j=k
   .rw[aR q,aR q]
   .rw[aM q,aM q,iv λz=>q<|z.symm.trans e]
  .rw[Ly e];by_cases q:p.1=j
   .rw[ml q,aM (λz=>e<|q.trans z),ml q]
   .rw[iv q,a,iv q]
theorem om.pW(h:om H av S)(e:H t=Y (.cu [.str<|iS k,.int (n:Nat)])):om H (gP av (cT<|cZ y)<|.ref t) (S.pW y<|Y (k,n)):=h.gm e
def om.agJ(h:om H av S):om H (nD av<|cT<|cZ y) (S.pW y U):=λz=>by
 show match (if z=y then U else S z)with|none=>_|some (k,s)=>_
 rw[U8];by_cases q:z=y
 .rw[aR q,aR<|by rw[q]]
 .rw[aM q,aM λw=>q<|DO<|Ck w];show h z
namespace Hv
def bN:ao×ao×ao×ao×Sc×Nat×List (br×fU)×br×Bool->dC:=λ(sc,ds,cQ,ak,S,n,ai,y,k)=>dZ [.ref sc,.str<|cZ y,.str<|iS k] λH Q q=>SC D H sc ds cQ ak S n ai/\n<70000/\
  ∀a,bh [sc,cQ,ak] H a->eW H a->SC D a sc ds cQ ak (S.gm y (k,n)) (n+1) ((y,S y)::ai)->Q (.int (n:Nat)) a
def W:=dR 28 ["self","name","kind","slot"] (λq=>0) bN
def sc:=W.a
def ds:=W.b
def cQ:=W.c
def ak:=W.d
def n:=W.f
def y:=W.h
def k:=W.x.2.2.2.2.2.2.2.2
def H:=W.H
def t:=fj W (sc,ds,cQ,ak,W.e,n,W.g,y,k) H W.Q W.E λaG I h=>by
 let#[C,lt,q]:=h;show#[_,aU (dr 3 aG<|bV<|aa 0)<|aU (uW (aa 0) cE yF)<|aU (cU<|iP cf cv fo jm (bV<|aa 0)<|bo<|ll<|cH (aa 1)<|Lm (g5 I) (bV<|aa 0) (aa 1) #[Z,Z,Z,Z])<|aU (qN (g5 I) (bV<|aa 0) (aa 1)<|ll<|cH (aa 2)<|aa 3)<|aP<|cS<|aa 3,?_];let#[av,s,a2,P]:=C.sn;let#[d,cf,cv]:=C.hd;let y2:z9 d<=n:=by have:=cv.tj;rw[BW]at this;rw[this];show C.le
 let big:70000<sizeLine:=by decide
 let S:cQ≠sc:=iL s C.ob (by intro z;cases z);let V:ak≠sc:=iL cf C.ob (by intro z;cases z);let M:ak≠cQ:=iL cf s (by intro z;cases z);show#[9,8,C.ob,aI,T.n 5 2,Z,?_];show#[9,8,C.ob,aI,T.n 5 2,Z,_,9,Z,7,C.ob,fE,?_];let' H1:aw:=aE H sc<|.b7 (D.c 5) ds<|y1 cQ ak<|n+1
 let j:H1 sc=Y (.b7 (D.c 5) ds<|y1 cQ ak<|n+1):=bj;let l:H1 cQ=Y (.cY av):=by show aE H sc _ cQ=_;rwa[aK S]
 let r:H1 ak=Y (.bq d):=by show aE H sc _ ak=_;rw[aK V];show cf
 let G:eW H H1:=eW.nI C.ob (by intro xs z;cases z);show#[9,8,j,aI,T.n 5 1,Z,.inl #[Z,_,bM.of r],9,#[9,8,j,aI,T.n 5 0,Z,cQ,Z,.inl #[av,.inl l],9,_,g4.k (k:=cT<|cZ y) l,?_]];show#[by show 2<=sizeLine;decide,λt f=>?_];let g:=(P.ee G).pC y;generalize (ec av<|cT<|cZ y).getD .bB=B at g;let' ay:aw:=aE H1 t<|.cu [.str<|cZ y,B]
 let F:eW H1 ay:=eW.g6 f;let N:ay ak=Y (.bq d):=by show aE H1 t _ ak=_;rwa[aK<|cx r f]
 show#[ak,d,9,Z,N,aV,?_];let' bT:aw:=aE ay ak<|.bq<|d++[.ref t]
 let v:eW ay bT:=eW.nI N (by intro xs z;cases z);let w:bT sc=Y (.b7 (D.c 5) ds<|y1 cQ ak<|n+1):=by show aE ay ak _ sc=_;rw[aK<|c5 V];show aE H1 t _ sc=_;rwa[aK<|cx j f]
 let u:bT cQ=Y (.cY av):=by show aE ay ak _ cQ=_;rw[aK<|c5 M];show aE H1 t _ cQ=_;rwa[aK<|cx l f]
 let A:bT ak=Y (.bq<|d++[.ref t]):=bj;show#[9,9,by show 2<=sizeLine;decide,λa i=>?_];let' dQ:aw:=aE bT a<|.cu [.str<|iS k,.int (n:Nat)]
 let X:eW bT dQ:=eW.g6 i;let x:dQ sc=Y (.b7 (D.c 5) ds<|y1 cQ ak<|n+1):=by show aE bT a _ sc=_;rwa[aK<|cx w i]
 let K:dQ cQ=Y (.cY av):=by show aE bT a _ cQ=_;rwa[aK<|cx u i]
 let fm:dQ ak=Y (.bq<|d++[.ref t]):=by show aE bT a _ ak=_;rwa[aK<|cx A i]
 show#[9,8,x,aI,T.n 5 0,Z,9,cQ,9,mm.k (k:=cT<|cZ y) K aV,?_];let' gs:aw:=aE dQ cQ<|.cY<|gP av (cT<|cZ y)<|.ref a
 let p:eW dQ gs:=eW.nI K (by intro xs z;cases z);let mn:eW H gs:=((((G.bw F).bw v).bw X).bw p);show#[9,q gs ?_ mn #[?_,#[_,bj,?_,?_],#[d++[.ref t],?_,?_],#[?_,?_],?_]]
 .intro b o ae m;let bU:b≠sc:=λz=>m (by simp[z]);let eq:b≠cQ:=λz=>m (by simp[z]);let se:b≠ak:=λz=>m (by simp[z]);let R:H1 b=Y o:=by show aE H sc _ b=_;rw[aK bU];show ae
  let aj:ay b=Y o:=by show aE H1 t _ b=_;rwa[aK<|cx R f]
  let L:bT b=Y o:=by show aE ay ak _ b=_;rw[aK se];show aj
  let fF:dQ b=Y o:=by show aE bT a _ b=_;rwa[aK<|cx L i]
  show aE dQ cQ _ b=_;rw[aK eq];show fF
 .show aE dQ cQ _ sc=_;rwa[aK<|c5 S]
 .have:=yL av (cT<|cZ y)<|.ref a;lia
 .show om.gm (P.ee mn) ?_;show p _ _ (by show aE bT a _ a=_;show bj)
 .show aE dQ cQ _ ak=_;rw[aK M];show fm
 .let kt:eW ay gs:=(v.bw X).bw p;show dE.m2 (cv.hK λ_ _ _ z=>z.ee mn) #[t,B,Z,kt _ _ (by show aE H1 t _ t=_;show bj),g.ee<|F.bw kt]
 .show(if y=y then Y (k,n)else W.e y)≠U;rw[aR Z];simp
 .rw[Sc.U5];show C.ok
 .have:=C.le;show z9 W.g+1<=n+1;lia
end Hv
namespace Va
def bN:ao×ao×ao×ao×Ho.Sc×Nat×List (br×Ho.fU)×Nat->dC:=λ(sc,ds,cQ,ak,S,n,ai,m)=>dZ [.ref sc,.int (m:Nat)] λH Q q=>SC D H sc ds cQ ak S n ai/\n<70000/\m<=z9 ai/\
  ∀a,bh [sc,cQ,ak] H a->eW H a->SC D a sc ds cQ ak (pX m S ai).1 n (pX m S ai).2->Q .bB a
def W:=dR 30 ["self","mark","last"] (λq=>0) bN
def sc:=W.a
def cQ:=W.c
def ak:=W.d
def m:=W.o
def t:=fj W (sc,W.b,cQ,ak,W.e,W.f,W.g,m) W.H W.Q W.E λaG af h=>by
 let#[C,lt,hm,q]:=h;show#[_,aP<|pL i2 (d9 tA (j5 mY Z lr mD<|bo<|bV<|aa 0)<|aa 1)<|aU (dr 2 aG<|Sn Cd Cf JC Ss<|bV<|aa 0)<|aP<|ed (d9 su (iA (aa 2) cE) lL) (aP<|cU<|Ln (bV<|aa 0) (iA (aa 2) cE) #[Z,Z,Z,Z])<|aP<|qN (g5 af) (bV<|aa 0) (iA (aa 2) cE)<|iA (aa 2) cE,?_];let big:70000<sizeLine:=by decide
 show#[λu σ H1=>∃l i mP,u=z9 mP/\σ=[Y<|.ref sc,Y<|.int (m:Nat),l]/\SC D H1 sc W.b cQ ak i W.f mP/\m<=z9 mP/\pX m i mP=pX m W.e W.g/\bh [sc,cQ,ak] W.H H1/\eW W.H H1,
  #[_,U,W.e,W.g,Z,Z,C,hm,Z,bh.hW,eW.hW],λu σ H1 Lf=>?_]
 let#[l,i,mP,rfl,rfl,c,nK,cD,S,kt]:=Lf;let#[av,a1,a2,M]:=c.sn;let#[A,cf,cv]:=c.hd;let x:=cv.tj;rw[BW]at x;let cb:cQ≠sc:=iL a1 c.ob (by intro z;cases z);let n2:ak≠sc:=iL cf c.ob (by intro z;cases z);let R:ak≠cQ:=iL cf a1 (by intro z;cases z);show#[9,8,c.ob,aI,T.n 5 1,Z,ak,A,Z,.inl<|bM.of cf,#[9,_,9,Z,9,iR (λz=>?_) λz=>?_]]
 .let v:m<z9 A:=by have:=kc z;lia
  show#[_,λ_ _ b3=>b3,?_]
  cases mP with
  |nil=>rw[x]at v;show a8 v bg
  |cons e mP=>
   let#[y,r]:=e
   obtain⟨a,j,rfl⟩:∃a j,A=a++[j]:=by
    obtain w|⟨f,fq,w⟩:=OZ A
    .rw[w]at v;simp at v
    .show#[f,fq,by rw[w,O0]]
   rw[EY]at cv
   cases cv with
   |cB hl cv=>
    let cv:dE (DQ H1) a.reverse mP:=cv
    let#[t,p,aq,I,K]:=hl
    subst aq
    let Vb:pX m (i.pW y r) mP=pX m W.e W.g:=by rw[<-cD];show _=if m<=z9 mP then _ else _;rw[aR (by simp at x;simp at v;lia)]
    show#[9,8,c.ob,aI,T.n 5 1,Z,.inl #[Z,_,bM.of cf],ak,_,.ref t,Z,Z,cf,bg,?_]
    rw[List.dropLast_concat]
    let' ay:aw:=aE H1 ak<|.bq a
    let d:eW H1 ay:=eW.nI cf (by intro xs z;cases z)
    let L:ay sc=_:=(aK<|c5 n2).trans c.ob
    let G:ay cQ=Y (.cY av):=(aK<|c5 R).trans a1
    let fA:bh [sc,cQ,ak] H1 ay:=bh.nI bg
    show#[9,.inr<|.inl #[t,_,1,9,Z,gb.of<|d _ _ I,Z,Z,9,?_]]
    cases r with
    |none=>
     let K:p=.bB:=K;subst K;show dw ?_;let X:(ec av<|cT<|cZ y).isSome=true:=by
      have:=M y
      cases B:i y with
      |none=>show a8 B c.ok.1
      |some F=>let#[pQ,c2]:=F;rw[B]at this;let#[N,P,_]:=this;rw[P];rfl
     let#[ME,MF]:=B3.mp X;show#[9,8,L,aI,T.n 5 0,Z,cQ,Z,.inl #[av,.inl G],9,.inr<|.inl #[t,_,0,9,Z,gb.of<|d _ _ I,Z,av,cT<|cZ y,ME,G,Z,MF,?_]];let o:eW ay (aE ay cQ<|.cY<|nD av<|cT<|cZ y):=eW.nI G (by intro xs z;cases z);show#[z9 mP,k2 _,_,i.pW y U,mP,Z,Z,#[(aK<|c5 cb).trans L,#[_,bj,dK (Lh _ _) a2,(M.ee<|d.bw o).agJ],#[a,(aK R).trans bj,cv.hK λ_ _ _ z=>z.ee<|d.bw o],c.ok.2,rW c.le],by simp at x;simp at v;lia,Vb,(S.bw fA).bw<|bh.nI bg,kt.bw<|d.bw o]
    |some F=>
     let#[pQ,c2]:=F;let#[N,P,f7]:=K;subst P;show di #[9,.inr<|.inl #[t,_,1,9,Z,gb.of<|d _ _ I,Z,?_]];show#[9,8,L,aI,T.n 5 0,Z,9,.inr<|.inl #[t,_,0,9,Z,gb.of<|d _ _ I,Z,cQ,9,mm.k (k:=cT<|cZ y) G aV,?_]];let o:eW ay (aE ay cQ<|.cY<|gP av (cT<|cZ y)<|.ref N):=eW.nI G (by intro xs z;cases z);let s:(gP av (cT<|cZ y)<|.ref N).length=z9 av:=by
      unfold gP
      have:=M y
      cases B:i y with
      |none=>show a8 B c.ok.1
      |some F=>let#[amg,amh]:=F;rw[B]at this;let#[ami,v1,_]:=this;rw[aR (by rw[wT,v1];rfl),hR]
     show#[z9 mP,k2 _,_,i.pW y<|Y (pQ,c2),mP,Z,Z,#[(aK<|c5 cb).trans L,#[_,bj,by rw[s];show a2,(M.ee<|d.bw o).pW<|(d.bw o) _ _ f7],#[a,(aK R).trans bj,cv.hK λ_ _ _ z=>z.ee<|d.bw o],c.ok.2,rW c.le],by simp at x;simp at v;lia,Vb,(S.bw fA).bw<|bh.nI bg,kt.bw<|d.bw o]
 .let le:z9 A<=m:=by have:¬ ((m:Int)<z9 A):=λw=>z<|gv w;lia
  let V:pX m i mP=(i,mP):=by
   cases mP with
   |nil=>rfl
   |cons e fq=>show(if m<=z9 fq then _ else _)=_;rw[aM (by simp at x;lia)]
  rw[<-cD,V]at q;show q H1 S kt c
end Va
mutual
inductive dh(D:ej)(bu:ao->Prop)(H:aw):V->ba->Prop where
 |cA {a d:ao}{n:Nat}:bu a->H a=Y (.b7 (D.c 7) d [("number",.int (n:Nat))])->dh D bu H (.ref a) (.cA n)
 |gx {a d:ao}{s:Nat}:bu a->H a=Y (.b7 (D.c 8) d [("slot",.int (s:Nat))])->dh D bu H (.ref a) (.gx s)
 |jS {a d:ao}{s:Nat}:bu a->H a=Y (.b7 (D.c 9) d [("slot",.int (s:Nat))])->dh D bu H (.ref a) (.jS s)
 |n0 {a d:ao}:bu a->H a=Y (.b7 (D.c 10) d [])->dh D bu H (.ref a) .n0
 |mJ {a d:ao}{v:V}{x:ba}:bu a->H a=Y (.b7 (D.c 11) d [("inner",v)])->dh D bu H v x->dh D bu H (.ref a) (.mJ x)
 |n1 {a d:ao}{v:V}{x:ba}:bu a->H a=Y (.b7 (D.c 12) d [("inner",v)])->dh D bu H v x->dh D bu H (.ref a) (.n1 x)
 |k4 {a d l:ao}{v:V}{x:ba}{lv:List V}{m:List (Nat×ba)}:bu a->H a=Y (.b7 (D.c 13) d [("first",v),("links",.ref l)])->bu l->H l=Y (.bq lv)->dh D bu H v x->i6 D bu H lv m->dh D bu H (.ref a) (.k4 x m)
inductive i6(D:ej)(bu:ao->Prop)(H:aw):List V->List (Nat×ba)->Prop where
 |dg:i6 D bu H [] []
 |cB {t:ao}{o:Nat}{v:V}{x:ba}{lv:List V}{m:List (Nat×ba)}:bu t->H t=Y (.cu [.ref<|ky D o,v])->dh D bu H v x->i6 D bu H lv m->i6 D bu H (.ref t::lv) ((o,x)::m)
end
section
variable {bu fk:ao->Prop}{H ab:aw}(b3:∀a o,bu a->H a=Y o->fk a/\ab a=Y o)
include b3
def dh.dt(h:dh D bu H v x):dh D fk ab v x:=by apply dh.rec (motive_1:=λv x q=>dh D fk ab v x) (motive_2:=λv x q=>i6 D fk ab v x) (t:=h)<;>intros<;>constructor<;>first|assumption|show(b3 _ _ ‹_› ‹_›).2|show(b3 _ _ ‹_› ‹_›).1
def i6.dt(h:i6 D bu H v x):i6 D fk ab v x:=by apply i6.rec (motive_1:=λv x q=>dh D fk ab v x) (motive_2:=λv x q=>i6 D fk ab v x) (t:=h)<;>intros<;>constructor<;>first|assumption|show(b3 _ _ ‹_› ‹_›).2|show(b3 _ _ ‹_› ‹_›).1
end
def dh.cI(h:dh D bu H v x)(c:∀a,bu a->fk a)(b3:∀a o,bu a->H a=Y o->ab a=Y o):dh D fk ab v x:=dh.dt (λa o b z=>#[c a b,b3 a o b z]) h
def i6.cI(h:i6 D bu H v x)(c:∀a,bu a->fk a)(b3:∀a o,bu a->H a=Y o->ab a=Y o):i6 D fk ab v x:=i6.dt (λa o b z=>#[c a b,b3 a o b z]) h
def i6.m2(h:i6 D bu H e m)(a:bu t)(b:H t=Y (.cu [.ref<|ky D o,v]))(c:dh D bu H v x):i6 D bu H (e++[.ref t]) (m++[(o,x)]):=by apply i6.rec (motive_1:=λq q q=>True) (motive_2:=λe m q=>i6 D bu H (e++[V.ref t])<|m++[(o,x)]) (t:=h)<;>intros<;>first|trivial|show .cB a b c .dg|show .cB ‹_› ‹_› ‹_› ‹_›
abbrev eA(H:aw):ao->Prop:=λa=>H a=U
def eA.eX(e:bh M H H1)(m:∀b∈M,H1 b≠U)(c:H1 a=U):H a=none:=by
 cases q:H a with
 |none=>rfl
 |some o=>
  by_cases z:a∈M
  .show a8 c<|m a z
  .have:=e a o q z;cases c▸this
theorem dh.eX(h:dh D (eA H1) ay v x)(e:bh M H H1)(m:∀b∈M,H1 b≠U):dh D (eA H) ay v x:=
 h.cI (λa c=>eA.eX e m c) λq q q z=>z
structure gf where
 r:ao
 cN:ao
 a3:ao
 sc:ao
 ds:ao
 cQ:ao
 ak:ao
 aX:List Tk
instance:Nonempty gf:=#[#[0,0,0,0,0,0,0,[]]]
abbrev gf.M(G:gf):List ao:=[G.r,G.sc,G.cQ,G.ak]
def sL:Tk->Prop
 |.sign s=>s∈fP
 |.num n=>n<2147483648
 |_=>True
structure Rs(D:ej)(H:aw)(G:gf)(i:Nat)(S:Sc)(n:Nat)(ai:List (br×fU)):Prop where
 bG:pV D H G.r G.cN G.a3 G.sc G.aX i
 sc:SC D H G.sc G.ds G.cQ G.ak S n ai
 ne:G.a3≠G.ak
 my:n<=i
 eM:z9 G.aX<=65536
 ok:∀t∈G.aX,sL t
def agL:A3 a3 i sc≠y1 cQ ak n:=λh=>by
 have:(A3 a3 i sc).lookup ("tokens":Str)=(y1 cQ ak n).lookup ("tokens":Str):=by rw[h]
 cases (show Y (V.ref a3)=U from this)
section
variable {H ab:aw}{G:gf}{i n:Nat}
def Rs.Vc(R:Rs D H G i S n ai):G.sc≠G.r/\G.cQ≠G.r/\G.ak≠G.r/\G.a3≠G.r/\G.a3≠G.sc/\G.a3≠G.cQ/\G.cQ≠G.sc/\G.ak≠G.sc/\G.ak≠G.cQ:=by
 let#[av,a,q]:=R.sc.sn;let#[c,cf,q]:=R.sc.hd;let#[d,b,q]:=R.bG.jK;show#[iL R.sc.ob R.bG.ob (λz=>by injection z with _ _ z;show agL z.symm),iL a R.bG.ob (by intro z;cases z),iL cf R.bG.ob (by intro z;cases z),iL b R.bG.ob (by intro z;cases z),iL b R.sc.ob (by intro z;cases z),iL b a (by intro z;cases z),
  iL a R.sc.ob (by intro z;cases z),iL cf R.sc.ob (by intro z;cases z),iL cf a (by intro z;cases z)]
def Rs.dT(R:Rs D H G i S n ai):∀b∈G.M,H b≠none:=λb ae=>by
 let#[av,a,q]:=R.sc.sn;let#[c,cf,q]:=R.sc.hd;simp only[gf.M,eG,vV,or_false]at ae;obtain rfl|rfl|rfl|rfl:=ae
 .rw[R.bG.ob];simp
 .rw[R.sc.ob];simp
 .rw[a];simp
 .rw[cf];simp
def xg.ee(h:xg H a3 toks)(k:eW H ab)(e:ab a3=H a3):xg ab a3 toks:=by let#[l,b,d,c]:=h;show#[l,e.trans b,d,λj i=>?_];let#[a,f,g]:=c j i;show#[a,f,k _ _ g]
def Rs.eS(R:Rs D H G i S n ai)(x:bh [] H ab):Rs D ab G i S n ai:=by let k:eW H ab:=λt xs e=>x t _ e bg;let a:∀{b o},H b=Y o->ab b=H b:=λ{b o} e=>(x b o e bg).trans e.symm;let#[av,c,q]:=R.sc.sn;let#[f,cf,q]:=R.sc.hd;let#[g,d,q]:=id R.bG.jK;show#[#[(a R.bG.ob).trans R.bG.ob,R.bG.jK.ee k<|a d,R.bG.le],R.sc.ee k (a R.sc.ob) (a c)<|a cf,R.ne,R.my,R.eM,R.ok]
abbrev Rs.H1(D:ej)(H:aw)(G:gf)(j:Nat):aw:=hA D H G.r G.cN G.a3 G.sc j
theorem Rs.hA(R:Rs D H G i S n ai)(le:i<=j)(lt:j<=z9 G.aX):Rs D (hA D H G.r G.cN G.a3 G.sc j) G j S n ai:=by let#[a,c,d,b,q]:=R.Vc;let k:eW H (Ho.hA D H G.r G.cN G.a3 G.sc j):=eW.nI R.bG.ob (by intro xs z;cases z);show#[#[bj,R.bG.jK.ee k<|aK b,lt],R.sc.ee k (aK a) (aK c)<|aK d,R.ne,dK R.my le,R.eM,R.ok]
def Rs.de(j:Nat):bh G.M H (Ho.hA D H G.r G.cN G.a3 G.sc j):=bh.nI bg
end
def Vd:∀w∈Sn24.kept,∀s∈fP,cZ w≠kV s:=by decide +kernel
def agM:∀t∈fP,∀s∈fP,kV t=kV s->t=s:=by decide +kernel
def MG:∀s∈fP,("":Str)≠kV s:=by decide +kernel
def MH:∀w∈Sn24.kept,("":Str)≠cZ w:=by decide +kernel
def Ve{w:br}(h:Sn24.kept.contains w=O):w∈Sn24.kept:=O1.mp h
def sM(ok:∀u,t=Y u->sL u)(ai:s∈fP):j6 t=kV s↔t=Y (.sign s):=by
 cases t with
 |none=>show#[λh=>a8 h<|MG s ai,λh=>by cases h]
 |some t=>
  cases t with
  |num n=>show#[λh=>a8 h<|MG s ai,λh=>by cases h]
  |name w=>
   show(if Sn24.kept.contains w=O then cZ w else "")=kV s↔_;by_cases q:Sn24.kept.contains w=O
   .rw[aR q];show#[λh=>a8 h<|Vd w (Ve q) s ai,λh=>by cases h]
   .rw[aM q];show#[λh=>a8 h<|MG s ai,λh=>by cases h]
  |sign u=>show#[λh=>by rw[agM u (ok _ Z) s ai h],λh=>by cases h;rfl]
def lT(ok:∀u,t=Y u->sL u){w:br}(a:w∈Sn24.kept):j6 t=cZ w↔t=Y (.name w):=by
 cases t with
 |none=>show#[λh=>a8 h<|MH w a,λh=>by cases h]
 |some t=>
  cases t with
  |num n=>show#[λh=>a8 h<|MH w a,λh=>by cases h]
  |name u=>
   show(if Sn24.kept.contains u=O then cZ u else "")=cZ w↔_;by_cases q:Sn24.kept.contains u=O
   .rw[aR q];show#[λh=>by rw[DO h],λh=>by cases h;rfl]
   .rw[aM q];show#[λh=>a8 h<|MH w a,λh=>by cases h;show a8 (O1.mpr a) q]
  |sign s=>show#[λh=>a8 h.symm<|Vd w a s<|ok _ Z,λh=>by cases h]
def vf(l:List Tk)(i:Nat):l.drop i=match l[i]? with
  |none=>[]
  |some t=>t::l.drop (i+1):=by
 cases q:l[i]? with
 |none=>rw[Jb<|I8.mp q]
 |some t=>let#[h,e]:=jP.mp q;rw[ur h,e]
def A4(S:Sc)(y:br):ba:=match S y with
 |none=>.n0
 |some (J,s)=>.gx s
 |some (O,s)=>.jS s
def agN(S:Sc)(y:br):ke S (.var y) (A4 S y):=by
 unfold A4
 cases q:S y with
 |none=>show .n0 q
 |some a=>
  let#[k,s]:=a
  cases k with
  |false=>show .gx (by rw[Sc.tg q];rfl)
  |true=>show .jS (by rw[Sc.tg q];rfl)
def agO(S:Sc)(y:br):eJ (A4 S y)=1:=by unfold A4;split<;>rfl
namespace Vf
def bN:ao×ao×ao×ao×Ho.Sc×Nat×List (br×Ho.fU)×br->dC:=λ(sc,ds,cQ,ak,S,n,ai,y)=>dZ [.ref sc,.str<|cZ y] λH Q q=>SC D H sc ds cQ ak S n ai/\
  ∀v a,bh [] H a->dh D (eA H) a v (A4 S y)->Q v a
def W:=dR 82 ["scope","name","cell","channel"] (λq=>2) bN
def S:=W.e
def y:=W.o
def t:=fj W (W.a,W.b,W.c,W.d,S,W.f,W.g,y) W.H W.Q W.E λm j h=>by
 let#[C,q]:=h
 show#[_,aU (dr 2 m<|c4 aQ (aa 0)<|cH (aa 1) ea)<|aU (ed (d9 Gw (aa 2) lL) (aP<|cS<|cP aQ<|bo<|aa 2) eP)<|aU (dr 3 m<|c4 aQ (aa 0)<|cH (aa 1) ea)<|aU (ed (d9 Gw (aa 3) lL) (aP<|cS<|cP aQ<|bo<|aa 3) eP)<|aP<|cS<|pR aQ ea,#[9,8,C.ob,aI,T.w8,Z,9,oj T.AY #[1,7,#[xi],j.bH,W.a,W.b,W.c,W.d,S,W.f,W.g,y,J,Z,C,?_]]]
 show#[9,Z,9,?_]
 unfold A4 at q
 cases e:S y with
 |none=>rw[e]at q;rw[Sc.FJ e];show di #[9,8,C.ob,aI,T.w8,Z,9,oj T.yZ #[1,7,#[xi],j.bH,W.a,W.b,W.c,W.d,S,W.f,W.g,y,O,Z,C,?_]];rw[Sc.FJ e];show#[9,Z,9,di ?_];show cm (T.c 10).2 ?_;show vb T.adO T.adP j.bH λx dx i l n=>q _ _ (bh.dJ i l)<|.n0 i hz
 |some o=>
  let#[k,p]:=o
  rw[e]at q
  cases k with
  |false=>rw[Sc.tg (b:=J) e];show dw ?_;show cm (T.c 8).2 ?_;show#[9,kT T.adK (afY) j.bH Z λx dx i l n=>q _ _ (bh.dJ i l)<|.gx i hz]
  |true=>rw[Sc.tg (b:=J) e];show di #[9,8,C.ob,aI,T.w8,Z,9,oj T.yZ #[1,7,#[xi],j.bH,W.a,W.b,W.c,W.d,S,W.f,W.g,y,O,Z,C,?_]];rw[Sc.tg (b:=O) e];show#[9,Z,9,dw ?_];show cm (T.c 9).2 ?_;show#[9,kT T.adM (afZ) j.bH Z λx dx i l n=>q _ _ (bh.dJ i l)<|.jS i hz]
end Vf
section
variable {on:List Str}{oo:Str}{oq:iH}{mZ:ao}{cd:aB}{ot:e0}{ou:List Env}{s0:bl}{gB:aw}{nJ:dG}{E:dG}{v:Nat}{σ:L2.St}{H:aw}{vg:Bool->aw->Prop}{Q:ck}{x:Str}{G:gf}{i n:Nat}{S:Sc}{ai:List (br×fU)}{s:br}
def Rs.lw(R:Rs D H G i S n ai):∀u,G.aX[i]?=Y u->sL u:=λu h=>R.ok u<|mF h
def Rs.rD(R:Rs D H G i S n ai)(h:G.aX[i]?=Y t):Rs D (Ho.hA D H G.r G.cN G.a3 G.sc<|i+1) G (i+1) S n ai:=R.hA (iT _) (jP.mp h).1
def Vg(a:σ[v]?=Y (Y<|.ref G.r))(R:Rs D H G i S n ai)(b:e5 2 (kU on oo oq mZ cd ot ou s0 gB nJ).A)(h1:j6 G.aX[i]?=x->vg O (hA D H G.r G.cN G.a3 G.sc<|i+1))(c:j6 G.aX[i]?≠x->vg J H):
  qI (kU on oo oq mZ cd ot ou s0 gB nJ) (eV P w b8) E "accept" (hM v) (lk (rl<|.str x) kP) σ H λy ab=>∃k,wL K y ab k/\vg k ab:=
 #[_,a,G.r,_,G.cN,_,9,R.bG.ob,aI,T.Uk,Z,2,7,#[U3],b,G.r,G.cN,G.a3,G.sc,G.aX,i,x,Z,R.bG,λe=>#[O,Z,h1 e],λe=>#[J,Z,c e]]
def tV(s:br)(b:σ[v]?=Y (Y<|.ref G.r))(R:Rs D H G i S n ai)(c:e5 2 (kU on oo oq mZ cd ot ou s0 gB nJ).A)
  (h1:G.aX[i]?=Y (.sign s)->Rs D (hA D H G.r G.cN G.a3 G.sc<|i+1) G (i+1) S n ai->vg O (hA D H G.r G.cN G.a3 G.sc<|i+1)) (d:G.aX[i]?≠Y (.sign s)->vg J H) (a:s∈fP:=by decide +kernel) (f:kV s=x:=by rfl):
  qI (kU on oo oq mZ cd ot ou s0 gB nJ) (eV P w b8) E "accept" (hM v) (lk (rl<|.str x) kP) σ H λy ab=>∃k,wL K y ab k/\vg k ab:=by
 subst f
 show Vg b R c (λe=>?_) λe=>?_
 .have:=(sM R.lw a).mp e;show h1 this<|R.rD this
 .show d λz=>e<|(sM R.lw a).mpr z
def MI(s:br)(b:σ[v]?=Y (Y<|.ref G.r))(R:Rs D H G i S n ai)(c:e5 2 (kU on oo oq mZ cd ot ou s0 gB nJ).A)
  (h1:G.aX[i]?=Y (.name s)->Rs D (hA D H G.r G.cN G.a3 G.sc<|i+1) G (i+1) S n ai->vg O (hA D H G.r G.cN G.a3 G.sc<|i+1)) (d:G.aX[i]?≠Y (.name s)->vg J H) (a:s∈Sn24.kept:=by decide +kernel) (f:cZ s=x:=by rfl):
  qI (kU on oo oq mZ cd ot ou s0 gB nJ) (eV P w b8) E "accept" (hM v) (lk (rl<|.str x) kP) σ H λy ab=>∃k,wL K y ab k/\vg k ab:=by
 subst f
 show Vg b R c (λe=>?_) λe=>?_
 .have:=(lT R.lw a).mp e;show h1 this<|R.rD this
 .show d λz=>e<|(lT R.lw a).mpr z
def j7(s:br)(b:σ[v]?=Y (Y<|.ref G.r))(R:Rs D H G i S n ai)(c:e5 4 (kU on oo oq mZ cd ot ou s0 gB nJ).A)
  (h1:G.aX[i]?=Y (.sign s)->Rs D (hA D H G.r G.cN G.a3 G.sc<|i+1) G (i+1) S n ai->Q .bB (hA D H G.r G.cN G.a3 G.sc<|i+1)) (d:G.aX[i]?≠Y (.sign s)->gd E (-3)) (a:s∈fP:=by decide +kernel) (f:kV s=x:=by rfl):
  qI (kU on oo oq mZ cd ot ou s0 gB nJ) (eV P w b8) E "expect" (hM v) (lk (rl<|.str x) kP) σ H Q:=by
 subst f
 show#[_,b,G.r,_,G.cN,_,9,R.bG.ob,aI,T.Ma,Z,4,7,#[MA],c,G.r,G.cN,G.a3,G.sc,G.aX,i,9,R.bG,λe=>?_,λe=>?_]
 .have:=(sM R.lw a).mp e;show h1 this<|R.rD this
 .show d λz=>e<|(sM R.lw a).mpr z
def agP(s:br)(b:σ[v]?=Y (Y<|.ref G.r))(R:Rs D H G i S n ai)(c:e5 4 (kU on oo oq mZ cd ot ou s0 gB nJ).A)
  (h1:G.aX[i]?=Y (.name s)->Rs D (hA D H G.r G.cN G.a3 G.sc<|i+1) G (i+1) S n ai->Q .bB (hA D H G.r G.cN G.a3 G.sc<|i+1)) (d:G.aX[i]?≠Y (.name s)->gd E (-3)) (a:s∈Sn24.kept:=by decide +kernel) (f:cZ s=x:=by rfl):
  qI (kU on oo oq mZ cd ot ou s0 gB nJ) (eV P w b8) E "expect" (hM v) (lk (rl<|.str x) kP) σ H Q:=by
 subst f
 show#[_,b,G.r,_,G.cN,_,9,R.bG.ob,aI,T.Ma,Z,4,7,#[MA],c,G.r,G.cN,G.a3,G.sc,G.aX,i,9,R.bG,λe=>?_,λe=>?_]
 .have:=(lT R.lw a).mp e;show h1 this<|R.rD this
 .show d λz=>e<|(lT R.lw a).mpr z
def Vh(h:ve t=O):∃y,t=Y (.name y)/\Sn24.kept.contains y=false:=by
 cases t with
 |none=>cases h
 |some t=>
  cases t with
  |num n=>cases h
  |sign s=>cases h
  |name y=>show#[y,Z,by simpa [ve] using h]
def tW(c:σ[v]?=Y (Y<|.ref G.r))(R:Rs D H G i S n ai)(d:e5 4 (kU on oo oq mZ cd ot ou s0 gB nJ).A)
  (h1:∀y,G.aX[i]?=Y (.name y)->Sn24.kept.contains y=J->Rs D (hA D H G.r G.cN G.a3 G.sc<|i+1) G (i+1) S n ai->Q (.str<|cZ y) (hA D H G.r G.cN G.a3 G.sc<|i+1)) (f:ve G.aX[i]?=J->gd E (-3)):
  qI (kU on oo oq mZ cd ot ou s0 gB nJ) (eV P w b8) E "expect_name" (hM v) kP σ H Q:=by
 show#[_,c,G.r,_,G.cN,_,9,R.bG.ob,aI,T.Ul,Z,4,7,#[U4],d,G.r,G.cN,G.a3,G.sc,G.aX,i,Z,R.bG,λe=>?_,f]
 let#[y,a,b]:=Vh e
 have:=h1 y a b<|R.rD a
 rw[a];show this
def A5(a:σ[v]?=Y (Y<|.ref G.r))(R:Rs D H G i S n ai)(b:e5 1 (kU on oo oq mZ cd ot ou s0 gB nJ).A)(h1:Q (.str<|j6 G.aX[i]?) H):qI (kU on oo oq mZ cd ot ou s0 gB nJ) (eV P w b8) E "fixed" (hM v) kP σ H Q:=
 #[_,a,G.r,_,G.cN,_,9,R.bG.ob,aI,T.Ui,Z,1,7,#[U2],b,G.r,G.cN,G.a3,G.sc,G.aX,i,Z,R.bG,h1]
def Hw(a:σ[v]?=Y (Y<|.ref G.r))(R:Rs D H G i S n ai)(b:e5 1 (kU on oo oq mZ cd ot ou s0 gB nJ).A)(h1:Q (xf G.aX[i]?) (hA D H G.r G.cN G.a3 G.sc<|i+1)):qI (kU on oo oq mZ cd ot ou s0 gB nJ) (eV P w b8) E "step_over" (hM v) kP σ H Q:=
 #[_,a,G.r,_,G.cN,_,9,R.bG.ob,aI,T.Uj,Z,1,7,#[Mz.t],b,(G.r,G.cN,G.a3,G.sc,G.aX,i),Z,R.bG,h1]
end
def EQ(D:ej)(b:Nat)(G:gf)(H:aw)(S:Sc)(n:Nat)(ai:List (br×fU))(Q:ck)(E:dG):Option (nW×List Tk)->Prop
 |none=>gd E<|-3
 |some (e,aT)=>∀v a x j,G.aX.drop j=aT->bh G.M H a->Rs D a G j S n ai->dh D (eA H) a v x->ke S e x/\eJ x<=b->Q v a
inductive xk(D:ej)(L:Nat)(ac:List V)(H:aw)(Q:ck)(E:dG):Prop
 |mk (G:gf) (i:Nat) (S:Sc) (n:Nat) (ai:List (br×fU)) (bi:Nat) (_:L<=bi) (_:ac=[.ref G.r,.int (bi:Nat)]) (_:Rs D H G i S n ai) (_:EQ D (200-2*bi) G H S n ai Q E (qd bi<|G.aX.drop i)):xk D L ac H Q E
inductive y3(D:ej)(L:Nat)(ac:List V)(H:aw)(Q:ck)(E:dG):Prop
 |mk (G:gf) (i:Nat) (S:Sc) (n:Nat) (ai:List (br×fU)) (bi:Nat) (p:Nat) (_:L<=bi) (_:ac=[.ref G.r,.int (bi:Nat),.int (p:Nat)]) (_:Rs D H G i S n ai) (_:EQ D (201-2*bi) G H S n ai Q E (gj bi (p+1)<|G.aX.drop i)):y3 D L ac H Q E
def Rs.rE(R:Rs D H G i S n ai)(h:G.aX[i]?=Y t):G.aX.drop i=t::G.aX.drop (i+1):=by rw[vf,h]
section
variable {k:Nat}
namespace Vi
def bN:Nat×Nat×gf×Nat×Sc×Nat×List (br×fU)×Nat->dC:=λ(k,L,G,i,S,n,ai,bi)=>dZ [.ref G.r,.int (bi:Nat)] λH Q E=>4<=k/\(L<100->bX k 81 (xk D<|L+1))/\(L<100->bX k 80 (y3 D<|L+1))/\L<=bi/\Rs D H G i S n ai/\EQ D (200-2*bi) G H S n ai Q E (qd bi<|G.aX.drop i)
def W:=dR 81 ["reader","level","inner"] (λx=>x.1) bN
def d0:=W.c
def gR:=W.d
def pZ:=W.e
def mN:=W.f
def o4:=W.g
def bi:=W.o
def H:=W.H
def Q:=W.Q
def E:=W.E
theorem t:sJ 81 ["reader","level","inner"] (λx=>x.1) bN:=by
 show ee W (W.a,W.b,d0,gR,pZ,mN,o4,bi) H Q E λX d h=>?_;let#[N,B,V,hX,R,q]:=h;show#[_,aU (cU<|cP aQ<|bo<|aa 1)<|aU (ed (iz<|c4 aQ (aa 0)<|bo fc) (aP<|cS<|cP aQ<|bo<|cP aQ<|cH (aa 0)<|iO mW (aa 1) cE) eP)<|aU (ed (iz<|c4 aQ (aa 0)<|bo fc) (aP<|cS<|cP aQ<|bo<|cP aQ<|cH (aa 0)<|iO mW (aa 1) cE) eP)<|aU (ed (iz<|c4 aQ (aa 0)<|bo fc) (aU (dr 2 X<|cP aQ<|fX (aa 0)<|cH (iO mW (aa 1) cE) cE)<|aU (cU<|c4 aQ (aa 0)<|bo fc)<|aP<|cS<|aa 2) eP)<|aU (ed (iz<|jo aQ<|aa 0) (aP<|cS<|cP aQ<|bo<|jo aQ<|aa 0) eP)<|aP<|cS<|cP aQ<|cH (bV<|aa 0)<|jo aQ<|aa 0,?_];show cm (T.t 50 Z) ?_;show#[9,dk (MB) (d.cI N) #[bi,Z,λlt=>?_,λge=>?_]];case refine_2=>rwa[JM,aR<|show q2<=bi from ge]at q
 rw[JM,aM<|show ¬q2<=bi from IS.mpr lt]at q;let B:=B aV;show tV (ascii "-") Z R d.bH (λe f=>?_) λP=>?_
 .rw[R.rE e]at q
  let q:EQ D (200-2*bi) d0 H pZ mN o4 Q E ((qd (bi+1)<|d0.aX.drop<|gR+1).map λx=>(.minus x.1,x.2)):=q
  show dw ?_
  show cm (T.c 11).2 ?_
  show cm (T.t 81 Z) ?_
  show#[9,9,_,9,Z,dk B d #[d0,gR+1,pZ,mN,o4,bi+1,aV,Z,f,?_]]
  cases u:qd (bi+1) (d0.aX.drop<|gR+1)with
  |none=>rwa[u]at q
  |some l=>let#[C,aT]:=l;rw[u]at q;intro v F x j A ext s w p;show kT T.adR (af0) d.bH Z λa L g i K=>?_;show q _ _ _ j A (((Rs.de<|gR+1).bw ext).bw<|bh.dJ g i) (s.eS<|bh.dJ g i) (.mJ ?_ hz<|(w.eX (Rs.de<|gR+1) f.dT).cI (λ_ z=>z) λb o _ z=>gV z g i) #[.mJ p.1,by have:=p.2;show eJ x+1<=_;lia];show eA.eX ((Rs.de<|gR+1).bw ext) s.dT g
 .show di (tV (ascii "!") Z R d.bH (λe f=>?_) λM=>?_)
  .rw[R.rE e]at q
   let q:EQ D (200-2*bi) d0 H pZ mN o4 Q E ((qd (bi+1)<|d0.aX.drop<|gR+1).map λx=>(.not x.1,x.2)):=q
   show dw ?_
   show cm (T.c 12).2 ?_
   show cm (T.t 81 Z) ?_
   show#[9,9,_,9,Z,dk B d #[d0,gR+1,pZ,mN,o4,bi+1,aV,Z,f,?_]]
   cases u:qd (bi+1) (d0.aX.drop<|gR+1)with
   |none=>rwa[u]at q
   |some l=>let#[C,aT]:=l;rw[u]at q;intro v F x j A ext s w p;show kT T.adT (af1) d.bH Z λa L g i K=>?_;show q _ _ _ j A (((Rs.de<|gR+1).bw ext).bw<|bh.dJ g i) (s.eS<|bh.dJ g i) (.n1 ?_ hz<|(w.eX (Rs.de<|gR+1) f.dT).cI (λ_ z=>z) λb o _ z=>gV z g i) #[.n1 p.1,by have:=p.2;show eJ x+1<=_;lia];show eA.eX ((Rs.de<|gR+1).bw ext) s.dT g
  .show di ?_;show tV (ascii "(") Z R d.bH (λe f=>?_) λS=>?_
   .rw[R.rE e]at q
    let q:EQ D (200-2*bi) d0 H pZ mN o4 Q E ((gj (bi+1) 1<|d0.aX.drop<|gR+1).bind λx=>(Sn24.eat (a7 ")") x.2).map λr=>(x.1,r)):=q
    show dw ?_
    show cm (T.t 80 Z) ?_
    show#[9,9,_,9,Z,dk (V aV) d #[d0,gR+1,pZ,mN,o4,bi+1,0,aV,Z,f,?_]]
    cases u:gj (bi+1) (0+1) (d0.aX.drop<|gR+1)with
    |none=>rwa[show gj (bi+1) 1 (d0.aX.drop<|gR+1)=U from u]at q
    |some l=>
     let#[C,aT]:=l;rw[show gj (bi+1) 1 (d0.aX.drop<|gR+1)=Y (C,aT)from u]at q;intro v F x j A ext s w p;let q:EQ D (200-2*bi) d0 H pZ mN o4 Q E ((Sn24.eat (a7 ")") aT).map λr=>(C,r)):=q;show j7 (ascii ")") Z s d.bH (λe dB=>?_) λe=>?_
     .rw[<-A,s.rE e]at q;show#[9,q v _ x (j+1) Z (((Rs.de<|gR+1).bw ext).bw<|Rs.de<|j+1) dB ((w.eX (Rs.de<|gR+1) f.dT).cI (λ_ z=>z) λb o ae z=>Rs.de (j+1) b o z λm=>R.dT b m ae) #[p.1,by have:=p.2;lia]]
     .rw[<-A,vf]at q
      cases t:d0.aX[j]? with
      |none=>rwa[t]at q
      |some I=>rw[t]at q;have:Sn24.eat (a7 ")") (I::d0.aX.drop (j+1))=none:=aM λz=>e (by rw[t,z];rfl);rwa[this]at q
   .show di #[9,d0.r,_,d0.cN,_,9,R.bG.ob,aI,T.adG,Z,1,7,#[agG],d.bH,d0.r,d0.cN,d0.a3,d0.sc,d0.aX,gR,Z,R.bG,?_]
    cases t:d0.aX[gR]? with
    |none=>rw[vf,t]at q;show#[J,Z,di ?_];show cm (T.t 82 Z) ?_;show#[9,8,R.bG.ob,aI,T.n 6 2,Z,?_];show tW Z R d.bH (λy e _ _=>by rw[t]at e;cases e) λ_=>q
    |some I=>
     rw[R.rE t]at q
     cases I with
     |num m=>show#[O,Z,dw ?_];show cm (T.c 7).2 ?_;show Hw Z R d.bH ?_;rw[t];show kT T.Um (UX) d.bH Z λa L g i K=>?_;let f:=R.rD t;show q _ _ _ (gR+1) Z ((Rs.de<|gR+1).bw<|bh.dJ g i) (f.eS<|bh.dJ g i) (.cA (eA.eX (Rs.de<|gR+1) f.dT g) hz) #[.cA m,by let h:m<2147483648:=R.lw _ t;show(if m<2147483648 then 1 else 1000)<=_;rw[aR h];lia]
     |sign G=>show#[J,Z,di ?_];show cm (T.t 82 Z) ?_;show#[9,8,R.bG.ob,aI,T.n 6 2,Z,?_];show tW Z R d.bH (λy e _ _=>by rw[t]at e;cases e) λ_=>?_;let q:EQ D (200-2*bi) d0 H pZ mN o4 Q E (if (.sign G:Tk)=a7 "!" then _ else if (.sign G:Tk)=a7 "-" then _ else if (.sign G:Tk)=a7 "(" then _ else U):=q;rwa[aM (λz=>M (by rw[t,z];rfl)),aM (λz=>P (by rw[t,z];rfl)),aM λz=>S (by rw[t,z];rfl)]at q
     |name k=>
      show#[J,Z,di ?_];show cm (T.t 82 Z) ?_;show#[9,8,R.bG.ob,aI,T.n 6 2,Z,?_];let q:EQ D (200-2*bi) d0 H pZ mN o4 Q E (if (.name k:Tk)=a7 "!" then _ else if (.name k:Tk)=a7 "-" then _ else if (.name k:Tk)=a7 "(" then _ else (uq<|.name k).map λx=>(.var x,d0.aX.drop<|gR+1)):=q;rw[aM (λz=>by cases z),aM (λz=>by cases z),aM λz=>by cases z]at q;let q:EQ D (200-2*bi) d0 H pZ mN o4 Q E ((if Sn24.kept.contains k=O then U else Y k).map λx=>(.var x,d0.aX.drop<|gR+1)):=q;show tW Z R d.bH (λy e lP f=>?_) λz=>?_
      .cases t▸e;rw[lP,aM cn]at q;show dk (Vf.t) d.bH #[(d0.sc,d0.ds,d0.cQ,d0.ak,pZ,mN,o4,k),Z,f.sc,λv F l w=>?_];show q v F _ (gR+1) Z ((Rs.de<|gR+1).bw<|l.cI λb z=>by cases z) (f.eS l) (w.eX (Rs.de<|gR+1) f.dT) #[agN pZ k,by rw[agO];lia]
      .rw[t]at z;let z:Sn24.kept.contains k=true:=by simpa [ve] using z
       rwa[z,aR Z]at q
end Vi
def Vj(g:4<=k)(h:L<100->bX k 81 (xk D<|L+1))
  (i:L<100->bX k 80 (y3 D<|L+1)):bX (k+1) 81 (xk D L):=Vi.t.i5 λ_ _ _ _ #[j,f,c,a,m,l,d,e,n,b]=>#[(k,L,j,f,c,a,m,l),Z,e,g,h,i,d,n,b]
end
def Hq:tM P w K (D.g 3) sG:=pG.Hq
def Mi:tM P w K (D.g 2) (AZ D):=pG.Mi
def y4(s:br):Option (br×Nat×Nat):=p8.find? λo=>o.1==s
def agQ(p:Nat):Option (br×Nat×Nat)->Option (br×Nat×Nat)
 |some o=>if p<=o.2.1 then Y o else U
 |none=>U
theorem Hx:∀{l:List (br×Nat×Nat)},(l.map (·.1)).Nodup->∀(s:br) (p:Nat),(l.find? λo=>o.1==s&&decide (p<=o.2.1))=agQ p (l.find? λo=>o.1==s)
 |[],_,s,p=>rfl
 |o::l,c,s,p=>by
  let#[b,a]:=l2.mp c;rw[nY,nY];by_cases e:o.1=s
  .rw[show(o.1==s)=O from beq_iff_eq.mpr e];by_cases q:p<=o.2.1
   .rw[gv q];show(aR q).symm
   .rw[i9 q];show(l.find? λo=>o.1==s&&decide (p<=o.2.1))=if p<=o.2.1 then Y o else U;rw[Hx a s p,aM q];have:(l.find? λo=>o.1==s)=none:=by rw[E0];intro x f z;let d:x.1=o.1:=(beq_iff_eq.mp z).trans e.symm;show b (s6.mpr #[x,f,d])
    rw[this];rfl
  .rw[show(o.1==s)=J from beq_eq_false_iff_ne.mpr e];show Hx a s p
def Vk:(p8.map (·.1)).Nodup:=by decide +kernel
def A6:Option Tk->Nat
 |some (.sign s)=>match y4 s with
  |some o=>o.2.1
  |none=>0
 |_=>0
def agR:∀s∈fP,(ec sG<|cT<|kV s).getD (.int 0)=.int ((A6 (Y<|.sign s):Nat):Int):=by decide +kernel
def agS:∀w∈Sn24.kept,(ec sG<|cT<|cZ w).getD (.int 0)=.int 0:=by decide +kernel
def MJ:(ec sG<|cT "").getD (.int 0)=.int 0:=by decide +kernel
def agT(ok:∀u,t=Y u->sL u):(ec sG<|cT<|j6 t).getD (.int 0)=.int ((A6 t:Nat):Int):=by
 cases t with
 |none=>show MJ
 |some t=>
  cases t with
  |num n=>show MJ
  |sign s=>show agR s<|ok _ Z
  |name w=>
   show(ec sG<|cT<|if Sn24.kept.contains w=O then cZ w else "").getD (.int 0)=_;by_cases q:Sn24.kept.contains w=O
   .rw[aR q];show agS w<|Ve q
   .rw[aM q];show MJ
def agU:∀o∈p8,ec sG (cT<|kV o.1)=Y (.int ((o.2.1:Nat):Int)):=by decide +kernel
def agV(D:ej):∀o∈p8,ec (AZ D) (cT<|kV o.1)=Y (.ref<|ky D o.2.2):=by intro o a;simp only[p8,eG,vV,or_false]at a;obtain rfl|rfl|rfl|rfl|rfl|rfl|rfl|rfl|rfl|rfl|rfl|rfl|rfl:=a<;>rfl
def agW(h:y4 s=Y o):o∈p8/\o.1=s:=#[xS h,by simpa using zO h]
def agX(h:y4 s=Y o)(le:p<=o.2.1):tb d p a (.sign s::r)=(gj (d+1) (o.2.1+1) r).bind λb=>tb d p (.bin o.2.2 a b.1) b.2:=by rw[Qd];show(match p8.find? λo=>o.1==s&&decide (p<=o.2.1)with|some o=>_|none=>_)=_;rw[Hx Vk,show(p8.find? λo=>o.1==s)=Y o from h];show(match (if p<=o.2.1 then Y o else U)with|some o=>_|none=>_)=_;rw[aR le]
def agY(h:A6 l.head?<p):tb d p a l=Y (a,l):=by
 rw[Qd]
 cases l with
 |nil=>rfl
 |cons t r=>
  cases t with
  |num n=>rfl
  |name w=>rfl
  |sign s=>
   show(match p8.find? λo=>o.1==s&&decide (p<=o.2.1)with|some o=>_|none=>_)=_
   rw[Hx Vk]
   let h:(match y4 s with|some o=>o.2.1|none=>0)<p:=h
   cases q:y4 s with
   |none=>rw[show(p8.find? λo=>o.1==s)=U from q];rfl
   |some o=>rw[q]at h;let h:o.2.1<p:=h;rw[show(p8.find? λo=>o.1==s)=Y o from q];show(match (if p<=o.2.1 then Y o else U)with|some o=>_|none=>_)=_;rw[aM aV]
def agZ(a:nW)(l:List (Nat×nW))(o:Nat)(b:nW):v8 a (l++[(o,b)])=.bin o (v8 a l) b:=by unfold v8;rw[Jj];rfl
def rg.m2(h:rg S l m)(a:ke S e x):rg S (l++[(o,e)]) (m++[(o,x)]):=by apply rg.rec (motive_1:=λq q q=>True) (motive_2:=λl m q=>rg S (l++[(o,e)])<|m++[(o,x)]) (t:=h)<;>intros<;>first|trivial|show .cB a .dg|show .cB ‹_› ‹_›
def i6.eM(h:i6 D bu H e m):z9 e=z9 m:=by apply i6.rec (motive_1:=λq q q=>True) (motive_2:=λe m q=>z9 e=z9 m) (t:=h)<;>intros<;>first|trivial|rfl|show congrArg (·+1) ‹_›
theorem Vl:∀(m:List (Nat×ba)) (o:Nat) (x:ba),eJ.qf (m++[(o,x)])=max (eJ.qf m) (eJ x+1)
 |[],o,x=>by show max (eJ x+1) 0=max 0 (eJ x+1);rw[Nat.max_comm]
 |(p,y)::m,o,x=>by show max (eJ y+1) (eJ.qf<|m++[(o,x)])=max (max (eJ y+1)<|eJ.qf m) (eJ x+1);rw[Vl m,Nat.max_assoc]
def rg.eM:∀{l:List (Nat×nW)}{m:List (Nat×ba)},rg S l m->z9 l=z9 m:=by
 intro l m h
 induction l generalizing m with
 |nil=>cases h;rfl
 |cons _ _ a=>
  cases h with
  |cB _ b=>simp[a b]
namespace Vm
def bN:Nat×Nat×gf×Nat×Sc×Nat×List (br×fU)×Nat×Nat->dC:=λ(k,L,G,i,S,n,ai,bi,p)=>dZ [.ref G.r,.int (bi:Nat),.int (p:Nat)] λH Q E=>4<=k/\bX k 81 (xk D L)/\(L<100->bX k 80 (y3 D<|L+1))/\L<=bi/\Rs D H G i S n ai/\EQ D (201-2*bi) G H S n ai Q E (gj bi (p+1)<|G.aX.drop i)
def W:=dR 80 ["reader","level","tightness","first","links","sign"] (λx=>x.1) bN
def G:=W.c
def S:=W.e
def n:=W.f
def ai:=W.g
def bi:=W.h
def p:=W.x.2.2.2.2.2.2.2.2
def H:=W.H
theorem t:sJ 80 ["reader","level","tightness","first","links","sign"] (λx=>x.1) bN:=by
 show ee W (W.a,W.b,G,W.d,S,n,ai,bi,p) H W.Q W.E λaG P h=>?_
 let#[aD,mq,dY,hX,R,q]:=h
 show#[_,(aU (dr 3 aG<|cP aQ<|cH (aa 0)<|aa 1)<|aU (dr 4 aG<|oa nx)<|aU (pL i2 (d9 tA (agk ea (jo aQ<|aa 0) cE #[Z,Z,Z,Z])<|aa 2)<|aU (dr 5 aG<|jo aQ<|aa 0)<|aP<|cU<|iP cf cv fo jm (aa 4)<|bo<|ll<|cH (Mu ea (aa 5) λ_ _=>rfl)<|cP aQ<|fX (aa 0)<|cH (iO mW (aa 1) cE)<|Mu ea (aa 5) λ_ _=>rfl)<|aP<|cS<|oT (iz<|aa 4) (cP aQ<|cH (aa 3)<|aa 4)<|aa 3),?_]
 show cm (T.t 81 Z) ?_
 show#[9,9,dk mq P #[G,W.d,S,n,ai,bi,hX,Z,R,?_]]
 rw[X3]at q
 cases u:qd bi (G.aX.drop W.d)with
 |none=>rwa[u]at q
 |some ex=>
  let#[dz,aT]:=ex;rw[u]at q;let lt:bi<100:=by
   rw[JM]at u;by_cases z:q2<=bi
   .cases (aR z)▸u
   .show OE z
  let dY:=dY aV;intro v0 gB x0 ag0 ag1 Vn m3 MK Hy;show#[by show 0<=sizeLine;decide,λpl N=>?_];let q:EQ D (201-2*bi) G H S n ai W.Q W.E (tb bi (p+1) dz aT):=q;let Hz:H pl=none:=eA.eX Vn m3.dT N;let i3:∀{a:ao},H a=U->a∉G.M:=λ{a} z m=>R.dT a m z;let up:∀{K X:aw}{v:V}{x:ba},dh D (λa=>H a=U/\a≠pl) K v x->(∀b o,K b=Y o->b∉G.M->b≠pl->X b=Y o)->dh D (λa=>H a=U/\a≠pl) X v x:=λh f=>h.cI (λ_ z=>z) λa o e z=>f a o z (i3 e.1) e.2;let ag2:∀{K X:aw}{i:List V}{m:List (Nat×ba)},i6 D (λa=>H a=U/\a≠pl) K i m->(∀b o,K b=Y o->b∉G.M->b≠pl->X b=Y o)->i6 D (λa=>H a=U/\a≠pl) X i m:=λh f=>h.cI (λ_ z=>z) λa o e z=>f a o z (i3 e.1) e.2;show#[λu σ H1=>∃sg i l m j,u=z9 G.aX-j/\σ=[Y<|.ref G.r,Y<|.int (bi:Nat),Y<|.int (p:Nat),Y v0,Y<|.ref pl,sg]/\H1 pl=Y (.bq i)/\bh G.M H H1/\Rs D H1 G j S n ai/\z9 i<=j/\
   dh D (λa=>H a=U/\a≠pl) H1 v0 x0/\i6 D (λa=>H a=U/\a≠pl) H1 i m/\(rg S l m/\eJ.qf m<=200-2*bi)/\EQ D (201-2*bi) G H S n ai W.Q W.E (tb bi (p+1) (v8 dz l)<|G.aX.drop j),#[_,U,[],[],[],ag0,Z,Z,bj,Vn.bw<|bh.g6 N,m3.eS<|bh.g6 N,hQ _,
    MK.dt λa o e z=>#[#[e,cx z N],by rwa[aK<|cx z N]],.dg,#[.dg,hQ _],by rwa[ag1]],?_]
  rintro u σ H1 ⟨sg,i,l,m,j,rfl,rfl,hl,ext,B,amj,au,HA,DT,q⟩;let F:pl∉G.M:=i3 Hz;show#[.ref _,_,T.UA,Z,D.g 3,sG,Z,Hq,A5 Z B P.bH ?_];show#[cT<|j6 G.aX[j]?,Z,?_];rw[agT B.lw];show#[9,_,9,Z,9,iR (λz=>?_) λz=>?_]
  .let s:p<A6 G.aX[j]?:=by have:=kc z;lia
   show#[_,λ_ _ b3=>b3,?_]
   cases t:G.aX[j]? with
   |none=>rw[t]at s;show a8 s<|p5 _
   |some t0=>
    cases t0 with
    |num m0=>rw[t]at s;show a8 s<|p5 _
    |name m0=>rw[t]at s;show a8 s<|p5 _
    |sign s0=>
     rw[t]at s
     let s:p<(match y4 s0 with|some o=>o.2.1|none=>0):=s
     cases HB:y4 s0 with
     |none=>rw[HB]at s;show a8 s<|p5 _
     |some o=>
      rw[HB]at s
      let s:p<o.2.1:=s
      let#[bm,be]:=agW HB
      rw[B.rE t,agX HB s]at q
      let dB:=B.rD t
      let' ay:aw:=hA D H1 G.r G.cN G.a3 G.sc<|j+1
      let oX:ay pl=Y (.bq i):=(aK λz=>F (by rw[z];simp)).trans hl
      show Hw Z B P.bH ?_
      rw[t]
      show#[9,.inl #[Z,_,bM.of oX],?_]
      show#[.ref _,_,T.afp,Z,9,D.g 2,AZ D,cT<|kV s0,.ref<|ky D o.2.2,Z,Mi,Z,by rw[<-be];show agV D o bm,?_]
      show cm (T.t 80 Z) ?_
      show#[9,9,_,9,Z,.ref _,_,T.UA,Z,9,D.g 3,sG,cT<|kV s0,.int ((o.2.1:Nat):Int),Z,Hq,Z,by rw[<-be];show agU o bm,?_]
      show dk dY P #[G,j+1,S,n,ai,bi+1,o.2.1,aV,Z,dB,?_]
      cases ML:gj (bi+1) (o.2.1+1) (G.aX.drop<|j+1)with
      |none=>rwa[ML]at q
      |some ex=>
       let#[aq,lU]:=ex;rw[ML]at q;let q:EQ D (201-2*bi) G H S n ai W.Q W.E (tb bi (p+1) (.bin o.2.2 (v8 dz l) aq) lU):=q;intro v1 C gr iD kA ext1 k qH tX;let HC:C pl=Y (.bq i):=ext1 pl _ oX F;show#[by show 2<=sizeLine;decide,λA hB=>?_];let A8:aE C A (.cu [.ref<|ky D o.2.2,v1]) pl=Y (.bq i):=(aK<|cx HC hB).trans HC;let MM:bh G.M H ay:=ext.bw<|Rs.de<|j+1;let big:65536<sizeLine:=by decide
       let amk:=B.bG.le;let aml:=B.eM;show#[pl,i,9,Z,A8,aV,?_];let Vo:j+1<iD:=by let h1:=Ft ML;rw[<-kA,ho,ho]at h1;lia
       let' gs:aw:=aE (aE C A<|.cu [.ref<|ky D o.2.2,v1]) pl<|.bq<|i++[.ref A]
       let I:∀b ob,C b=Y ob->b≠pl->gs b=Y ob:=λb ob z y=>by show aE (aE C A _) pl _ b=_;rwa[aK y,aK<|cx z hB]
       let Vp:∀b ob,H1 b=Y ob->b∉G.M->b≠pl->gs b=Y ob:=λb ob z y np=>I b ob (ext1 b ob (Rs.de (G:=G) (j+1) b ob z y) y) np;let Vq:H A=U/\A≠pl:=#[eA.eX (MM.bw ext1) k.dT hB,λz=>by rw[z,HC]at hB;cases hB];let ag3:gs A=Y (.cu [.ref<|ky D o.2.2,v1]):=by show aE (aE C A _) pl _ A=_;rw[aK Vq.2,bj]
       let amm:bh [pl] C gs:=λb ob z y=>I b ob z λw=>y (by rw[w];simp);let gg:Rs D gs G iD S n ai:=by
        let Vr:eW C gs:=λb xs z=>I b _ z (iL z HC (by intro w;cases w));let L:∀{b ob},C b=Y ob->b≠pl->gs b=C b:=λ{b ob} z y=>(I b ob z y).trans z.symm;let#[av,a1,_]:=k.sc.sn;let#[bk,cf,_]:=k.sc.hd;let#[dd,cw,_]:=id k.bG.jK;let MN:G.a3≠pl:=λw=>by let#[amn,Vs,_]:=id R.bG.jK;rw[w,Hz]at Vs;cases Vs
        show#[#[(L k.bG.ob λw=>F (by rw[<-w];simp)).trans k.bG.ob,k.bG.jK.ee Vr<|L cw MN,k.bG.le],k.sc.ee Vr (L k.sc.ob λw=>F (by rw[<-w];simp)) (L a1 λw=>F (by rw[<-w];simp)) (L cf λw=>F (by rw[<-w];simp)),k.ne,k.my,k.eM,k.ok]
       show#[z9 G.aX-iD,by have:=k.bG.le;lia,_,i++[.ref A],l++[(o.2.2,aq)],m++[(o.2.2,gr)],iD,Z,Z,bj,λb ob z y=>?_,gg,by rw[ju];show z9 i+1<=iD;lia,up au Vp,(ag2 HA Vp).m2 Vq ag3 ?_,#[DT.1.m2 tX.1,by rw[Vl];have:=tX.2;have:=DT.2;lia],?_]
       .have:b≠pl:=cx z Hz;show I b ob (ext1 b ob (MM b ob z y) y) this
       .let wZ:∀a,eA ay a->a≠pl:=λa e w=>by let e:ay a=none:=e;rw[w,oX]at e;cases e
        show qH.dt λa ag4 e z=>#[#[eA.eX MM dB.dT e,wZ a e],I a ag4 z<|wZ a e]
       .rw[agZ,kA];show q
  .let le:A6 G.aX[j]?<=p:=by have:¬ ((p:Int)<(A6 G.aX[j]?:Nat)):=λw=>z<|gv w;lia
   let hd:(G.aX.drop j).head?=G.aX[j]?:=by rw[xT]
   rw[agY (by rw[hd];lia)]at q
   show#[9,!i.isEmpty,.inl #[i,bM.of hl,Z],?_]
   cases i with
   |nil=>cases HA;show di ?_;show#[9,q v0 H1 x0 j Z ext B (au.cI (λa e=>e.1) λ_ _ _ z=>z) ⟨?_,by have:=Hy.2;lia⟩];cases DT.1;show Hy.1
   |cons Ba amo=>
    show dw ?_;show cm (T.c 13).2 ?_;show#[9,9,kT T.adV (af2) P.bH Z λa fV e o8 ne=>?_];let ag5:m≠[]:=λw=>by subst w;have:=HA.eM;simp at this
    show q _ _ _ j Z (ext.bw<|bh.dJ e o8) (B.eS<|bh.dJ e o8) (.k4 (eA.eX ext B.dT e) hz Hz (gV hl e o8) (au.cI (λa e=>e.1) λ_ _ _ z=>gV z e o8)<|HA.cI (λa e=>e.1) λ_ _ _ z=>gV z e o8) #[.k4 Hy.1 DT.1 ag5,by have:=Hy.2;have:=DT.2;show max (eJ x0) (eJ.qf m)+1<=_;lia]
end Vm
def Vt(g:4<=k)
  (h:bX k 81 (xk D L)) (i:L<100->bX k 80 (y3 D<|L+1)):
  bX (k+1) 80 (y3 D L):=Vm.t.i5 λ_ _ _ _ #[j,f,c,b,m,l,a,d,e,q,r]=>#[(k,L,j,f,c,b,m,l,a),Z,e,g,h,i,d,q,r]
inductive jp(D:ej)(bu:ao->Prop)(H:aw):List V->List ba->Prop where
 |dg:jp D bu H [] []
 |cB {v:V}{x:ba}{lv:List V}{m:List ba}:dh D bu H v x->jp D bu H lv m->jp D bu H (v::lv) (x::m)
mutual
inductive da(D:ej)(bu:ao->Prop)(H:aw):V->cJ->Prop where
 |d3 {a d:ao}:bu a->H a=Y (.b7 (D.c 19) d [])->da D bu H (.ref a) .d3
 |oH {a d:ao}:bu a->H a=Y (.b7 (D.c 20) d [])->da D bu H (.ref a) .oH
 |qe {a d:ao}:bu a->H a=Y (.b7 (D.c 21) d [])->da D bu H (.ref a) .qe
 |r7 {a d:ao}{s:Nat}{v:V}{x:ba}:bu a->H a=Y (.b7 (D.c 22) d [("cell",.int (s:Nat)),("expression",v)])->dh D bu H v x->da D bu H (.ref a) (.r7 s x)
 |h5 {a d:ao}{s:Nat}{v:V}{x:ba}:bu a->H a=Y (.b7 (D.c 23) d [("channel",.int (s:Nat)),("expression",v)])->dh D bu H v x->da D bu H (.ref a) (.h5 s x)
 |du {a d:ao}{s t:Nat}:bu a->H a=Y (.b7 (D.c 24) d [("channel",.int (s:Nat)),("cell",.int (t:Nat))])->da D bu H (.ref a) (.du s t)
 |l4 {a d:ao}{v:V}{x:ba}:bu a->H a=Y (.b7 (D.c 25) d [("expression",v)])->dh D bu H v x->da D bu H (.ref a) (.l4 x)
 |hH {a d l:ao}{f:br}{iu:List V}{xs:List ba}:bu a->H a=Y (.b7 (D.c 26) d [("name",.str<|cZ f),("arguments",.ref l)])->bu l->H l=Y (.bq iu)->jp D bu H iu xs->da D bu H (.ref a) (.hH f xs)
 |l5 {a d:ao}{el sI jZ:V}{c:ba}{x y:cJ}:bu a->H a=Y (.b7 (D.c 27) d [("condition",el),("chosen",sI),("otherwise",jZ)])->dh D bu H el c->da D bu H sI x->da D bu H jZ y->da D bu H (.ref a) (.l5 c x y)
 |h6 {a d:ao}{el sI:V}{c:ba}{x:cJ}:bu a->H a=Y (.b7 (D.c 28) d [("condition",el),("repeated",sI)])->dh D bu H el c->da D bu H sI x->da D bu H (.ref a) (.h6 c x)
 |oI {a d:ao}{v:V}{l:List ja}:bu a->H a=Y (.b7 (D.c 29) d [("listed",v)])->ly D bu H v l->da D bu H (.ref a) (.oI l)
 |gl {a d l:ao}{lv:List V}{m:List cJ}:bu a->H a=Y (.b7 (D.c 30) d [("statements",.ref l)])->bu l->H l=Y (.bq lv)->jq D bu H lv m->da D bu H (.ref a) (.gl m)
 |k5 {a d l:ao}{lv:List V}{m:List (ba×hG×cJ)}:bu a->H a=Y (.b7 (D.c 31) d [("branches",.ref l)])->bu l->H l=Y (.bq lv)->iE D bu H lv m->z9 lv<=65536->da D bu H (.ref a) (.k5 m)
inductive lV(D:ej)(bu:ao->Prop)(H:aw):V->ja->Prop where
 |gx {a d:ao}{s:Nat}:bu a->H a=Y (.b7 (D.c 16) d [("slot",.int (s:Nat))])->lV D bu H (.ref a) (.gx s)
 |aH {a d:ao}{s:Nat}:bu a->H a=Y (.b7 (D.c 17) d [("slot",.int (s:Nat))])->lV D bu H (.ref a) (.aH s)
 |cq {v:V}{x:cJ}:da D bu H v x->lV D bu H v (.cq x)
inductive ly(D:ej)(bu:ao->Prop)(H:aw):V->List ja->Prop where
 |dg {a d:ao}:bu a->H a=Y (.b7 (D.c 14) d [])->ly D bu H (.ref a) []
 |cB {a d:ao}{v r:V}{x:ja}{l:List ja}:bu a->H a=Y (.b7 (D.c 15) d [("part",v),("rest",r)])->lV D bu H v x->ly D bu H r l->ly D bu H (.ref a) (x::l)
inductive jq(D:ej)(bu:ao->Prop)(H:aw):List V->List cJ->Prop where
 |dg:jq D bu H [] []
 |cB {v:V}{x:cJ}{lv:List V}{m:List cJ}:da D bu H v x->jq D bu H lv m->jq D bu H (v::lv) (x::m)
inductive iE(D:ej)(bu:ao->Prop)(H:aw):List V->List (ba×hG×cJ)->Prop where
 |dg:iE D bu H [] []
 |d3 {a d:ao}{el ac:V}{c:ba}{x:cJ}{lv:List V}{m:List (ba×hG×cJ)}:bu a->H a=Y (.b7 (D.c 33) d [("condition",el),("statement",ac)])->dh D bu H el c->da D bu H ac x->iE D bu H lv m->iE D bu H (.ref a::lv) ((c,.d3,x)::m)
 |du {a d:ao}{el ac:V}{c:ba}{x:cJ}{eO eo:Option Nat}{lv:List V}{m:List (ba×hG×cJ)}:bu a->H a=Y (.b7 (D.c 34) d [("condition",el),("statement",ac),("channel",tT eO),("cell",tT eo)])->dh D bu H el c->da D bu H ac x->iE D bu H lv m->iE D bu H (.ref a::lv) ((c,.du eO eo,x)::m)
end
section
variable {bu fk:ao->Prop}{H ab:aw}(b3:∀a o,bu a->H a=Y o->fk a/\ab a=Y o)
include b3
theorem jp.dt:∀{v:List V}{x:List ba},jp D bu H v x->jp D fk ab v x:=by
 intro v x h
 induction v generalizing x with
 |nil=>cases h;show .dg
 |cons _ _ c=>
  cases h with
  |cB a b=>show .cB (dh.dt b3 a)<|c b
theorem da.dt(h:da D bu H v x):da D fk ab v x:=by apply da.rec (motive_1:=λv x q=>da D fk ab v x) (motive_2:=λv x q=>lV D fk ab v x) (motive_3:=λv x q=>ly D fk ab v x) (motive_4:=λv x q=>jq D fk ab v x) (motive_5:=λv x q=>iE D fk ab v x) (t:=h)<;>intros<;>constructor<;>first|assumption|show dh.dt b3 ‹_›|show jp.dt b3 ‹_›|show(b3 _ _ ‹_› ‹_›).2|show(b3 _ _ ‹_› ‹_›).1
theorem lV.dt(h:lV D bu H v x):lV D fk ab v x:=by apply lV.rec (motive_1:=λv x q=>da D fk ab v x) (motive_2:=λv x q=>lV D fk ab v x) (motive_3:=λv x q=>ly D fk ab v x) (motive_4:=λv x q=>jq D fk ab v x) (motive_5:=λv x q=>iE D fk ab v x) (t:=h)<;>intros<;>constructor<;>first|assumption|show dh.dt b3 ‹_›|show jp.dt b3 ‹_›|show(b3 _ _ ‹_› ‹_›).2|show(b3 _ _ ‹_› ‹_›).1
theorem ly.dt(h:ly D bu H v x):ly D fk ab v x:=by apply ly.rec (motive_1:=λv x q=>da D fk ab v x) (motive_2:=λv x q=>lV D fk ab v x) (motive_3:=λv x q=>ly D fk ab v x) (motive_4:=λv x q=>jq D fk ab v x) (motive_5:=λv x q=>iE D fk ab v x) (t:=h)<;>intros<;>constructor<;>first|assumption|show dh.dt b3 ‹_›|show jp.dt b3 ‹_›|show(b3 _ _ ‹_› ‹_›).2|show(b3 _ _ ‹_› ‹_›).1
theorem jq.dt(h:jq D bu H v x):jq D fk ab v x:=by apply jq.rec (motive_1:=λv x q=>da D fk ab v x) (motive_2:=λv x q=>lV D fk ab v x) (motive_3:=λv x q=>ly D fk ab v x) (motive_4:=λv x q=>jq D fk ab v x) (motive_5:=λv x q=>iE D fk ab v x) (t:=h)<;>intros<;>constructor<;>first|assumption|show dh.dt b3 ‹_›|show jp.dt b3 ‹_›|show(b3 _ _ ‹_› ‹_›).2|show(b3 _ _ ‹_› ‹_›).1
theorem iE.dt(h:iE D bu H v x):iE D fk ab v x:=by apply iE.rec (motive_1:=λv x q=>da D fk ab v x) (motive_2:=λv x q=>lV D fk ab v x) (motive_3:=λv x q=>ly D fk ab v x) (motive_4:=λv x q=>jq D fk ab v x) (motive_5:=λv x q=>iE D fk ab v x) (t:=h)<;>intros<;>constructor<;>first|assumption|show dh.dt b3 ‹_›|show jp.dt b3 ‹_›|show(b3 _ _ ‹_› ‹_›).2|show(b3 _ _ ‹_› ‹_›).1
end
def Vu(l:List Tk)(j:Nat)(t:Tk):Sn24.eat t (l.drop j)=if l[j]?=Y t then Y (l.drop<|j+1)else none:=by
 rw[vf]
 cases q:l[j]? with
 |none=>rfl
 |some u=>
  show(if u=t then Y (l.drop<|j+1)else U)=if Y u=Y t then _ else _;by_cases z:u=t
  .rw[aR z,aR<|by rw[z]]
  .rw[aM z,aM λw=>z<|iX w]
def g7{l:List Tk}{j:Nat}{t:Tk}(h:l[j]?=Y t):Sn24.eat t (l.drop j)=Y (l.drop<|j+1):=by rw[Vu,aR h]
def gJ{l:List Tk}{j:Nat}{t:Tk}(h:l[j]?≠Y t):Sn24.eat t (l.drop j)=none:=by rw[Vu,aM h]
def vh{l:List Tk}{j:Nat}{y:br}(h:l[j]?=Y (.name y))(k:Sn24.kept.contains y=J):fu (l.drop j)=Y (y,l.drop<|j+1):=by rw[vf,h];show(if Sn24.kept.contains y=O then U else Y y).map _=_;rw[k];rfl
def xm{l:List Tk}{j:Nat}(h:ve l[j]?=J):fu (l.drop j)=none:=by
 rw[vf]
 cases q:l[j]? with
 |none=>rfl
 |some u=>
  cases u with
  |num n=>rfl
  |sign s=>rfl
  |name y=>
   rw[q]at h;let h:Sn24.kept.contains y=true:=by simpa [ve] using h
   show(if Sn24.kept.contains y=O then U else Y y).map _=_;rw[aR h];rfl
def d1(D:ej)(G:gf)(H:aw)(S:Sc)(n:Nat)(ai:List (br×fU))(Q:ck)(E:dG):Option (gW×List Tk)->Prop
 |none=>gd E<|-3
 |some (t,aT)=>∀v a x j b,G.aX.drop j=aT->bh G.M H a->Rs D a G j S b ai->da D (eA H) a v x->gM S n t x b->Q v a
inductive y5(D:ej)(f:Nat->List Tk->Option (gW×List Tk))(ac:List V)(H:aw)(Q:ck)(E:dG):Prop
 |mk (G:gf) (i:Nat) (S:Sc) (n:Nat) (ai:List (br×fU)) (bi:Nat) (_:ac=[.ref G.r,.int (bi:Nat)]) (_:Rs D H G i S n ai) (_:d1 D G H S n ai Q E (f bi<|G.aX.drop i)):y5 D f ac H Q E
inductive Vv(D:ej)(ac:List V)(H:aw)(Q:ck)(E:dG):Prop
 |mk (G:gf) (i:Nat) (S:Sc) (n:Nat) (ai:List (br×fU)) (_:ac=[.ref G.r]) (_:Rs D H G i S n ai) (_:EQ D 201 G H S n ai Q E (gj 0 1<|G.aX.drop i)):Vv D ac H Q E
def iF:Nat:=207
theorem Vw:
  ∀m L:Nat,L+m=100->bX (5+2*m) 81 (xk D L)/\bX (6+2*m) 80 (y3 D L)
 |0,L,e=>by
  let c:bX 5 81 (xk D L):=Vj (bK 4) (λz=>by lia) λz=>by lia
  show#[c,Vt aV c λz=>by lia]
 |m+1,L,e=>by let#[a,b]:=Vw m (L+1) aV;let c:=Vj aV (λq=>a.up) λq=>b;show#[by rwa[show 5+2*(m+1)=6+2*m+1 by lia],?_];rw[show 6+2*(m+1)=(6+2*m+1)+1 by lia];show Vt aV c λq=>b.up
def Bb:bX iF 79 (Vv D):=by show ek 79 ["reader"] λc A bc s H ac Q E b a h=>?_;let#[G,i,S,n,ai,rfl,R,q]:=h;show#[_,aP<|cS<|cP aQ<|fX (aa 0)<|cH cE cE,?_];show cm (T.t 80 Z) ?_;show#[9,dk (Vw 100 0 Z).2 a #[G,i,S,n,ai,0,0,bK _,Z,R,q]]
noncomputable def Vx(t:gW)(l:List Tk):Option (gW×List Tk):=(Sn24.eat (a7 ";") l).map λr=>(t,r)
def ag6(c:br->gW)(l:List Tk):Option (gW×List Tk):=(fu l).bind λx=>(Sn24.eat (a7 ";") x.2).map λr=>(c x.1,r)
def ag7(l:List Tk):Option (gW×List Tk):=(q3 l).bind λv=>(Sn24.eat (a7 ";") v.2).map λr=>(.print v.1,r)
def ag8:bX 5 131 (y5 D λw=>Vx .skip):=by
 show ek 131 ["reader","level"] λj A bc s H ac Q E l g h=>?_;let#[G,i,S,n,ai,bi,rfl,R,q]:=h;show#[_,aU (cU<|c4 aQ (aa 0)<|bo fc)<|aP<|cS<|pR aQ ea,?_];let q:d1 D G H S n ai Q E ((Sn24.eat (a7 ";")<|G.aX.drop i).map λr=>(.skip,r)):=q;show j7 (ascii ";") Z R g (λe f=>?_) λe=>?_
 .rw[g7 (t:=a7 ";") e]at q;show cm (T.c 19).2 ?_;show vb T.Mb T.Mc g.bH λa m b d k=>q _ _ _ (i+1) n Z ((Rs.de<|i+1).bw<|bh.dJ b d) (f.eS<|bh.dJ b d) (.d3 (eA.eX (Rs.de<|i+1) f.dT b) hz) .d3
 .rw[gJ (t:=a7 ";") e]at q;show q
def ag9:bX 5 132 (y5 D λw=>Vx .halt_):=by
 show ek 132 ["reader","level"] λj A bc s H ac Q E l g h=>?_;let#[G,i,S,n,ai,bi,rfl,R,q]:=h;show#[_,aU (cU<|c4 aQ (aa 0)<|bo fc)<|aP<|cS<|pR aQ ea,?_];let q:d1 D G H S n ai Q E ((Sn24.eat (a7 ";")<|G.aX.drop i).map λr=>(.halt_,r)):=q;show j7 (ascii ";") Z R g (λe f=>?_) λe=>?_
 .rw[g7 (t:=a7 ";") e]at q;show cm (T.c 20).2 ?_;show vb T.aeb T.aec g.bH λa m b d k=>q _ _ _ (i+1) n Z ((Rs.de<|i+1).bw<|bh.dJ b d) (f.eS<|bh.dJ b d) (.oH (eA.eX (Rs.de<|i+1) f.dT b) hz) .oH
 .rw[gJ (t:=a7 ";") e]at q;show q
def Vy{c:br->gW}(k:∀S n y,gM S n (c y) .d3 n):bX 5 130 (y5 D λw=>ag6 c):=by
 show ek 130 ["reader","level"] λl A bc s H ac Q E o d h=>?_;let#[G,i,S,n,ai,bi,rfl,R,q]:=h;show#[_,aU (cU<|jo aQ<|aa 0)<|aU (cU<|c4 aQ (aa 0)<|bo fc)<|aP<|cS<|pR aQ ea,tW Z R d (λy e j g=>?_) λz=>?_]
 .let q:d1 D G H S n ai Q E ((fu<|G.aX.drop i).bind λx=>(Sn24.eat (a7 ";") x.2).map λr=>(c x.1,r)):=q;rw[vh e j]at q;let q:d1 D G H S n ai Q E ((Sn24.eat (a7 ";")<|G.aX.drop<|i+1).map λr=>(c y,r)):=q;show j7 (ascii ";") Z g d (λe dB=>?_) λe=>?_
  .rw[g7 (t:=a7 ";") e]at q;show cm (T.c 19).2 ?_;let ext:bh G.M H _:=(Rs.de (i+1)).bw (Rs.de (i+1+1));show vb T.Mb T.Mc d.bH λa p b f m=>q _ _ _ (i+1+1) n Z (ext.bw<|bh.dJ b f) (dB.eS<|bh.dJ b f) (.d3 (eA.eX ext dB.dT b) hz)<|k S n y
  .rw[gJ (t:=a7 ";") e]at q;show q
 .let q:d1 D G H S n ai Q E ((fu<|G.aX.drop i).bind λx=>(Sn24.eat (a7 ";") x.2).map λr=>(c x.1,r)):=q;rwa[xm z]at q
def aha:bX (iF+1) 133 (y5 D λW=>ag7):=by
 show ek 133 ["reader","level","expression"] λI A bc s H ac Q E B g h=>?_
 let#[G,i,S,n,ai,bi,rfl,R,q]:=h
 show#[_,aU (dr 2 B<|cP aQ<|bo<|aa 0)<|aU (cU<|c4 aQ (aa 0)<|bo fc)<|aP<|cS<|cP aQ<|bo<|aa 2,?_]
 show cm (T.t 79 Z) ?_
 show#[9,dk Bb g #[G,i,S,n,ai,Z,R,?_]]
 let q:d1 D G H S n ai Q E ((gj 0 1<|G.aX.drop i).bind λv=>(Sn24.eat (a7 ";") v.2).map λr=>(.print v.1,r)):=q
 cases u:gj 0 1 (G.aX.drop i)with
 |none=>rwa[u]at q
 |some w=>
  let#[p,aT]:=w;rw[u]at q;intro v H1 x j C ext y F l;let q:d1 D G H S n ai Q E ((Sn24.eat (a7 ";") aT).map λr=>(.print p,r)):=q;rw[<-C]at q;show j7 (ascii ";") Z y g.bH (λe dB=>?_) λe=>?_
  .rw[g7 (t:=a7 ";") e]at q;show cm (T.c 25).2 ?_;show#[9,?_];let k:=ext.bw<|Rs.de<|j+1;show kT T.aev (af9) g.bH Z λa M d f K=>(q _ _ _ (j+1) n Z (k.bw<|bh.dJ d f) (dB.eS<|bh.dJ d f) (.l4 (eA.eX k dB.dT d) hz<|F.cI (λW z=>z) λb o ae z=>gV (Rs.de (j+1) b o z λm=>R.dT b m ae) d f)<|.l4 #[l.1,?_,l.2]);have:=J3 u;let L:=R.eM;rw[ho]at this;show hF p<=100000;lia
  .rw[gJ (t:=a7 ";") e]at q;show q
def MO:bX (iF+1) 135 (λac H Q E=>∃G i S n ai,ac=[.ref G.r]/\Rs D H G i S n ai/\EQ D 201 G H S n ai Q E (pk<|G.aX.drop i)):=by
 show ek 135 ["reader","condition"] λy A bc s H ac Q E k a h=>?_;let#[G,i,S,n,ai,rfl,R,q]:=h;show#[_,aU (cU<|c4 aQ (aa 0)<|bo fc)<|aU (dr 1 k<|cP aQ<|bo<|aa 0)<|aU (cU<|c4 aQ (aa 0)<|bo fc)<|aP<|cS<|aa 1,?_];let q:EQ D 201 G H S n ai Q E ((Sn24.eat (a7 "(")<|G.aX.drop i).bind λr=>(gj 0 1 r).bind λx=>(Sn24.eat (a7 ")") x.2).map λr=>(x.1,r)):=q;show j7 (ascii "(") Z R a.bH (λe c=>?_) λe=>?_
 .rw[g7 (t:=a7 "(") e]at q
  let q:EQ D 201 G H S n ai Q E ((gj 0 1<|G.aX.drop<|i+1).bind λx=>(Sn24.eat (a7 ")") x.2).map λr=>(x.1,r)):=q
  show cm (T.t 79 Z) ?_
  show#[9,dk Bb a #[G,i+1,S,n,ai,Z,c,?_]]
  cases u:gj 0 1 (G.aX.drop<|i+1)with
  |none=>rwa[u]at q
  |some d=>
   let#[g,aT]:=d;rw[u]at q;intro v H1 x j p ext dB w f;let q:EQ D 201 G H S n ai Q E ((Sn24.eat (a7 ")") aT).map λr=>(g,r)):=q;rw[<-p]at q;show j7 (ascii ")") Z dB a.bH (λe l=>?_) λe=>?_
   .rw[g7 (t:=a7 ")") e]at q;show#[9,q v _ x (j+1) Z (((Rs.de<|i+1).bw ext).bw<|Rs.de<|j+1) l ((w.eX (Rs.de<|i+1) c.dT).cI (λW z=>z) λb o ae z=>Rs.de (G:=G) (j+1) b o z λm=>R.dT b m ae) f]
   .rw[gJ (t:=a7 ")") e]at q;show q
 .rw[gJ (t:=a7 "(") e]at q;show q
def HD(h:ke S e x/\eJ x<=201)(u:gj d p l=Y (e,r))(len:z9 l<=65536):lD S e x:=#[h.1,by have:=J3 u;show hF e<=100000;lia,h.2]
def xn(R:Rs D H G i S n ai)(j:Nat):(G.aX.drop j).length<=65536:=by rw[ho];have:=R.eM;lia
def xo(c:br->nW->gW)(s:String)(y:br)(l:List Tk):Option (gW×List Tk):=(Sn24.eat (a7 s) l).bind λr=>(gj 0 1 r).map λv=>(c y v.1,v.2)
def ahb:bX (iF+1) 126 (λac H Q E=>∃G i S n ai y,ac=[.ref G.r,.str<|cZ y]/\Rs D H G i S n ai/\d1 D G H S n ai Q E (xo .put "=" y<|G.aX.drop i)):=by
 show ek 126 ["reader","name","cell","expression"] λL A bc s H ac Q E m k h=>?_;let#[G,i,S,n,ai,y,rfl,R,q]:=h;show#[_,aU (cU<|c4 aQ (aa 0)<|bo fc)<|aU (dr 2 m<|c4 aQ (bV<|aa 0)<|cH (aa 1) ea)<|aU (dr 3 m<|cP aQ<|bo<|aa 0)<|aP<|cS<|oT (d9 su (aa 2) lL) (pR aQ ea)<|cP aQ<|cH (aa 2)<|aa 3,?_];let q:d1 D G H S n ai Q E ((Sn24.eat (a7 "=")<|G.aX.drop i).bind λr=>(gj 0 1 r).map λv=>(.put y v.1,v.2)):=q;show j7 (ascii "=") Z R k.bH (λe g=>?_) λe=>?_
 .rw[g7 (t:=a7 "=") e]at q
  let q:d1 D G H S n ai Q E ((gj 0 1<|G.aX.drop<|i+1).map λv=>(.put y v.1,v.2)):=q
  show#[9,8,g.bG.ob,aI,T.n 6 2,Z,8,g.sc.ob,aI,T.w8,Z,9,oj T.AY #[1,7,#[xi],k.bH,G.sc,G.ds,G.cQ,G.ak,S,n,ai,y,J,Z,g.sc,?_]]
  show cm (T.t 79 Z) ?_
  show#[9,dk Bb k #[G,i+1,S,n,ai,Z,g,?_]]
  cases u:gj 0 1 (G.aX.drop<|i+1)with
  |none=>rwa[u]at q
  |some w=>
   let#[F,aT]:=w
   rw[u]at q
   intro v H1 x j p ext dB K C
   let l:bh G.M H H1:=(Rs.de<|i+1).bw ext
   let q:d1 D G H S n ai Q E (Y (.put y F,aT)):=q
   show#[9,Z,9,?_]
   cases o:S.of J y with
   |none=>show dw ?_;show cm (T.c 21).2 ?_;show vb T.Md T.Me k.bH λa I d f B=>q _ _ _ j n p (l.bw<|bh.dJ d f) (dB.eS<|bh.dJ d f) (.qe (eA.eX l dB.dT d) hz)<|.Qq o
   |some N=>show di ?_;show cm (T.c 22).2 ?_;show#[9,9,kT T.aej (af6) k.bH Z λa I d f B=>q _ _ _ j n p (l.bw<|bh.dJ d f) (dB.eS<|bh.dJ d f) (.r7 (eA.eX l dB.dT d) hz<|(K.eX (Rs.de<|i+1) g.dT).cI (λW z=>z) λb o W z=>gV z d f)<|.gm o<|HD C u<|xn R _]
 .rw[gJ (t:=a7 "=") e]at q;show q
def ahc:bX (iF+1) 127 (λac H Q E=>∃G i S n ai y,ac=[.ref G.r,.str<|cZ y]/\Rs D H G i S n ai/\d1 D G H S n ai Q E (xo .send "!" y<|G.aX.drop i)):=by
 show ek 127 ["reader","name","channel","expression"] λL A bc s H ac Q E m k h=>?_;let#[G,i,S,n,ai,y,rfl,R,q]:=h;show#[_,aU (cU<|c4 aQ (aa 0)<|bo fc)<|aU (dr 2 m<|c4 aQ (bV<|aa 0)<|cH (aa 1) ea)<|aU (dr 3 m<|cP aQ<|bo<|aa 0)<|aP<|cS<|oT (d9 su (aa 2) lL) (pR aQ ea)<|cP aQ<|cH (aa 2)<|aa 3,?_];let q:d1 D G H S n ai Q E ((Sn24.eat (a7 "!")<|G.aX.drop i).bind λr=>(gj 0 1 r).map λv=>(.send y v.1,v.2)):=q;show j7 (ascii "!") Z R k.bH (λe g=>?_) λe=>?_
 .rw[g7 (t:=a7 "!") e]at q
  let q:d1 D G H S n ai Q E ((gj 0 1<|G.aX.drop<|i+1).map λv=>(.send y v.1,v.2)):=q
  show#[9,8,g.bG.ob,aI,T.n 6 2,Z,8,g.sc.ob,aI,T.w8,Z,9,oj T.yZ #[1,7,#[xi],k.bH,G.sc,G.ds,G.cQ,G.ak,S,n,ai,y,O,Z,g.sc,?_]]
  show cm (T.t 79 Z) ?_
  show#[9,dk Bb k #[G,i+1,S,n,ai,Z,g,?_]]
  cases u:gj 0 1 (G.aX.drop<|i+1)with
  |none=>rwa[u]at q
  |some w=>
   let#[F,aT]:=w
   rw[u]at q
   intro v H1 x j p ext dB K C
   let l:bh G.M H H1:=(Rs.de<|i+1).bw ext
   let q:d1 D G H S n ai Q E (Y (.send y F,aT)):=q
   show#[9,Z,9,?_]
   cases o:S.of O y with
   |none=>show dw ?_;show cm (T.c 21).2 ?_;show vb T.Md T.Me k.bH λa I d f B=>q _ _ _ j n p (l.bw<|bh.dJ d f) (dB.eS<|bh.dJ d f) (.qe (eA.eX l dB.dT d) hz)<|.Qr o
   |some N=>show di ?_;show cm (T.c 23).2 ?_;show#[9,9,kT T.aen (af7) k.bH Z λa I d f B=>q _ _ _ j n p (l.bw<|bh.dJ d f) (dB.eS<|bh.dJ d f) (.h5 (eA.eX l dB.dT d) hz<|(K.eX (Rs.de<|i+1) g.dT).cI (λW z=>z) λb o W z=>gV z d f)<|.h5 o<|HD C u<|xn R _]
 .rw[gJ (t:=a7 "!") e]at q;show q
noncomputable def y6(l:List Tk):Option (br×List Tk):=(Sn24.eat (a7 "?") l).bind fu
def MP(D:ej)(G:gf)(H:aw)(S:Sc)(n:Nat)(ai:List (br×fU))(Q:ck)(E:dG):Option (br×List Tk)->Prop
 |none=>gd E<|-3
 |some (z,aT)=>∀b j,G.aX.drop j=aT->bh G.M H b->(∀a,b a=U->H a=U)->Rs D b G j S n ai->Q (tT<|S.of J z) b
def Vz(h:hA D H r cN a3 sc i a=U):H a=none:=by
 unfold hA aE at h;split at h
 .cases h
 .show h
namespace MQ
def bN:Ho.gf×Nat×Ho.Sc×Nat×List (br×Ho.fU)->dC:=λ(G,i,S,n,ai)=>dZ [.ref G.r] λH Q E=>Rs D H G i S n ai/\MP D G H S n ai Q E (y6<|G.aX.drop i)
def W:=dR 129 ["reader"] (λq=>4) bN
def G:=W.a
def i:=W.b
def t:=fj W (G,i,W.c,W.d,W.l) W.H W.Q W.E λj f h=>by
 let#[R,q]:=h;show#[_,aU (cU<|c4 aQ (aa 0)<|bo fc)<|aP<|cS<|c4 aQ (bV<|aa 0)<|cH (jo aQ<|aa 0) ea,?_];let q:MP D G W.H W.c W.d W.l W.Q W.E ((Sn24.eat (a7 "?")<|G.aX.drop i).bind fu):=q;show j7 (ascii "?") Z R f.bH (λe b=>?_) λe=>?_
 .rw[g7 (t:=a7 "?") e]at q;let q:MP D G W.H W.c W.d W.l W.Q W.E (fu<|G.aX.drop<|i+1):=q;show#[9,8,b.bG.ob,aI,T.n 6 2,Z,8,b.sc.ob,aI,T.w8,Z,tW Z b f (λy e g dB=>?_) λz=>?_]
  .rw[vh e g]at q;show oj T.AY #[1,7,#[xi],f.bH,G.sc,G.ds,G.cQ,G.ak,W.c,W.d,W.l,y,J,Z,dB.sc,q _ (i+1+1) Z ((Rs.de<|i+1).bw<|Rs.de<|i+1+1) (λa z=>Vz<|Vz z) dB]
  .rw[xm z]at q;show q
 .rw[gJ (t:=a7 "?") e]at q;show q
end MQ
def HE(y:br)(l:List Tk):Option (gW×List Tk):=(y6 l).map λz=>(.take y z.1,z.2)
namespace VA
def bN:Ho.gf×Nat×Ho.Sc×Nat×List (br×Ho.fU)×br->dC:=λ(G,i,S,n,ai,y)=>dZ [.ref G.r,.str<|cZ y] λH Q E=>Rs D H G i S n ai/\d1 D G H S n ai Q E (HE y<|G.aX.drop i)
def W:=dR 128 ["reader","name","channel","cell"] (λq=>5) bN
def G:=W.a
def S:=W.c
def n:=W.d
def ai:=W.e
def y:=W.m
def t:=fj W (G,W.b,S,n,ai,y) W.H W.Q W.E λk g h=>by
 let#[R,q]:=h
 show#[_,aU (dr 2 k<|c4 aQ (bV<|aa 0)<|cH (aa 1) ea)<|aU (dr 3 k<|cP aQ<|bo<|aa 0)<|aP<|cS<|oT (me.pt<|Ar (d9 su (aa 2) lL)<|Ap<|d9 su (aa 3) lL) (pR aQ ea)<|cP aQ<|cH (aa 2)<|aa 3,#[9,8,R.bG.ob,aI,T.n 6 2,Z,8,R.sc.ob,aI,T.w8,Z,9,oj T.yZ #[1,7,#[xi],g.bH,G.sc,G.ds,G.cQ,G.ak,S,n,ai,y,O,Z,R.sc,?_]]]
 show cm (T.t 129 Z) ?_
 show#[9,dk (MQ.t) g #[(G,W.b,S,n,ai),Z,R,?_]]
 let q:d1 D G W.H S n ai W.Q W.E ((y6<|G.aX.drop W.b).map λz=>(.take y z.1,z.2)):=q
 cases u:y6 (G.aX.drop W.b)with
 |none=>rwa[u]at q
 |some v=>
  let#[z,aT]:=v
  rw[u]at q
  intro H1 j m ext r p
  let q:d1 D G W.H S n ai W.Q W.E (Y (.take y z,aT)):=q
  show#[9,Z,9,?_]
  let f:(S.of O y=U\/S.of J z=U)->∀{l:L2.St},yU (rC 128 W) (eV P w b8) W.E (sC (rC 128 W) "WrongStatement") kP l H1 W.Q:=λb l=>by show cm (T.c 21).2 ?_;show vb T.Md T.Me g.bH λa s d e x=>q _ _ _ j n m (ext.bw<|bh.dJ d e) (p.eS<|bh.dJ d e) (.qe (r _ d) hz)<|.Qs b
  cases o:S.of O y with
  |none=>show dw<|dw<|f<|.inl o
  |some sc=>
   show di #[9,Z,9,?_]
   cases i:S.of J z with
   |none=>show dw<|f<|.inr i
   |some A=>show di ?_;show cm (T.c 24).2 ?_;show#[9,9,kT T.aer (af8) g.bH Z λa s d e x=>q _ _ _ j n m (ext.bw<|bh.dJ d e) (p.eS<|bh.dJ d e) (.du (r _ d) hz)<|.du o i]
end VA
def HF(o:Option (gW×List Tk)):Option (gW×List Tk):=o.bind λx=>(Sn24.eat (a7 ";") x.2).map λr=>(x.1,r)
def ahd(y:br)(r:List Tk):r6 y (a7 "="::r)=HF (xo .put "=" y (a7 "="::r)):=by let a:xo .put "=" y (a7 "="::r)=(gj 0 1 r).map λv=>(.put y v.1,v.2):=rfl;let b:r6 y (a7 "="::r)=(gj 0 1 r).bind λv=>(Sn24.eat (a7 ";") v.2).map λr=>(.put y v.1,r):=rfl;rw[a,b];cases gj 0 1 r<;>rfl
def ahe(y:br)(r:List Tk):r6 y (a7 "!"::r)=HF (xo .send "!" y (a7 "!"::r)):=by let a:xo .send "!" y (a7 "!"::r)=(gj 0 1 r).map λv=>(.send y v.1,v.2):=rfl;let b:r6 y (a7 "!"::r)=(gj 0 1 r).bind λv=>(Sn24.eat (a7 ";") v.2).map λr=>(.send y v.1,r):=rfl;rw[a,b];cases gj 0 1 r<;>rfl
def ahf(y:br)(l:List Tk)(h1:l.head?≠Y (a7 "="))(c:l.head?≠Y (a7 "!")):r6 y l=HF (HE y l):=by
 cases l with
 |nil=>rfl
 |cons u r=>
  let b:r6 y (u::r)=if u=a7 "=" then (q3 r).bind λv=>(Sn24.eat (a7 ";") v.2).map λr=>(.put y v.1,r)
   else if u=a7 "!" then (q3 r).bind λv=>(Sn24.eat (a7 ";") v.2).map λr=>(.send y v.1,r)
   else if u=a7 "?" then (fu r).bind λz=>(Sn24.eat (a7 ";") z.2).map λr=>(.take y z.1,r)else none:=rfl
  rw[b,aM (λz=>h1 (by rw[z];rfl)),aM λz=>c (by rw[z];rfl)];let a:HE y (u::r)=((if u=a7 "?" then Y r else U).bind fu).map λz=>(.take y z.1,z.2):=rfl;rw[a];by_cases z:u=a7 "?"
  .rw[aR z,aR z];show(fu r).bind _=HF ((fu r).map _);cases fu r<;>rfl
  .rw[aM z,aM z];rfl
def MR(l:List Tk):Option (gW×List Tk):=(fu l).bind λx=>r6 x.1 x.2
namespace VB
def bN:gf×Nat×Sc×Nat×List (br×fU)->dC:=λ(G,i,S,n,ai)=>dZ [.ref G.r] λH Q E=>Rs D H G i S n ai/\d1 D G H S n ai Q E (MR<|G.aX.drop i)
def W:=dR 125 ["reader","name","sign","statement"] (λq=>iF+1) bN
def G:=W.a
def i:=W.b
def S:=W.c
def n:=W.d
def ai:=W.l
def H:=W.H
def Q:=W.Q
def E:=W.E
def t:=fj W (G,i,S,n,ai) H Q E λl d h=>by
 let#[R,q]:=h;show#[_,aU (dr 1 l<|jo aQ<|aa 0)<|aU (dr 2 l<|jo aQ<|aa 0)<|aU (ed (d9 lM (aa 2) fc) (aP<|dr 3 l<|cP aQ<|cH (aa 0)<|aa 1)<|aP<|ed (d9 lM (aa 2) fc) (aP<|dr 3 l<|cP aQ<|cH (aa 0)<|aa 1)<|aP<|dr 3 l<|cP aQ<|cH (aa 0)<|aa 1)<|aU (cU<|c4 aQ (aa 0)<|bo fc)<|aP<|cS<|aa 3,?_];let q:d1 D G H S n ai Q E ((fu<|G.aX.drop i).bind λx=>r6 x.1 x.2):=q;show tW Z R d.bH (λy e I a=>?_) λz=>?_
 .rw[vh e I]at q;let q:d1 D G H S n ai Q E (r6 y<|G.aX.drop<|i+1):=q;show A5 Z a d.bH #[9,Z,9,iR (λz=>?_) λz=>?_]
  .let g:G.aX[i+1]?=Y (a7 "="):=(sM (s:=ascii "=") a.lw eH).mp (show j6 G.aX[i+1]?=("=":Str)by simpa using z)
   rw[a.rE g,ahd,<-a.rE g]at q
   show cm (T.t 126 Z) ?_
   show#[9,9,dk (ahb) d #[G,i+1,S,n,ai,y,Z,a,?_]]
   cases u:xo .put "=" y (G.aX.drop<|i+1)with
   |none=>rwa[u]at q
   |some fz=>
    let#[t,aT]:=fz;rw[u]at q;let q:d1 D G H S n ai Q E ((Sn24.eat (a7 ";") aT).map λr=>(t,r)):=q;intro v H1 x j f A ext dB B k;rw[<-A]at q;show j7 (ascii ";") Z dB d.bH (λc p=>?_) λc=>?_
    .rw[g7 (t:=a7 ";") c]at q;show#[9,q v _ x (j+1) f Z (((Rs.de<|i+1).bw ext).bw<|Rs.de<|j+1) p (da.dt (λb o ae z=>#[eA.eX (Rs.de<|i+1) a.dT ae,Rs.de (G:=G) (j+1) b o z λm=>a.dT b m ae]) B) k]
    .rw[gJ (t:=a7 ";") c]at q;show q
  .let F:G.aX[i+1]?≠Y (a7 "="):=λw=>z (by have:=(sM (s:=ascii "=") a.lw eH).mpr w;rw[this];rfl)
   show#[9,Z,9,iR (λC=>?_) λC=>?_]
   .let g:G.aX[i+1]?=Y (a7 "!"):=(sM (s:=ascii "!") a.lw eH).mp (show j6 G.aX[i+1]?=("!":Str)by simpa using C)
    rw[a.rE g,ahe,<-a.rE g]at q
    show cm (T.t 127 Z) ?_
    show#[9,9,dk (ahc) d #[G,i+1,S,n,ai,y,Z,a,?_]]
    cases u:xo .send "!" y (G.aX.drop<|i+1)with
    |none=>rwa[u]at q
    |some fz=>
     let#[t,aT]:=fz;rw[u]at q;let q:d1 D G H S n ai Q E ((Sn24.eat (a7 ";") aT).map λr=>(t,r)):=q;intro v H1 x j f A ext dB B k;rw[<-A]at q;show j7 (ascii ";") Z dB d.bH (λc p=>?_) λc=>?_
     .rw[g7 (t:=a7 ";") c]at q;show#[9,q v _ x (j+1) f Z (((Rs.de<|i+1).bw ext).bw<|Rs.de<|j+1) p (da.dt (λb o ae z=>#[eA.eX (Rs.de<|i+1) a.dT ae,Rs.de (G:=G) (j+1) b o z λm=>a.dT b m ae]) B) k]
     .rw[gJ (t:=a7 ";") c]at q;show q
   .let K:G.aX[i+1]?≠Y (a7 "!"):=λw=>C (by have:=(sM (s:=ascii "!") a.lw eH).mpr w;rw[this];rfl)
    rw[ahf y _ (by rwa[xT]) (by rwa[xT])]at q
    show cm (T.t 128 Z) ?_
    show#[9,9,dk (VA.t) d.bH #[(G,i+1,S,n,ai,y),Z,a,?_]]
    cases u:HE y (G.aX.drop<|i+1)with
    |none=>rwa[u]at q
    |some fz=>
     let#[t,aT]:=fz;rw[u]at q;let q:d1 D G H S n ai Q E ((Sn24.eat (a7 ";") aT).map λr=>(t,r)):=q;intro v H1 x j f A ext dB B k;rw[<-A]at q;show j7 (ascii ";") Z dB d.bH (λc p=>?_) λc=>?_
     .rw[g7 (t:=a7 ";") c]at q;show#[9,q v _ x (j+1) f Z (((Rs.de<|i+1).bw ext).bw<|Rs.de<|j+1) p (da.dt (λb o ae z=>#[eA.eX (Rs.de<|i+1) a.dT ae,Rs.de (G:=G) (j+1) b o z λm=>a.dT b m ae]) B) k]
     .rw[gJ (t:=a7 ";") c]at q;show q
 .rw[xm z]at q;show q
end VB
def o9(es:List nW)(l:List Tk):Option (List nW×List Tk):=match Sn24.eat (a7 ")") l with
 |some r=>Y (es,r)
 |none=>(Sn24.eat (a7 ",") l).bind λr=>(l3 J r).map λy=>(es++y.1,y.2)
def MS(l:List Tk):l3 J l=(gj 0 1 l).bind λx=>o9 [x.1] x.2:=by rw[Fu];rfl
def VC(l:List Tk):l3 O l=match Sn24.eat (a7 ")") l with
  |some r=>Y ([],r)
  |none=>l3 J l:=by
 rw[Fu,MS]
 show(match Sn24.eat (a7 ")") l with|some r=>_|none=>_)=_
 cases Sn24.eat (a7 ")") l<;>rfl
def ahg(h1:Sn24.eat (a7 ")") l=U) (a:Sn24.eat (a7 ",") l=Y r):o9 es l=(gj 0 1 r).bind λx=>o9 (es++[x.1]) x.2:=by
 unfold o9
 rw[h1,a]
 show(l3 J r).map _=_
 rw[MS]
 cases gj 0 1 r with
 |none=>rfl
 |some x=>
  show(o9 [x.1] x.2).map _=o9 (es++[x.1]) x.2
  unfold o9
  cases Sn24.eat (a7 ")") x.2 with
  |some r=>rfl
  |none=>
   show((Sn24.eat (a7 ",") x.2).bind _).map _=(Sn24.eat (a7 ",") x.2).bind _
   cases Sn24.eat (a7 ",") x.2 with
   |none=>rfl
   |some r=>show((l3 J r).map _).map _=(l3 J r).map _;cases l3 J r<;>simp
def jp.m2:∀{c:List V}{m:List ba}{v:V}{x:ba},jp D bu H c m->dh D bu H v x->jp D bu H (c++[v]) (m++[x]):=by
 intro c m v x h e
 induction c generalizing m with
 |nil=>cases h;show .cB e .dg
 |cons _ _ d=>
  cases h with
  |cB a b=>show .cB a<|d b
def qg.m2:∀{l:List nW}{m:List ba}{e:nW}{x:ba},qg S l m->lD S e x->qg S (l++[e]) (m++[x]):=by
 intro l m e x h k
 induction l generalizing m with
 |nil=>cases h;show .cB k.1 k.2 .dg
 |cons _ _ d=>
  cases h with
  |cB a b c=>show .cB a b<|d c
def Rs.pz{G:gf}{i n:Nat}{S:Sc}{ai:List (br×fU)}{pl:ao}{h:List V}(R:Rs D H G i S n ai)(c:H pl=Y (.bq h))(cb:pl∉G.M)(n2:G.a3≠pl)(f:∀b o,H b=Y o->b≠pl->ab b=Y o):Rs D ab G i S n ai:=by let k:eW H ab:=λb xs z=>f b _ z (iL z c (by intro w;cases w));let a:∀{b ob},H b=Y ob->b≠pl->ab b=H b:=λ{b ob} z e=>(f b ob z e).trans z.symm;let#[av,g,q]:=R.sc.sn;let#[l,cf,q]:=R.sc.hd;let#[j,d,q]:=id R.bG.jK;show#[#[(a R.bG.ob λw=>cb (by rw[<-w];simp)).trans R.bG.ob,R.bG.jK.ee k<|a d n2,R.bG.le],R.sc.ee k (a R.sc.ob λw=>cb (by rw[<-w];simp)) (a g λw=>cb (by rw[<-w];simp)) (a cf λw=>cb (by rw[<-w];simp)),R.ne,R.my,R.eM,R.ok]
abbrev rF(H:aw)(pl:ao):ao->Prop:=λa=>H a=U/\a≠pl
structure kX(D:ej)(H:aw)(G:gf)(pl:ao)(H1:aw)(lv:List V)(j:Nat)(S:Sc)(n:Nat)(ai:List (br×fU)):Prop where
 Ba:∀b∈G.M,H b≠U
 sN:H G.a3≠U
 nl:H pl=U
 hl:H1 pl=Y (.bq lv)
 eS:bh G.M H H1
 R:Rs D H1 G j S n ai
 eM:z9 lv<=j
section
variable {H H1 ay:aw}{G:gf}{pl:ao}{lv:List V}
def kX.i3(B:kX D H G pl H1 lv j S n ai)(h:H a=U):a∉G.M:=λm=>B.Ba a m h
def kX.xp(B:kX D H G pl H1 lv j S n ai)(ext:bh G.M H1 ay)(R:Rs D ay G y7 lx n' gu)(lt:j<y7)(v:V):
  ay pl=Y (.bq lv)/\z9 lv<sizeLine/\kX D H G pl (aE ay pl<|.bq<|lv++[v]) (lv++[v]) y7 lx n' gu/\
  (∀b o,rF H pl b->H1 b=Y o->rF H pl b/\aE ay pl (.bq<|lv++[v]) b=Y o)/\∀b o,eA H1 b->ay b=Y o->rF H pl b/\aE ay pl (.bq<|lv++[v]) b=Y o:=by
 let d:ay pl=Y (.bq lv):=ext pl _ B.hl (B.i3 B.nl)
 let big:65536<sizeLine:=by decide
 let g:=R.bG.le
 let f:=R.eM
 let e:=B.eM
 show#[d,aV,#[B.Ba,B.sN,B.nl,bj,λb o z a=>?_,R.pz d (B.i3 B.nl) (λz=>B.sN (by rw[z];show B.nl)) λb o z a=>by rwa[aK a],by rw[ju];show z9 lv+1<=y7;lia],λb o ae z=>#[ae,?_],λb o ae z=>?_]
 .rw[aK<|cx z B.nl];show ext b o (B.eS b o z a) a
 .rw[aK ae.2];show ext b o z (B.i3 ae.1)
 .let c:b≠pl:=λw=>by let ae:H1 b=none:=ae;rw[w,B.hl]at ae;cases ae
  show#[#[eA.eX B.eS B.R.dT ae,c],by rwa[aK c]]
def kX.go(B:kX D H G pl H1 lv j S n ai)(ext:bh G.M H1 ay)(R:Rs D ay G y7 lx n' gu)(le:j<=y7):kX D H G pl ay lv y7 lx n' gu:=
 #[B.Ba,B.sN,B.nl,ext pl _ B.hl (B.i3 B.nl),B.eS.bw ext,R,dK B.eM le]
def kX.wm(a:Rs D H G gR pZ mN o4)(e:bh G.M H H1)(R:Rs D H1 G j S n ai)(aC:H1 pl=U):kX D H G pl (aE H1 pl<|.bq []) [] j S n ai:=by show#[a.dT,?_,eA.eX e R.dT aC,bj,e.bw<|bh.g6 aC,R.eS<|bh.g6 aC,hQ _];let#[c,b,q]:=a.bG.jK;rw[b];simp
end
def VD(l:List Tk):Option (gW×List Tk):=(fu l).bind λf=>(Sn24.eat (a7 "(") f.2).bind λr=>(l3 O r).bind λa=>(Sn24.eat (a7 ";") a.2).map λr=>(.run f.1 a.1,r)
namespace VE
def bN:gf×Nat×Sc×Nat×List (br×fU)×Nat->dC:=λ(G,i,S,n,ai,bi)=>dZ [.ref G.r,.int (bi:Nat)] λH Q E=>Rs D H G i S n ai/\d1 D G H S n ai Q E ((λq=>VD) bi<|G.aX.drop i)
def W:=dR 134 ["reader","level","name","arguments"] (λq=>iF) bN
def d0:=W.a
def i:=W.b
def S:=W.c
def n:=W.d
def ai:=W.e
def bi:=W.m
def H:=W.H
def Q:=W.Q
def E:=W.E
def t:=ee W (d0,i,S,n,ai,bi) H Q E λaG k h=>by
 let#[R,q]:=h;show#[_,aU (dr 2 aG<|jo aQ<|aa 0)<|aU (cU<|c4 aQ (aa 0)<|bo fc)<|aU (dr 3 aG<|oa nx)<|aU (ed (qq<|iz<|c4 aQ (aa 0)<|bo fc) (aU (cU<|iP cf cv fo jm (aa 3)<|bo<|cP aQ<|bo<|aa 0)<|aU (pL i2 (iz<|c4 aQ (aa 0)<|bo fc)<|aP<|cU<|iP cf cv fo jm (aa 3)<|bo<|cP aQ<|bo<|aa 0)<|aP<|cU<|c4 aQ (aa 0)<|bo fc) eP)<|aU (cU<|c4 aQ (aa 0)<|bo fc)<|aP<|cS<|cP aQ<|cH (aa 2)<|aa 3,?_];let q:d1 D d0 H S n ai Q E ((fu<|d0.aX.drop i).bind λf=>(Sn24.eat (a7 "(") f.2).bind λr=>(l3 O r).bind λa=>(Sn24.eat (a7 ";") a.2).map λr=>(.run f.1 a.1,r)):=q;show tW Z R k.bH (λy e lP cj=>?_) λz=>?_;case refine_2=>rwa[xm z]at q
 rw[vh e lP]at q;let q:d1 D d0 H S n ai Q E ((Sn24.eat (a7 "(")<|d0.aX.drop<|i+1).bind λr=>(l3 O r).bind λa=>(Sn24.eat (a7 ";") a.2).map λr=>(.run y a.1,r)):=q;show j7 (ascii "(") Z cj k.bH (λe dB=>?_) λe=>?_;case refine_2=>rwa[gJ (t:=a7 "(") e]at q
 rw[g7 (t:=a7 "(") e]at q;let q:d1 D d0 H S n ai Q E ((l3 O<|d0.aX.drop<|i+1+1).bind λa=>(Sn24.eat (a7 ";") a.2).map λr=>(.run y a.1,r)):=q;show#[by show 0<=sizeLine;decide,λpl gI=>?_];let kW:bh d0.M H _:=(Rs.de<|i+1).bw<|Rs.de<|i+1+1;let F:=kX.wm R kW dB gI;let s:∀{H1:aw}{g:List V}{j:Nat}{d:List nW}{xs:List ba},kX D H d0 pl H1 g j S n ai->jp D (rF H pl) H1 g xs->qg S d xs->d1 D d0 H S n ai Q E ((Sn24.eat (a7 ";")<|d0.aX.drop j).map λr=>(.run y d,r))->
   Gk (Ks<|qI (rC 134 W) (eV P w b8) E "expect" (hM 0)<|lk (rl<|V.str ";") kP)
    (Rm<|yU (rC 134 W) (eV P w b8) E (sC (rC 134 W) "Running")<|lk (hM 2)<|lk (hM 3) kP)
    {cM:=λ_ ab=>Q .bB ab,n9:=Q} [Y<|.ref d0.r,Y<|.int (bi:Nat),Y<|.str<|cZ y,Y<|.ref pl] H1:=by
  intro H1 g j d xs B p l q
  show j7 (ascii ";") Z B.R k.bH (λe m=>?_) λe=>?_
  .rw[g7 (t:=a7 ";") e]at q;let kB:=B.go (Rs.de<|j+1) m<|iT _;show cm (T.c 26).2 ?_;show#[9,9,kT T.aez (aga) k.bH Z λa fV C I ne=>?_];show q _ _ _ (j+1) n Z (kB.eS.bw<|bh.dJ C I) (m.eS<|bh.dJ C I) (.hH (eA.eX kB.eS m.dT C) hz B.nl (gV kB.hl C I)<|jp.dt (λb o ae z=>#[ae.1,gV (Rs.de (G:=d0) (j+1) b o z<|B.i3 ae.1) C I]) p)<|.hH l
  .rw[gJ (t:=a7 ";") e]at q;show q
 show tV (ascii ")") Z F.R k.bH (λe m=>?_) λe=>?_
 .show di ?_;rw[VC,g7 (t:=a7 ")") e]at q;show s (F.go (Rs.de _) m<|iT _) .dg .dg q
 .show dw ?_
  rw[VC,gJ (t:=a7 ")") e,MS]at q
  let q:d1 D d0 H S n ai Q E (((gj 0 1<|d0.aX.drop<|i+1+1).bind λx=>o9 [x.1] x.2).bind λa=>(Sn24.eat (a7 ";") a.2).map λr=>(.run y a.1,r)):=q
  show#[9,.inl #[Z,_,bM.of F.hl],?_]
  show cm (T.t 79 Z) ?_
  show#[9,dk Bb k #[d0,i+1+1,S,n,ai,Z,F.R,?_]]
  cases u:gj 0 1 (d0.aX.drop<|i+1+1)with
  |none=>rwa[u]at q
  |some L=>
   let#[A,aT]:=L;rw[u]at q;intro v H1 x j aW ext m p l;let lt:i+1+1<j:=by let X:=Ft u;rw[<-aW,ho,ho]at X;lia
   let#[cf,cv,ov,jn,m4]:=F.xp ext m lt v;show#[pl,[],v,Z,Z,cf,cv,?_];let q:d1 D d0 H S n ai Q E ((o9 [A] aT).bind λa=>(Sn24.eat (a7 ";") a.2).map λr=>(.run y a.1,r)):=q;rw[<-aW]at q;show#[λu σ ay=>∃g d xs j,u=z9 d0.aX-j/\σ=[Y<|.ref d0.r,Y<|.int (bi:Nat),Y<|.str<|cZ y,Y<|.ref pl]/\kX D H d0 pl ay g j S n ai/\jp D (rF H pl) ay g xs/\qg S d xs/\d1 D d0 H S n ai Q E ((o9 d<|d0.aX.drop j).bind λa=>(Sn24.eat (a7 ";") a.2).map λr=>(.run y a.1,r)),
    #[_,[v],[A],[x],j,Z,Z,ov,.cB (dh.dt m4 p) .dg,.cB l.1 (HD l u<|xn R _).2 .dg,q],?_]
   rintro hj σ ay ⟨g,d,xs,j,rfl,rfl,B,p,l,q⟩;show tV (ascii ",") Z B.R k.bH (λe K=>?_) λe=>?_
   .show dw #[_,λ_ _ b3=>b3,?_]
    let ne:d0.aX[j]?≠Y (a7 ")"):=λz=>by rw[e]at z;revert z;decide +kernel
    rw[ahg (gJ ne)<|g7 (t:=a7 ",") e]at q
    let DV:=B.go (Rs.de<|j+1) K<|iT _
    let MT:jp D (rF H pl) _ g xs:=jp.dt (λb o ae z=>#[ae,Rs.de (G:=d0) (j+1) b o z<|B.i3 ae.1]) p
    show#[9,.inl #[Z,_,bM.of DV.hl],?_]
    show cm (T.t 79 Z) ?_
    show#[9,dk Bb k #[d0,j+1,S,n,ai,Z,K,?_]]
    cases u:gj 0 1 (d0.aX.drop<|j+1)with
    |none=>rwa[u]at q
    |some L=>
     let#[A,aT]:=L;rw[u]at q;intro v bT x iD kA ext gg qH tX;let lt:j+1<iD:=by let X:=Ft u;rw[<-kA,ho,ho]at X;lia
     let#[cf,cv,ov,jn,m4]:=DV.xp ext gg lt v;show#[pl,g,v,Z,Z,cf,cv,?_];let q:d1 D d0 H S n ai Q E ((o9 (d++[A]) aT).bind λa=>(Sn24.eat (a7 ";") a.2).map λr=>(.run y a.1,r)):=q;rw[<-kA]at q;show#[z9 d0.aX-iD,by have:=gg.bG.le;lia,g++[v],d++[A],xs++[x],iD,Z,Z,ov,(jp.dt jn MT).m2<|dh.dt m4 qH,l.m2<|HD tX u<|xn R _,q]
   .show di ?_;show j7 (ascii ")") Z B.R k.bH (λN K=>?_) λN=>?_
    .have:o9 d (d0.aX.drop j)=Y (d,d0.aX.drop<|j+1):=by unfold o9;rw[g7 (t:=a7 ")") N]
     rw[this]at q;show s (B.go (Rs.de<|j+1) K<|iT _) (jp.dt (λb o ae z=>#[ae,Rs.de (G:=d0) (j+1) b o z<|B.i3 ae.1]) p) l q
    .have:o9 d (d0.aX.drop j)=none:=by unfold o9;rw[gJ (t:=a7 ")") N,gJ (t:=a7 ",") e];rfl
     rwa[this]at q
end VE
def ahh:bX (iF+1) 134 (y5 D λq=>VD):=VE.t.i5 λ_ _ _ _ #[f,d,c,a,h,g,e,i,b]=>#[(f,d,c,a,h,g),Z,e,i,b]
def ahi{xs:List V}{g:mU}{dv:hu}{D:nt}{σ:L2.St}{H:aw}(Pv:Nat->L2.St->aw->Prop)(l:Pv 0 σ H)(n:∀i σ H,i<=z9 xs->Pv i σ H->bM K H a xs)
  (ai:∀i x σ H,i<z9 xs->xs[z9 xs-1-i]?=Y x->Pv i σ H->g x σ H λf h=>dv {D with cM:=Pv<|i+1,fI:=Pv<|i+1,kn:=D.cM} f h) (j:∀σ H,Pv (z9 xs) σ H->D.cM σ H):
  ∃W:Nat->Nat->L2.St->aw->Prop,(∃m,W 0 m σ H)/\∀i m σ H,W i m σ H->
   ((Dj K a (z9 xs)).stop i H/\D.cM σ H)\/((Dj K a (z9 xs)).go i H/\∃N:L2.St->aw->Prop,(∀d b,N d b->∃aO,aO<m/\W (i+1) aO d b)/\∀x b,(Dj K a (z9 xs)).tr i H x b->g x σ b λf h=>dv {D with cM:=N,fI:=N,kn:=D.cM} f h):=by
 show#[λi m σ H=>m=z9 xs-i/\i<=z9 xs/\Pv i σ H,#[z9 xs,bg,hQ _,l],?_]
 rintro i m σ H ⟨rfl,ak,p⟩
 let q:=n i σ H ak p
 by_cases c:i<z9 xs
 .show .inr #[#[c,xs,xs[z9 xs-1-i],q,pq aV],Pv<|i+1,λd b k=>#[z9 xs-(i+1),aV,Z,c,k],λx b y=>?_];let#[e,y]:=y;subst e;show ai i x σ _ c (y xs q) p
 .let e:i=z9 xs:=by lia
  subst e;show .inl #[bK _,j σ H p]
inductive lW(D:ej)(bu:ao->Prop)(H:aw):List V->List ja->Prop where
 |dg:lW D bu H [] []
 |cB {v:V}{x:ja}{lv:List V}{m:List ja}:lV D bu H v x->lW D bu H lv m->lW D bu H (v::lv) (x::m)
theorem lW.dt(b3:∀a o,bu a->H a=Y o->fk a/\ab a=Y o):∀{v:List V}{x:List ja},lW D bu H v x->lW D fk ab v x:=by
 intro v x h
 induction v generalizing x with
 |nil=>cases h;show .dg
 |cons _ _ c=>
  cases h with
  |cB a b=>show .cB (lV.dt b3 a)<|c b
def lW.m2:∀{c:List V}{m:List ja}{v:V}{x:ja},lW D bu H c m->lV D bu H v x->lW D bu H (c++[v]) (m++[x]):=by
 intro c m v x h e
 induction c generalizing m with
 |nil=>cases h;show .cB e .dg
 |cons _ _ d=>
  cases h with
  |cB a b=>show .cB a<|d b
def lW.pC:∀{c:List V}{m:List ja}{i:Nat}{v:V},lW D bu H c m->c[i]?=Y v->∃x,m[i]?=Y x/\lV D bu H v x:=by
 intro c m i v h e
 induction c generalizing m i with
 |nil=>simp at e
 |cons _ _ d=>
  cases h with
  |cB a b=>
   cases i with
   |zero=>simp at e;subst e;show#[9,a]
   |succ i=>simpa using d b (by simpa using e)
def lW.eM:∀{a:List V}{m:List ja},lW D bu H a m->z9 a=z9 m:=by
 intro a m h
 induction a generalizing m with
 |nil=>cases h;rfl
 |cons _ _ c=>
  cases h with
  |cB _ b=>simp[c b]
namespace VF
def bN:ao×List L2.V×List Ho.ja×(ao->Prop)->dC:=λ(l,c,xs,d)=>dZ [.ref l] λH Q E=>H l=Y (.bq c)/\lW D d H c xs/\∀v b,bh [] H b->ly D (λa=>d a\/H a=U) b v xs->Q v b
def W:=dR 90 ["parts","left","part"] (λq=>2) bN
def xs:=W.c
def t:=fj W (W.a,W.b,xs,W.k) W.H W.Q W.E λj u h=>by
 let#[s,r,q]:=h;show#[_,aU (dr 1 j<|pR aQ ea)<|aU (qs i2 Z (abm Z (T.lJ _ bg)<|bo<|aa 0) (o6 2 j)<|aP<|dr 1 j<|cP aQ<|cH (aa 2)<|aa 1)<|aP<|cS<|aa 1,?_];show cm (T.c 14).2 ?_;show vb T.adX T.adY u.bH λa K n w I=>#[9,W.a,W.b,Z,bM.of<|gV s n w,?_];let len:=r.eM;show ahi (xs:=W.b) (λi g H1=>∃v p,g=[Y<|.ref W.a,Y v,p]/\bh [] W.H H1/\ly D (λa=>W.k a\/W.H a=U) H1 v (xs.drop<|z9 xs-i))
  #[_,9,bh.dJ n w,by rw[Nat.sub_zero,sZ];show .dg (.inr n) hz] (λi g H1 ak V=>by let#[v,p,f,d,e]:=V;show bM.of<|d W.a _ s bg) (λi x g H1 ak B #[v,p,f,d,e]=>?_) (λg H1 #[v,p,f,d,e]=>?_)
 .subst f;let#[DW,F,C]:=r.pC B;show cm (T.c 15).2 ?_;show#[9,9,kT T.ad0 (af3) u.bH Z λb L ae l G=>?_];show#[_,9,d.bw<|bh.dJ ae l,?_];let y:xs.drop (z9 xs-(i+1))=DW::xs.drop (z9 xs-i):=by
   let lt:z9 xs-(i+1)<z9 xs:=by lia
   rw[ur lt];let A:xs[z9 xs-(i+1)]?=Y DW:=by rw[<-F];congr 1;lia
   rw[(jP.mp A).2,show z9 xs-(i+1)+1=z9 xs-i by lia]
  rw[y];show .cB (.inr ?_) hz (lV.dt (λc o m z=>#[.inl m,gV (d c o z bg) ae l]) C)<|ly.dt (λc o m z=>#[m,gV z ae l]) e;show eA.eX d (λc z=>by cases z) ae
 .subst f;rw[len,Nat.sub_self,Jo]at e;show#[9,q _ _ d e]
end VF
def xq(bi:Nat)(l:List Tk):Option (br×List Tk):=if q2<=bi then U else (fu l).bind λx=>(Sn24.eat (a7 ";") x.2).map λr=>(x.1,r)
def VG(ch:Bool)(n:Nat):ja:=if ch=O then .aH n else .gx n
def VH(D:ej)(G:gf)(H:aw)(S:Sc)(n:Nat)(ai:List (br×fU))(ch:Bool)(Q:ck)(E:dG):Option (br×List Tk)->Prop
 |none=>gd E<|-3
 |some (y,aT)=>∀v a j,G.aX.drop j=aT->bh G.M H a->Rs D a G j (S.gm y (ch,n)) (n+1) ((y,S y)::ai)->lV D (eA H) a v (VG ch n)->Q v a
def Rs.yl(R:Rs D H G i S n ai)(x:bh [G.sc,G.cQ,G.ak] H ab)(k:eW H ab)(C:SC D ab G.sc G.ds G.cQ G.ak lx n' gu)(d:n'<=i):Rs D ab G i lx n' gu:=by
 let#[c,j,f,m,h,a,q]:=R.Vc;let#[l,b,q]:=id R.bG.jK;let e:G.r∉[G.sc,G.cQ,G.ak]:=by simp;show#[c5 c,c5 j,c5 f]
 let g:G.a3∉[G.sc,G.cQ,G.ak]:=by simp;show#[h,a,R.ne]
 show#[#[x _ _ R.bG.ob e,R.bG.jK.ee k<|(x _ _ b g).trans b.symm,R.bG.le],C,R.ne,d,R.eM,R.ok]
namespace VI
def bN:gf×Nat×Sc×Nat×List (br×fU)×Nat×Bool->dC:=λ(G,i,S,n,ai,bi,ch)=>dZ [.ref G.r,.int (bi:Nat)] λH Q E=>Rs D H G i S n ai/\G.aX[i]?=Y (Sn24.kw<|if ch=O then "chan" else "int")/\VH D G H S n ai ch Q E (xq bi<|G.aX.drop<|i+1)
def W:=dR 139 ["reader","level","word","name"] (λq=>4) bN
def G:=W.a
def i:=W.b
def n:=W.d
def ch:=W.n
def t:=fj W (G,i,W.c,n,W.e,W.f,ch) W.H W.Q W.E λw j h=>by
 let#[R,v,q]:=h
 generalize ch=ch at*
 show#[_,aU (cU<|cP aQ<|bo<|aa 1)<|aU (dr 2 w<|jo aQ<|aa 0)<|aU (dr 3 w<|jo aQ<|aa 0)<|aU (cU<|c4 aQ (aa 0)<|bo fc)<|aU (ed (d9 lM (aa 2) fc) (aP<|cS<|cP aQ<|bo<|c4 aQ (bV<|aa 0)<|cH (aa 3) ea) eP)<|aP<|cS<|cP aQ<|bo<|c4 aQ (bV<|aa 0)<|cH (aa 3) ea,?_]
 show cm (T.t 50 Z) ?_
 show#[9,dk (MB) j #[W.f,Z,λlt=>?_,λF=>?_]]
 case refine_2=>unfold xq at q;rwa[aR<|show q2<=W.f from F]at q
 unfold xq at q
 rw[aM<|show ¬q2<=W.f from IS.mpr lt]at q
 let B:=R.rD v
 show Hw Z R j.bH ?_
 rw[v]
 show tW Z B j (λy e I dB=>?_) λz=>?_
 case refine_2=>rwa[xm z]at q
 rw[vh e I]at q
 let q:VH D G W.H W.c n W.e ch W.Q W.E ((Sn24.eat (a7 ";")<|G.aX.drop<|i+1+1).map λr=>(y,r)):=q
 show j7 (ascii ";") Z dB j (λe g=>?_) λe=>?_
 case refine_2=>rwa[gJ (t:=a7 ";") e]at q
 rw[g7 (t:=a7 ";") e]at q
 let d:bh G.M W.H _:=((Rs.de<|i+1).bw<|Rs.de<|i+1+1).bw<|Rs.de<|i+1+1+1
 let big:n<70000:=by let N:=R.my;let L:=R.bG.le;let K:=R.eM;lia
 let my:n+1<=i+1+1+1:=by have:=R.my;lia
 let sub:∀b∈[G.sc,G.cQ,G.ak],b∈G.M:=λb ae=>by simp at ae ⊢;obtain h|h|h:=ae<;>simp[h]
 show#[9,Z,9,?_]
 cases ch with
 |false=>show dw ?_;show cm (T.c 16).2 ?_;show#[9,8,g.bG.ob,aI,T.n 6 2,Z,8,g.sc.ob,aI,T.L9,Z,9,oj T.AY #[1,7,#[Hv.t],j.bH,(G.sc,G.ds,G.cQ,G.ak,W.c,n,W.e,y,J),Z,g.sc,big,λx p u s=>?_]];let m:=g.yl p u s my;let l:=d.bw<|p.cI sub;show kT T.ad2 (af4) j.bH Z λa C k o A=>q _ _ (i+1+1+1) Z (l.bw<|bh.dJ k o) (m.eS<|bh.dJ k o)<|.gx (eA.eX l m.dT k) hz
 |true=>show di ?_;show cm (T.c 17).2 ?_;show#[9,8,g.bG.ob,aI,T.n 6 2,Z,8,g.sc.ob,aI,T.L9,Z,9,oj T.yZ #[1,7,#[Hv.t],j.bH,(G.sc,G.ds,G.cQ,G.ak,W.c,n,W.e,y,O),Z,g.sc,big,λx p u s=>?_]];let m:=g.yl p u s my;let l:=d.bw<|p.cI sub;show kT T.ad4 (af5) j.bH Z λa C k o A=>q _ _ (i+1+1+1) Z (l.bw<|bh.dJ k o) (m.eS<|bh.dJ k o)<|.aH (eA.eX l m.dT k) hz
end VI
inductive rG(D:ej)(L:Nat)(ac:List V)(H:aw)(Q:ck)(E:dG):Prop
 |mk (G:gf) (i:Nat) (S:Sc) (n:Nat) (ai:List (br×fU)) (bi:Nat) (_:L<=bi) (_:ac=[.ref G.r,.int (bi:Nat)]) (_:Rs D H G i S n ai) (_:d1 D G H S n ai Q E (h4 bi<|G.aX.drop i)):rG D L ac H Q E
inductive sO(D:ej)(L:Nat)(f:Nat->List Tk->Option (gW×List Tk))(ac:List V)(H:aw)(Q:ck)(E:dG):Prop
 |mk (G:gf) (i:Nat) (S:Sc) (n:Nat) (ai:List (br×fU)) (bi:Nat) (_:L<=bi) (_:ac=[.ref G.r,.int (bi:Nat)]) (_:Rs D H G i S n ai) (_:d1 D G H S n ai Q E (f bi<|G.aX.drop i)):sO D L f ac H Q E
def Bc(bi:Nat)(l:List Tk):Option (gW×List Tk):=(pk l).bind λc=>(h4 (bi+1) c.2).bind λa=>match Sn24.eat (Sn24.kw "else") a.2 with
 |some r=>(h4 (bi+1) r).map λb=>(.if_ c.1 a.1 b.1,b.2)
 |none=>Y (.if_ c.1 a.1 .skip,a.2)
def DZ(bi:Nat)(l:List Tk):Option (gW×List Tk):=(pk l).bind λc=>(h4 (bi+1) c.2).map λa=>(.while_ c.1 a.1,a.2)
def ahk(h:pk l=Y (e,r)):hF e<=z9 l:=by unfold pk at h;let#[a,c,h]:=kF.mp h;let#[x,d,h]:=kF.mp h;let#[b,f,h]:=iW.mp h;cases h;have:=J3 (e:=x.1) (r:=x.2) d;have:=f5 c;lia
def HH(h:ke S e x/\eJ x<=201)(u:pk l=Y (e,r))(len:z9 l<=65536):lD S e x:=#[h.1,by have:=ahk u;show hF e<=100000;lia,h.2]
namespace VJ
def bN:Nat×Nat×gf×Nat×Sc×Nat×List (br×fU)×Nat->dC:=λ(k,L,G,i,S,n,ai,bi)=>dZ [.ref G.r,.int (bi:Nat)] λH Q E=>iF+1<=k/\bX k 124 (rG D<|L+1)/\L<=bi/\Rs D H G i S n ai/\d1 D G H S n ai Q E (Bc bi<|G.aX.drop i)
def W:=dR 136 ["reader","level","condition","chosen"] (λx=>x.1) bN
def G:=W.c
def S:=W.e
def n:=W.f
def ai:=W.g
def bi:=W.o
def H:=W.H
theorem t:sJ 136 ["reader","level","condition","chosen"] (λx=>x.1) bN:=by
 show ee W (W.a,W.b,G,W.d,S,n,ai,bi) H W.Q W.E λN i h=>?_
 let#[I,gO,hX,R,q]:=h
 let qj:208<=W.a:=I
 show#[_,aU (dr 2 N<|cP aQ<|bo<|aa 0)<|aU (dr 3 N<|cP aQ<|cH (aa 0)<|iO mW (aa 1) cE)<|aU (ed (iz<|c4 aQ (aa 0)<|bo fc) (aP<|cS<|cP aQ<|fX (aa 2)<|cH (aa 3)<|cP aQ<|cH (aa 0)<|iO mW (aa 1) cE) eP)<|aP<|cS<|cP aQ<|fX (aa 2)<|cH (aa 3)<|pR aQ ea,?_]
 show cm (T.t 135 Z) ?_
 show#[9,dk (MO) (i.cI I) #[G,W.d,S,n,ai,Z,R,?_]]
 unfold Bc at q
 cases u:pk (G.aX.drop W.d)with
 |none=>rwa[u]at q
 |some ex=>
  let#[p,aT]:=ex
  rw[u]at q
  let q:d1 D G H S n ai W.Q W.E ((h4 (bi+1) aT).bind λa=>match Sn24.eat (Sn24.kw "else") a.2 with
   |some r=>(h4 (bi+1) r).map λb=>(.if_ p a.1 b.1,b.2)
   |none=>Y (.if_ p a.1 .skip,a.2)):=q
  intro el H1 e4 j aW ext cj au eK
  rw[<-aW]at q
  show cm (T.t 124 Z) ?_
  show#[9,9,_,9,Z,dk gO i #[G,j,S,n,ai,bi+1,aV,Z,cj,?_]]
  cases hj:h4 (bi+1) (G.aX.drop j)with
  |none=>rwa[hj]at q
  |some fz=>
   let#[w,lU]:=fz;rw[hj]at q;let q:d1 D G H S n ai W.Q W.E (match Sn24.eat (Sn24.kw "else") lU with
    |some r=>(h4 (bi+1) r).map λb=>(.if_ p w b.1,b.2)
    |none=>Y (.if_ p w .skip,lU)):=q
   intro sI ay h7 k n2 l9 s dB D0 HI;rw[<-l9]at q;let K:dh D (eA H) ay el e4:=au.cI (λ_ z=>z) λb o ae z=>s b o z λm=>R.dT b m ae;let VL:da D (eA H) ay sI h7:=da.dt (λb o ae z=>#[eA.eX ext cj.dT ae,z]) D0;show MI (ascii "else") Z dB i.bH (λe V=>?_) λe=>?_
   .show dw ?_
    rw[g7 (t:=Sn24.kw "else") e]at q
    let q:d1 D G H S n ai W.Q W.E ((h4 (bi+1)<|G.aX.drop<|k+1).map λb=>(.if_ p w b.1,b.2)):=q
    show cm (T.c 27).2 ?_
    show#[9,9,?_]
    show cm (T.t 124 Z) ?_
    show#[9,9,_,9,Z,dk gO i #[G,k+1,S,n2,ai,bi+1,aV,Z,V,?_]]
    cases qC:h4 (bi+1) (G.aX.drop<|k+1)with
    |none=>rwa[qC]at q
    |some fz=>let#[fQ,ahl]:=fz;rw[qC]at q;intro jZ bT J4 MU gG MV l fZ y A;let B:bh G.M ay bT:=(Rs.de<|k+1).bw l;let X:bh G.M H bT:=(ext.bw s).bw B;show kT T.Un (UY) i.bH Z λa fV f g ne=>(q _ _ _ MU gG MV (X.bw<|bh.dJ f g) (fZ.eS<|bh.dJ f g) (.l5 (eA.eX X fZ.dT f) hz (K.cI (λ_ z=>z) λb o ae z=>gV (B b o z λm=>R.dT b m ae) f g) (da.dt (λb o ae z=>#[ae,gV (B b o z λm=>R.dT b m ae) f g]) VL)<|da.dt (λb o ae z=>#[eA.eX ((ext.bw s).bw<|Rs.de<|k+1) V.dT ae,gV z f g]) y)<|.l5 (HH eK u<|xn R _) HI A)
   .show di ?_;rw[gJ (t:=Sn24.kw "else") e]at q;show cm (T.c 27).2 ?_;show#[9,9,?_];show cm (T.c 19).2 ?_;show vb T.Mb T.Mc i.bH λb db ae v nb=>(kT T.Un (UY) i.bH Z λa fV f g ne=>?_);let F:bh G.M H ay:=ext.bw s;let L:=F.bw<|bh.dJ (C:=(D.c 19)) (bb:=[]) ae v;let P:=dB.eS<|bh.dJ (C:=(D.c 19)) (bb:=[]) ae v;show q _ _ _ k n2 Z (L.bw<|bh.dJ f g) (P.eS<|bh.dJ f g) (.l5 (eA.eX L P.dT f) hz (K.cI (λ_ z=>z) λb o _ z=>gV (gV z ae v) f g) (da.dt (λb o wj z=>#[wj,gV (gV z ae v) f g]) VL)<|.d3 (eA.eX F dB.dT ae)<|gV hz f g)<|.l5 (HH eK u<|xn R _) HI .d3
end VJ
def aho(g:iF+1<=k)(h:bX k 124 (rG D<|L+1)):bX (k+1) 136 (sO D L Bc):=VJ.t.i5 λ_ _ _ _ #[i,f,c,a,l,j,d,e,m,b]=>#[(k,L,i,f,c,a,l,j),Z,e,g,h,d,m,b]
def ahp(p:iF+1<=k)(N:bX k 124 (rG D<|L+1)):bX (k+1) 137 (sO D L DZ):=by
 show ek 137 ["reader","level","condition"] λX A bc s H ac Q E C f h=>?_
 let#[G,i,S,n,ai,bi,hX,rfl,R,q]:=h
 let qj:208<=k:=p
 show#[_,aU (dr 2 C<|cP aQ<|bo<|aa 0)<|aP<|cS<|cP aQ<|cH (aa 2)<|cP aQ<|cH (aa 0)<|iO mW (aa 1) cE,?_]
 show cm (T.t 135 Z) ?_
 show#[9,dk (MO) (f.cI p) #[G,i,S,n,ai,Z,R,?_]]
 unfold DZ at q
 cases u:pk (G.aX.drop i)with
 |none=>rwa[u]at q
 |some w=>
  let#[B,aT]:=w
  rw[u]at q
  let q:d1 D G H S n ai Q E ((h4 (bi+1) aT).map λa=>(.while_ B a.1,a.2)):=q
  intro el H1 e4 j K ext r W y
  rw[<-K]at q
  show cm (T.c 28).2 ?_
  show#[9,?_]
  show cm (T.t 124 Z) ?_
  show#[9,9,_,9,Z,dk N f #[G,j,S,n,ai,bi+1,aV,Z,r,?_]]
  cases v:h4 (bi+1) (G.aX.drop j)with
  |none=>rwa[v]at q
  |some fz=>let#[t1,lU]:=fz;rw[v]at q;intro sI ay h7 x P F g dB I V;let l:bh G.M H ay:=ext.bw g;show kT T.aeG (agb) f.bH Z λa fV d e ne=>(q _ _ _ x P F (l.bw<|bh.dJ d e) (dB.eS<|bh.dJ d e) (.h6 (eA.eX l dB.dT d) hz (W.cI (λ_ z=>z) λb o ae z=>gV (g b o z λm=>R.dT b m ae) d e)<|da.dt (λb o ae z=>#[eA.eX ext r.dT ae,gV z d e]) I)<|.h6 (HH y u<|xn R _) V)
def Be(bi:Nat)(l:List Tk):Option (gW×List Tk):=(Sn24.eat (a7 "{") l).bind λr=>(hS (bi+1) r).map λx=>(.par x.1,x.2)
def jq.m2(h:jq D bu H e m)(a:da D bu H v x):jq D bu H (e++[v]) (m++[x]):=by apply jq.rec (motive_1:=λq q q=>True) (motive_2:=λq q q=>True) (motive_3:=λq q q=>True) (motive_5:=λq q q=>True) (motive_4:=λe m q=>jq D bu H (e++[v])<|m++[x]) (t:=h)<;>intros<;>first|trivial|show .cB a .dg|show .cB ‹_› ‹_›
namespace VN
def bN:Nat×Nat×gf×Nat×Sc×Nat×List (br×fU)×Nat->dC:=λ(k,L,G,i,S,n,ai,bi)=>dZ [.ref G.r,.int (bi:Nat)] λH Q E=>iF+1<=k/\bX k 124 (rG D<|L+1)/\L<=bi/\Rs D H G i S n ai/\d1 D G H S n ai Q E (Be bi<|G.aX.drop i)
def W:=dR 140 ["reader","level","statements"] (λx=>x.1) bN
def G:=W.c
def S:=W.e
def n:=W.f
def ai:=W.g
def bi:=W.o
def H:=W.H
def Q:=W.Q
def E:=W.E
theorem t:sJ 140 ["reader","level","statements"] (λx=>x.1) bN:=by
 show ee W (W.a,W.b,G,W.d,S,n,ai,bi) H Q E λaG s h=>?_;let#[aD,gO,hX,R,q]:=h;let qj:208<=W.a:=aD;show#[_,aU (cU<|c4 aQ (aa 0)<|bo fc)<|aU (dr 2 aG<|oa nx)<|aU (pL i2 (qq<|iz<|c4 aQ (aa 0)<|bo fc)<|aP<|cU<|iP cf cv fo jm (aa 2)<|bo<|cP aQ<|cH (aa 0)<|iO mW (aa 1) cE)<|aP<|cS<|cP aQ<|bo<|aa 2,?_];unfold Be at q;show j7 (ascii "{") Z R s.bH (λe cj=>?_) λe=>?_;case refine_2=>rwa[gJ (t:=a7 "{") e]at q
 rw[g7 (t:=a7 "{") e]at q;let q:d1 D G H S n ai Q E ((hS (bi+1)<|G.aX.drop<|W.d+1).map λx=>(.par<|[]++x.1,x.2)):=q;show#[by show 0<=sizeLine;decide,λpl gI=>?_];let pa:=kX.wm R (Rs.de<|W.d+1) cj gI;show#[λu N C=>∃k f xs j g,u=z9 G.aX-j/\N=[Y<|.ref G.r,Y<|.int (bi:Nat),Y<|.ref pl]/\kX D H G pl C k j S g ai/\jq D (rF H pl) C k xs/\(∀l A w,pw S g l A w->pw S n (f++l) (xs++A) w)/\d1 D G H S n ai Q E ((hS (bi+1)<|G.aX.drop j).map λx=>(.par<|f++x.1,x.2)),
  #[_,[],[],[],W.d+1,n,Z,Z,pa,.dg,λ_ _ _ h=>h,q],?_]
 rintro u N C ⟨k,f,xs,j,g,rfl,rfl,B,X,L,q⟩;show tV (ascii "}") Z B.R s.bH (λe F=>?_) λe=>?_
 .show di ?_;rw[FC,g7 (t:=a7 "}") e]at q;let q:d1 D G H S n ai Q E (Y (.par<|f++[],G.aX.drop<|j+1)):=q;let K:=B.go (Rs.de<|j+1) F<|iT _;show cm (T.c 30).2 ?_;show#[9,kT T.aeO (agd) s.bH Z λa fV i m ne=>?_];show q _ _ _ (j+1) g Z (K.eS.bw<|bh.dJ i m) (F.eS<|bh.dJ i m) (.gl (eA.eX K.eS F.dT i) hz B.nl (gV K.hl i m)<|jq.dt (λb o ae z=>#[ae.1,gV (Rs.de (G:=G) (j+1) b o z<|B.i3 ae.1) i m]) X)<|.gl ?_;have:=L [] [] g .dg;rwa[uv (as:=xs)]at this
 .show dw #[_,λ_ _ b3=>b3,?_]
  rw[FC,gJ (t:=a7 "}") e]at q
  let q:d1 D G H S n ai Q E (((h4 (bi+1)<|G.aX.drop j).bind λx=>(hS (bi+1) x.2).map λy=>(x.1::y.1,y.2)).map λx=>(.par<|f++x.1,x.2)):=q
  show#[9,.inl #[Z,_,bM.of B.hl],?_]
  show cm (T.t 124 Z) ?_
  show#[9,9,_,9,Z,dk gO s #[G,j,S,g,ai,bi+1,aV,Z,B.R,?_]]
  cases I:h4 (bi+1) (G.aX.drop j)with
  |none=>rwa[I]at q
  |some fz=>
   let#[p,lU]:=fz;rw[I]at q;let q:d1 D G H S n ai Q E (((hS (bi+1) lU).map λy=>(p::y.1,y.2)).map λx=>(.par<|f++x.1,x.2)):=q;intro v bT x iD gG V ext M qH tX;rw[<-V]at q;let lt:j<iD:=by let h1:=Cq _ _ _ _ I;rw[<-V,ho,ho]at h1;lia
   let#[cf,cv,ov,jn,m4]:=B.xp ext M lt v;show#[pl,k,v,Z,Z,cf,cv,?_];show#[z9 G.aX-iD,by have:=M.bG.le;lia,k++[v],f++[p],xs++[x],iD,gG,Z,Z,ov,(jq.dt jn X).m2<|da.dt m4 qH,λl A w h=>?_,?_]
   .rw[m9,m9];show L _ _ _<|.cB tX h
   .cases P:hS (bi+1) (G.aX.drop iD)with
    |none=>rwa[P]at q
    |some y=>rw[P]at q;let q:d1 D G H S n ai Q E (Y (.par<|f++(p::y.1),y.2)):=q;show d1 D G H S n ai Q E (Y (.par<|(f++[p])++y.1,y.2));rwa[m9]
end VN
def ahq(g:iF+1<=k)(h:bX k 124 (rG D<|L+1)):bX (k+1) 140 (sO D L Be):=VN.t.i5 λ_ _ _ _ #[i,f,c,a,l,j,d,e,m,b]=>#[(k,L,i,f,c,a,l,j),Z,e,g,h,d,m,b]
abbrev ow(o:Option (gW×List Tk)):Prop:=∀x,o=Y x->z3 x.1=O
def ow.no:ow none:=λq e=>nomatch e
def ow.m{o:Option α}{f:α->gW×List Tk}(h:∀x,z3 (f x).1=O):ow (o.map f):=λx e=>by let#[y,q,rfl]:=iW.mp e;show h y
def ow.b{o:Option α}{f:α->Option (gW×List Tk)}(h:∀x,ow (f x)):ow (o.bind f):=λx e=>by let#[y,q,e]:=kF.mp e;show h y x e
def ow.i{c:Prop}[Decidable c]{a b:Option (gW×List Tk)}(h1:c->ow a)(d:ow b):ow (if c then a else b):=by
 by_cases z:c
 .rw[aR z];show h1 z
 .rw[aM z];show d
def ahr{a}(h1:t≠Sn24.kw "int")(k:t≠Sn24.kw "chan"):ow (uB one a uC (t::r)):=by
 let m:∀{c d} [Decidable c] {o:Option d}{f:d->gW×List Tk}{b},(∀x,z3 (f x).1=O)->ow b->ow (if c then o.map f else b):=λh=>.i λq=>.m h;let b:∀{c d j} [Decidable c] {o:Option d}{g:d->Option j}{f:d->j->gW×List Tk}{b},(∀x y,z3 (f x y).1=O)->ow b->ow (if c then o.bind λx=>(g x).map (f x)else b):=λh=>.i λq=>.b λx=>.m<|h x;show m (λq=>rfl)<|b (λq q=>rfl)<|b (λq q=>rfl)<|.i (λz=>a8 z h1)<|.i (λz=>a8 z k)<|m (λq=>rfl)<|m (λq=>rfl)<|b (λq q=>rfl)<|.i (λq=>.b λc=>.b λa=>?_)<|b (λq q=>rfl)<|.i (λq=>.b λq=>.b λq=>.b λq=>.m λq=>rfl)<|.b λx=>?_
 .split
  .show .m λq=>rfl
  .show λx e=>by cases e;rfl
 .cases r with
  |nil=>show .no
  |cons u r=>show b (λq q=>rfl)<|b (λq q=>rfl)<|b (λq q=>rfl) .no
def ahs{d:Nat}{l aT:List Tk}{s:gW}(h:h4 d l=Y (s,aT))(h1:l.head?≠Y (Sn24.kw "int"))(a:l.head?≠Y (Sn24.kw "chan")):z3 s=true:=by
 rw[FB]at h;split at h
 .cases h
 .cases l with
  |nil=>cases h
  |cons t r=>show ahr (λz=>h1 (by rw[z];rfl)) (λz=>a (by rw[z];rfl)) _ h
def aht(ch:Bool)(d:Nat)(r:List Tk):h4 d (Sn24.kw (if ch=O then "chan" else "int")::r)=(xq d r).map λx=>(if ch=O then .chan x.1 else .int x.1,x.2):=by
 rw[FB];unfold xq;split
 .rfl
 .cases ch with
  |true=>
   show(fu r).bind _=((fu r).bind _).map _
   cases fu r with
   |none=>rfl
   |some x=>show(Sn24.eat (a7 ";") x.2).map _=((Sn24.eat (a7 ";") x.2).map _).map _;cases Sn24.eat (a7 ";") x.2<;>rfl
  |false=>
   show(fu r).bind _=((fu r).bind _).map _
   cases fu r with
   |none=>rfl
   |some x=>show(Sn24.eat (a7 ";") x.2).map _=((Sn24.eat (a7 ";") x.2).map _).map _;cases Sn24.eat (a7 ";") x.2<;>rfl
def ahu(S:Sc)(ai:List (br×fU)):pX (z9 ai) S ai=(S,ai):=by
 cases ai with
 |nil=>rfl
 |cons e l=>show(if z9 l+1<=z9 l then _ else _)=_;rw[aM aV]
def ahv(h:m<=z9 ai)(y:br)(k:Bool×Nat):pX m (S.gm y k) ((y,S y)::ai)=pX m S ai:=by show(if m<=z9 ai then pX m ((S.gm y k).pW y<|S y) ai else _)=_;rw[aR h,Sc.U5]
def Bf(bi:Nat)(l:List Tk):Option (gW×List Tk):=(hS (bi+1) l).map λx=>(.seq x.1,x.2)
def ahw(h:xq d l=Y (y,r)):z9 r<z9 l:=by
 unfold xq at h;split at h
 .cases h
 .let#[x,a,h]:=kF.mp h;let#[z,b,h]:=iW.mp h;cases h;have:=qc (x:=x.1) (r:=x.2) a;have:=f5 b;lia
namespace VO
def bN:Nat×Nat×gf×Nat×Sc×Nat×List (br×fU)×Nat->dC:=λ(k,L,G,i,S,n,ai,bi)=>dZ [.ref G.r,.int (bi:Nat)] λH Q E=>iF+1<=k/\bX k 124 (rG D<|L+1)/\L<=bi/\Rs D H G i S n ai/\d1 D G H S n ai Q E (Bf bi<|G.aX.drop i)
def W:=dR 138 ["reader","level","mark","parts"] (λx=>x.1) bN
def G:=W.c
def i:=W.d
def S:=W.e
def n:=W.f
def ai:=W.g
def bi:=W.o
def H:=W.H
def Q:=W.Q
def E:=W.E
theorem t:sJ 138 ["reader","level","mark","parts"] (λx=>x.1) bN:=by
 show ee W (W.a,W.b,G,i,S,n,ai,bi) H Q E λaG s h=>?_;let#[aD,gO,hX,R,q]:=h;let qj:208<=W.a:=aD;show#[_,aU (dr 2 aG<|jo aQ<|bV<|aa 0)<|aU (dr 3 aG<|oa nx)<|aU (pL i2 (qq<|iz<|c4 aQ (aa 0)<|bo fc)<|aP<|ed (me.pt<|Ar (d9 lM (jo aQ<|aa 0) fc)<|Ap<|d9 lM (jo aQ<|aa 0) fc) (aP<|cU<|iP cf cv fo jm (aa 3)<|bo<|cP aQ<|cH (aa 0)<|iO mW (aa 1) cE)<|aP<|cU<|iP cf cv fo jm (aa 3)<|bo<|cP aQ<|cH (aa 0)<|iO mW (aa 1) cE)<|aU (cU<|c4 aQ (bV<|aa 0)<|bo<|aa 2)<|aP<|cS<|cP aQ<|bo<|cP aQ<|bo<|aa 3,?_];let q:d1 D G H S n ai Q E ((hS (bi+1)<|G.aX.drop i).map λx=>(.seq<|[]++x.1,x.2)):=q;show#[9,8,R.bG.ob,aI,T.n 6 2,Z,8,R.sc.ob,aI,T.adD,Z,1,7,#[U7.t],s.bH,(G.sc,G.ds,G.cQ,G.ak,S,n,ai),Z,R.sc,?_];show#[by show 0<=sizeLine;decide,λpl gI=>?_];let pa:=kX.wm R bh.hW R gI;show#[λu σ ay=>∃m d xs j g f k,u=z9 G.aX-j/\σ=[Y<|.ref G.r,Y<|.int (bi:Nat),Y<|.int (z9 ai:Nat),Y<|.ref pl]/\kX D H G pl ay m j g f k/\lW D (rF H pl) ay m xs/\(∀l F I,mK g f l F I->mK S n (d++l) (xs++F) I)/\z9 ai<=z9 k/\pX (z9 ai) g k=(S,ai)/\
   d1 D G H S n ai Q E ((hS (bi+1)<|G.aX.drop j).map λx=>(.seq<|d++x.1,x.2)),#[_,[],[],[],i,S,n,ai,Z,Z,pa,.dg,λ_ _ _ h=>h,bK _,ahu S ai,q],?_]
 rintro u σ ay ⟨m,d,xs,j,g,f,k,rfl,rfl,B,au,eK,b3,aC,q⟩;show tV (ascii "}") Z B.R s.bH (λe L=>?_) λe=>?_
 .show di ?_;rw[FC,g7 (t:=a7 "}") e]at q;let q:d1 D G H S n ai Q E (Y (.seq<|d++[],G.aX.drop<|j+1)):=q;let kB:=B.go (Rs.de<|j+1) L<|iT _;let big:f<70000:=by let V:=B.R.my;let aj:=B.R.bG.le;let bO:=B.R.eM;lia
  show#[9,8,L.bG.ob,aI,T.n 6 2,Z,8,L.sc.ob,aI,T.adE,Z,9,1,7,#[Va.t],s.bH,(G.sc,G.ds,G.cQ,G.ak,g,f,k,z9 ai),Z,L.sc,big,b3,λgs qD nF VP=>?_];rw[aC]at VP;let sub:∀b∈[G.sc,G.cQ,G.ak],b∈G.M:=λb ae=>by simp at ae ⊢;obtain h|h|h:=ae<;>simp[h]
  let p:=L.yl qD nF VP L.my;let MW:=kB.go (qD.cI sub) p<|bK _;let MX:lW D (rF H pl) gs m xs:=lW.dt (λb o ae z=>#[ae,(qD.cI sub) b o (Rs.de (G:=G) (j+1) b o z<|B.i3 ae.1)<|B.i3 ae.1]) au;show cm (T.c 29).2 ?_;show cm (T.t 90 Z) ?_;show#[9,dk (VF.t) s.bH #[(pl,m,xs,rF H pl),Z,MW.hl,MX,λv6 tv qE mV=>?_]];let kL:bh G.M H tv:=MW.eS.bw (qE.cI λb z=>by cases z);let Bg:=p.eS qE;show kT T.aeK (agc) s.bH Z λa fV X hd ne=>(q _ _ _ (j+1) f Z (kL.bw<|bh.dJ X hd) (Bg.eS<|bh.dJ X hd) (.oI (eA.eX kL Bg.dT X) hz<|ly.dt (λb o ae z=>#[ae.elim (λw=>w.1) λw=>eA.eX MW.eS p.dT w,gV z X hd]) mV)<|.oI ?_);have:=eK [] [] f .dg;rwa[uv (as:=xs)]at this
 .show dw #[_,λ_ _ b3=>b3,?_];rw[FC,gJ (t:=a7 "}") e]at q;let q:d1 D G H S n ai Q E (((h4 (bi+1)<|G.aX.drop j).bind λx=>(hS (bi+1) x.2).map λy=>(x.1::y.1,y.2)).map λx=>(.seq<|d++x.1,x.2)):=q;let more:∀{t1:gW}{lU:List Tk},d1 D G H S n ai Q E (((hS (bi+1) lU).map λy=>(t1::y.1,y.2)).map λx=>(.seq<|d++x.1,x.2))->d1 D G H S n ai Q E ((hS (bi+1) lU).map λx=>(.seq<|(d++[t1])++x.1,x.2)):=by
   intro t1 lU q
   cases qC:hS (bi+1) lU with
   |none=>rwa[qC]at q
   |some y=>rw[qC]at q;let q:d1 D G H S n ai Q E (Y (.seq<|d++(t1::y.1),y.2)):=q;show d1 D G H S n ai Q E (Y (.seq<|(d++[t1])++y.1,y.2));rwa[m9]
  let C:∀(ch:Bool),G.aX[j]?=Y (Sn24.kw<|if ch=O then "chan" else "int")->
    Ks (Sm (rC 138 W).K "list" Sq (hM 3)<|lk (yU (rC 138 W) (eV P w b8) E (sC (rC 138 W) "read_declaration")<|lk (hM 0)<|lk (Av (sr λi j=>.int<|i+j) (hM 1)<|rl<|.int 1) kP) kP)
     {cM:=λcr ab=>∃aO,aO<z9 G.aX-j/\∃m d xs j g f k,aO=z9 G.aX-j/\cr=[Y<|.ref G.r,Y<|.int (bi:Nat),Y<|.int (z9 ai:Nat),Y<|.ref pl]/\kX D H G pl ab m j g f k/\lW D (rF H pl) ab m xs/\(∀l F I,mK g f l F I->mK S n (d++l) (xs++F) I)/\z9 ai<=z9 k/\pX (z9 ai) g k=(S,ai)/\
       d1 D G H S n ai Q E ((hS (bi+1)<|G.aX.drop j).map λx=>(.seq<|d++x.1,x.2)),n9:=Q}
     [Y<|.ref G.r,Y<|.int (bi:Nat),Y<|.int (z9 ai:Nat),Y<|.ref pl] ay:=by
   intro ch bz
   show#[9,.inl #[Z,_,bM.of B.hl],?_]
   show cm (T.t 139 Z) ?_
   show#[9,9,_,9,Z,dk (VI.t) s.bH #[(G,j,g,f,k,bi+1,ch),Z,B.R,bz,?_]]
   rw[B.R.rE bz,aht]at q
   cases A:xq (bi+1) (G.aX.drop<|j+1)with
   |none=>rwa[A]at q
   |some ahx=>
    let#[y,lU]:=ahx;rw[A]at q;let q:=more (t1:=if ch=O then .chan y else .int y) (lU:=lU) q;intro v bT iD N ext p qH;rw[<-N]at q;let lt:j<iD:=by let V:=ahw A;rw[<-N,ho,ho]at V;lia
    let#[cf,cv,ov,jn,m4]:=B.xp ext p lt v;show#[pl,m,v,Z,Z,cf,cv,?_];show#[z9 G.aX-iD,by have:=p.bG.le;lia,m++[v],d++[if ch=O then .chan y else .int y],xs++[VG ch f],iD,7,9,Z,ov,(lW.dt jn au).m2<|lV.dt m4 qH,λl F I h=>?_,IM b3,?_,q]
    .rw[m9,m9]
     show eK _ _ _ ?_
     cases ch with
     |true=>show .aH h
     |false=>show .gx h
    .rw[ahv b3];show aC
  show A5 Z B.R s.bH #[Z,9,iR (λz=>?_) λz=>?_]
  .show dw ?_;show C J ((lT (w:=ascii "int") B.R.lw eH).mp<|show j6 G.aX[j]?=("int":Str)by simpa using z)
  .let cb:G.aX[j]?≠Y (Sn24.kw "int"):=λw=>z (by have:=(lT (w:=ascii "int") B.R.lw eH).mpr w;rw[this];rfl)
   show A5 Z B.R s.bH #[Z,9,iR (λcc=>?_) λcc=>?_]
   .show C O ((lT (w:=ascii "chan") B.R.lw eH).mp<|show j6 G.aX[j]?=("chan":Str)by simpa using cc)
   .let ahy:G.aX[j]?≠Y (Sn24.kw "chan"):=λw=>cc (by have:=(lT (w:=ascii "chan") B.R.lw eH).mpr w;rw[this];rfl)
    show#[9,.inl #[Z,_,bM.of B.hl],?_]
    show cm (T.t 124 Z) ?_
    show#[9,9,_,9,Z,dk gO s #[G,j,g,f,k,bi+1,aV,Z,B.R,?_]]
    cases A:h4 (bi+1) (G.aX.drop j)with
    |none=>rwa[A]at q
    |some fz=>
     let#[t1,lU]:=fz;rw[A]at q;let q:=more (t1:=t1) (lU:=lU) q;let ahz:=ahs A (by rw[xT];show cb) (by rw[xT];show ahy);intro v bT x iD gG N ext p qH tX;rw[<-N]at q;let lt:j<iD:=by let V:=Cq _ _ _ _ A;rw[<-N,ho,ho]at V;lia
     let#[cf,cv,ov,jn,m4]:=B.xp ext p lt v;show#[pl,m,v,Z,Z,cf,cv,?_];show#[z9 G.aX-iD,by have:=p.bG.le;lia,m++[v],d++[t1],xs++[.cq x],iD,g,gG,k,Z,Z,ov,(lW.dt jn au).m2<|.cq<|da.dt m4 qH,λl F I h=>?_,b3,aC,q];rw[m9,m9];show eK _ _ _<|.cq ahz tX h
end VO
def VQ(g:iF+1<=k)(h:bX k 124 (rG D<|L+1)):bX (k+1) 138 (sO D L Bf):=VO.t.i5 λ_ _ _ _ #[i,f,c,a,l,j,d,e,m,b]=>#[(k,L,i,f,c,a,l,j),Z,e,g,h,d,m,b]
instance:Nonempty V:=#[.bB]
open Sn24 (Bytes ascii)
def MY{D:nt}{σ:L2.St}{H:aw}(h:∀N:L2.St->aw->Prop,(∀σ H,dv D σ H->N σ H)->e {D with cM:=N} σ H):Gk e dv D σ H:=h _ λq q h=>h
def sP(D:ej)(d:ao)(a ac:V):hG->hs
 |.d3=>.b7 (D.c 33) d [("condition",a),("statement",ac)]
 |.du b e=>.b7 (D.c 34) d [("condition",a),("statement",ac),("channel",tT b),("cell",tT e)]
def iE.m2(h1:bu a)(f:H a=Y (sP D d el ac g))(i:dh D bu H el c)(b:da D bu H ac x)(h:iE D bu H e m):iE D bu H (e++[.ref a]) (m++[(c,g,x)]):=by apply iE.rec (motive_5:=λe m q=>iE D bu H (e++[V.ref a])<|m++[(c,g,x)]) (t:=h)<;>intros<;>first|trivial|show .d3 ‹_› ‹_› ‹_› ‹_› ‹_›|show .du ‹_› ‹_› ‹_› ‹_› ‹_›|(cases g<;>first|show .d3 h1 f i b .dg|show .du h1 f i b .dg)
namespace MZ
def bN:ao×ao×ao×L2.V->dC:=λ(x,C,dx,v)=>dZ [.ref x,v] λH Q q=>H x=Y (.b7 C dx [])/\ku K C/\pN K C "condition"/\pN K C "statement"/\Q .bB (aE H x<|.b7 C dx [("condition",v),("statement",.bB)])
def W:=dR 117 ["self","condition"] (λq=>0) bN
def t:=fj W (W.a,W.b,W.c,W.k) W.H W.Q W.E λg i h=>by let#[f,c,d,e,q]:=h;show#[_,aU (fY (aa 0)<|aa 1)<|aP<|fY (aa 0) lL,?_];show#[9,9,W.a,_,W.c,9,f,c,d,cn,?_];show#[9,W.a,_,W.c,9,bj,c,e,cn,?_];rwa[io]
end MZ
namespace VR
def bN:ao×ao×L2.V×L2.V×L2.V->dC:=λ(x,dx,v,c,y)=>dZ [.ref x,v,c,y] λH Q q=>H x=Y (.b7 (D.c 34) dx [])/\Q .bB (aE H x<|.b7 (D.c 34) dx [("condition",v),("statement",.bB),("channel",c),("cell",y)])
def W:=dR 121 ["self","condition","channel","cell"] (λq=>1) bN
def t:=fj W (W.a,W.b,W.c,W.d,W.l) W.H W.Q W.E λg e h=>by let#[f,q]:=h;show#[_,aU (cU<|u4 aQ Z<|cH (aa 0)<|aa 1)<|aU (fY (aa 0)<|aa 2)<|aP<|fY (aa 0)<|aa 3,#[7,_,(T.c 32).2.aL,T.AM.bG,T.AM.sp,T.AM.u6,T.AM.dX,9,9,dk (MZ.t) e #[(W.a,_,W.b,W.c),Z,f,aI,T.n 34 0,T.n 34 1,?_]]];show#[9,9,W.a,_,W.b,9,bj,aI,T.n 34 2,cn,?_];show#[9,9,W.a,_,W.b,9,bj,aI,T.n 34 3,cn,?_];rwa[io,io]
end VR
def D1(l:List Tk):Option ((Option nW×pn)×List Tk):=(uA l).bind λc=>(rd c.2).bind λg=>(Sn24.eat (a7 ":") g.2).map λr=>((c.1,g.1),r)
def VS(S:Sc)(c:Option nW)(x:ba):Prop:=match c with
 |none=>x=.cA 1
 |some e=>lD S e x
def Bh(D:ej)(G:gf)(H:aw)(S:Sc)(n:Nat)(ai:List (br×fU))(Q:ck)(E:dG):Option ((Option nW×pn)×List Tk)->Prop
 |none=>gd E<|-3
 |some ((c,g),aT)=>∀a d h e i f j,G.aX.drop j=aT->bh G.M H e->Rs D e G j S n ai->H a=U->e a=Y (sP D d h .bB f)->dh D (λb=>H b=U/\b≠a) e h i->VS S c i->Cu S g f->Q (.ref a) e
namespace VT
def bN:gf×Nat×Sc×Nat×List (br×fU)->dC:=λ(G,i,S,n,ai)=>dZ [.ref G.r] λH Q E=>Rs D H G i S n ai/\Bh D G H S n ai Q E (D1<|G.aX.drop i)
def W:=dR 142 ["reader","condition","branch","channel"] (λq=>iF+1) bN
def G:=W.a
def i:=W.b
def S:=W.c
def n:=W.d
def ai:=W.l
def H:=W.H
def Q:=W.Q
def E:=W.E
def t:=fj W (G,i,S,n,ai) H Q E λL l h=>by
 let#[R,q]:=h;show#[_,aU (dr 1 L<|cP aQ<|bo cE)<|aU (ed (d9 lM (jo aQ<|aa 0) fc) (aU (dr 1 L<|cP aQ<|bo<|aa 0)<|aP<|cU<|c4 aQ (aa 0)<|bo fc) eP)<|aU (ed (iz<|c4 aQ (aa 0)<|bo fc) (aP<|dr 2 L<|cP aQ<|bo<|aa 1)<|aU (dr 3 L<|c4 aQ (bV<|aa 0)<|cH (jo aQ<|aa 0) ea)<|aP<|dr 2 L<|cP aQ<|fX (aa 1)<|cH (aa 3)<|cP aQ<|bo<|aa 0)<|aU (cU<|c4 aQ (aa 0)<|bo fc)<|aP<|cS<|aa 2,?_];let q:Bh D G H S n ai Q E ((uA<|G.aX.drop i).bind λc=>(rd c.2).bind λg=>(Sn24.eat (a7 ":") g.2).map λr=>((c.1,g.1),r)):=q;show cm (T.c 7).2 ?_;show kT T.Um (UX) l.bH Z λyk ahA M0 D2 amq=>?_;let dz:bh G.M H (dJ H yk ahA (D.c 7) [("number",.int 1)]):=bh.dJ M0 D2;let m3:=R.eS<|bh.dJ (C:=(D.c 7)) (bb:=[("number",.int 1)]) M0 D2;dsimp only[sl];show MY λN fM=>?_;let x:∀(c:Option nW) (p:V) (A:ba) (H1:aw) (j:Nat),bh G.M H H1->Rs D H1 G j S n ai->dh D (eA H) H1 p A->VS S c A->
   Bh D G H S n ai Q E ((rd<|G.aX.drop j).bind λg=>(Sn24.eat (a7 ":") g.2).map λr=>((c,g.1),r))->N [Y<|.ref G.r,Y p,U,U] H1:=by
  intro c p A H1 j F I au hc q
  show fM _ _<|MY λBi ahB=>?_
  let P:∀(a d:ao) (ay:aw) (g:pn) (fW:hG) (v:Nat) (VU:Option V),bh G.M H ay->Rs D ay G v S n ai->H a=U->ay a=Y (sP D d p .bB fW)->dh D (λb=>H b=U/\b≠a) ay p A->Cu S g fW->
    Bh D G H S n ai Q E ((Sn24.eat (a7 ":")<|G.aX.drop v).map λr=>((c,g),r))->Bi [Y<|.ref G.r,Y p,Y<|.ref a,VU] ay:=by
   intro a d ay g fW v VU ar dB f aj D0 cL q
   show ahB _ _ ?_
   show j7 (ascii ":") Z dB (l.cI<|show 4<=iF+1 by decide) (λe eB=>?_) λe=>?_
   .rw[g7 (t:=a7 ":") e]at q;let k:∀b o,(H b=U/\b≠a)->ay b=Y o->(H b=U/\b≠a)/\hA D ay G.r G.cN G.a3 G.sc (v+1) b=Y o:=λb o ae z=>#[ae,Rs.de (v+1) b o z λm=>R.dT b m ae.1];show#[9,q a d p _ A fW (v+1) Z (ar.bw<|Rs.de<|v+1) eB f (Rs.de (G:=G) (v+1) a _ aj λm=>R.dT a m f) (dh.dt k D0) hc cL]
   .rw[gJ (t:=a7 ":") e]at q;show q
  unfold rd at q
  show MI (ascii "skip") Z I (l.cI<|show 2<=iF+1 by decide) (λe dB=>?_) λe=>?_
  .show dw ?_;rw[g7 (t:=Sn24.kw "skip") e]at q;show cm (T.c 33).2 ?_;show#[9,.rA T.aeW #[MZ.t] l.bH λa X f B ne=>#[(a,_,X,p),Z,bj,aI,T.n 33 0,T.n 33 1,Z,?_]];rw[io];let ar:=F.bw<|Rs.de<|j+1;show P a X _ .nothing .d3 (j+1) U (ar.bw<|bh.dJ f B) (dB.eS<|bh.dJ f B) (eA.eX ar dB.dT f) hz (dh.dt (λb o ae z=>?_) au) kb q;let K:=Rs.de (G:=G) (j+1) b o z λm=>R.dT b m ae;show#[#[ae,cx K f],gV K f B]
  .show di ?_
   rw[gJ (t:=Sn24.kw "skip") e]at q
   show#[9,8,I.bG.ob,aI,T.n 6 2,Z,8,I.sc.ob,aI,T.w8,Z,tW Z I l.bH (λy e lP dB=>?_) λz=>?_]
   case refine_2=>rwa[xm z]at q
   rw[vh e lP]at q
   let q:Bh D G H S n ai Q E (((Sn24.eat (a7 "?")<|G.aX.drop<|j+1).bind λr=>(fu r).map λz=>(JH y z.1,z.2)).bind λg=>(Sn24.eat (a7 ":") g.2).map λr=>((c,g.1),r)):=q
   show oj T.yZ #[1,7,#[xi],l.bH,G.sc,G.ds,G.cQ,G.ak,S,n,ai,y,O,Z,dB.sc,?_]
   show cm (T.c 34).2 ?_
   show#[9,9,?_]
   show cm (T.t 129 Z) ?_
   show#[9,dk (MQ.t) l.bH #[(G,j+1,S,n,ai),Z,dB,?_]]
   let ahC:(((Sn24.eat (a7 "?")<|G.aX.drop<|j+1).bind λr=>(fu r).map λz=>(JH y z.1,z.2)).bind λg=>(Sn24.eat (a7 ":") g.2).map λr=>((c,g.1),r))=
     (y6<|G.aX.drop<|j+1).bind λz=>(Sn24.eat (a7 ":") z.2).map λr=>((c,JH y z.1),r):=by
    unfold y6
    cases Sn24.eat (a7 "?") (G.aX.drop<|j+1)with
    |none=>rfl
    |some r=>show((fu r).map _).bind _=(fu r).bind _;cases fu r<;>rfl
   rw[ahC]at q
   cases u:y6 (G.aX.drop<|j+1)with
   |none=>rwa[u]at q
   |some DU=>let#[z,aT]:=DU;rw[u]at q;intro bT MU MV bp amr eB;rw[<-MV]at q;let Bd:=(Rs.de<|j+1).bw bp;show .rA T.ae0 #[VR.t] l.bH λa X f B ne=>#[(a,X,p,_,_),Z,bj,Z,?_];rw[io];let dj:=F.bw Bd;show P a X _ (.from_ y z) (.du (S.of O y)<|S.of J z) MU _ (dj.bw<|bh.dJ f B) (eB.eS<|bh.dJ f B) (eA.eX dj eB.dT f) hz (dh.dt (λb o ae z=>?_) au) #[Z,Z] q;let K:=Bd b o z λm=>R.dT b m ae;show#[#[ae,cx K f],gV K f B]
 show A5 Z m3 (l.cI<|show 1<=iF+1 by decide) #[Z,9,iR (λz=>?_) λz=>?_]
 .let F:=(sM (s:=ascii "(") R.lw eH).mp (show j6 G.aX[i]?=("(":Str)by simpa using z)
  unfold uA at q
  rw[g7 (t:=a7 "(") F]at q
  show cm (T.t 135 Z) ?_
  show#[9,dk (MO) l #[G,i,S,n,ai,Z,m3,?_]]
  cases u:pk (G.aX.drop i)with
  |none=>rwa[u]at q
  |some ex=>
   let#[fL,aT]:=ex;rw[u]at q;let q:Bh D G H S n ai Q E (((Sn24.eat (a7 "&") aT).map λr=>(Y fL,r)).bind λc=>(rd c.2).bind λg=>(Sn24.eat (a7 ":") g.2).map λr=>((c.1,g.1),r)):=q;intro p H1 A j aW ext I au eK;rw[<-aW]at q;show j7 (ascii "&") Z I l.bH (λe dB=>?_) λe=>?_
   .rw[g7 (t:=a7 "&") e]at q;show x (Y fL) p A _ (j+1) ((dz.bw ext).bw<|Rs.de<|j+1) dB ((au.eX dz m3.dT).cI (λ_ z=>z) λb o ae z=>Rs.de (G:=G) (j+1) b o z λm=>R.dT b m ae) (HH eK u<|xn R _) q
   .rw[gJ (t:=a7 "&") e]at q;show q
 .let F:=λw=>z (by have:=(sM (s:=ascii "(") R.lw eH).mpr w;rw[this];rfl)
  unfold uA at q;rw[gJ (t:=a7 "(") F]at q;show x U _ (.cA 1) _ i dz m3 (.cA M0 hz) Z q
end VT
def Bj(bi:Nat)(l:List Tk):Option (gW×List Tk):=(Sn24.eat (a7 "{") l).bind λr=>(rf (bi+1) r).map λx=>(.alt x.1,x.2)
def ahD(h:D1 l=Y (c,r)):z9 r<z9 l:=by let#[a,f,h]:=kF.mp h;let#[b,g,h]:=kF.mp h;let#[d,e,h]:=iW.mp h;cases h;have:=Fx f;have:=Fy g;have:=f5 e;lia
def ahE(d:Nat)(l:List Tk)(h:Sn24.eat (a7 "}") l=U):rf d l=(D1 l).bind λg=>(h4 d g.2).bind λs=>(rf d s.2).map λy=>((g.1.1,g.1.2,s.1)::y.1,y.2):=by
 rw[Qk,h]
 unfold D1
 cases uA l with
 |none=>rfl
 |some c=>
  show(rd c.2).bind _=((rd c.2).bind _).bind _
  cases rd c.2 with
  |none=>rfl
  |some g=>show(Sn24.eat (a7 ":") g.2).bind _=((Sn24.eat (a7 ":") g.2).map _).bind _;cases Sn24.eat (a7 ":") g.2<;>rfl
namespace VV
def bN:Nat×Nat×gf×Nat×Sc×Nat×List (br×fU)×Nat->dC:=λ(k,L,G,i,S,n,ai,bi)=>dZ [.ref G.r,.int (bi:Nat)] λH Q E=>iF+2<=k/\bX k 124 (rG D<|L+1)/\L<=bi/\Rs D H G i S n ai/\d1 D G H S n ai Q E (Bj bi<|G.aX.drop i)
def W:=dR 141 ["reader","level","branches","branch"] (λx=>x.1) bN
def G:=W.c
def S:=W.e
def n:=W.f
def ai:=W.g
def bi:=W.o
def H:=W.H
def Q:=W.Q
def E:=W.E
theorem t:sJ 141 ["reader","level","branches","branch"] (λx=>x.1) bN:=by
 show ee W (W.a,W.b,G,W.d,S,n,ai,bi) H Q E λaG N h=>?_;let#[aD,gO,hX,R,q]:=h;let qj:209<=W.a:=aD;show#[_,aU (cU<|c4 aQ (aa 0)<|bo fc)<|aU (dr 2 aG<|oa nx)<|aU (pL i2 (qq<|iz<|c4 aQ (aa 0)<|bo fc)<|aU (dr 3 aG<|cP aQ<|bo<|aa 0)<|aU (fY (aa 3)<|cP aQ<|cH (aa 0)<|iO mW (aa 1) cE)<|aP<|cU<|iP cf cv fo jm (aa 2)<|bo<|aa 3)<|aP<|cS<|cP aQ<|bo<|aa 2,?_];unfold Bj at q;show j7 (ascii "{") Z R N.bH (λe cj=>?_) λe=>?_;case refine_2=>rwa[gJ (t:=a7 "{") e]at q
 rw[g7 (t:=a7 "{") e]at q;show#[cn,λpl gI=>?_];show#[λu σ I=>∃P A xs j F ob,u=z9 G.aX-j/\σ=[Y<|.ref G.r,Y<|.int (bi:Nat),Y<|.ref pl,ob]/\kX D H G pl I P j S F ai/\iE D (rF H pl) I P xs/\(∀l cR n',qh S F l cR n'->qh S n (A++l) (xs++cR) n')/\d1 D G H S n ai Q E ((rf (bi+1)<|G.aX.drop j).map λx=>(.alt<|A++x.1,x.2)),
  #[_,[],[],[],W.d+1,n,U,Z,Z,kX.wm R (Rs.de<|W.d+1) cj gI,.dg,λ_ _ _ h=>h,q],?_]
 rintro u σ I ⟨P,A,xs,j,F,ob,rfl,rfl,B,au,eK,q⟩;show tV (ascii "}") Z B.R N.bH (λe fZ=>?_) λe=>?_
 .show di ?_;rw[Qk,g7 (t:=a7 "}") e]at q;let kB:=B.go (Rs.de<|j+1) fZ<|iT _;show cm (T.c 31).2 ?_;show#[9,kT T.aeS (age) N.bH Z λa fV k hd ne=>?_];show q _ _ _ (j+1) F Z (kB.eS.bw<|bh.dJ k hd) (fZ.eS<|bh.dJ k hd) (.k5 (eA.eX kB.eS fZ.dT k) hz B.nl (gV kB.hl k hd) (iE.dt (λb o ae z=>#[ae.1,gV (Rs.de (j+1) b o z<|B.i3 ae.1) k hd]) au) (by let h1:=B.eM;let aj:=B.R.bG.le;let bO:=B.R.eM;lia))<|.k5 ?_;have:=eK [] [] F .dg;show(uv (as:=xs))▸this
 .show dw #[_,λ_ _ b3=>b3,?_]
  rw[ahE _ _<|gJ e]at q
  show cm (T.t 142 Z) ?_
  show#[9,dk (VT.t) N.bH #[(G,j,S,F,ai),Z,B.R,?_]]
  cases ym:D1 (G.aX.drop j)with
  |none=>rwa[ym]at q
  |some ahF=>
   let#[#[c,g],ahG]:=ahF
   rw[ym]at q
   let q:d1 D G H S n ai Q E (((h4 (bi+1) ahG).bind λs=>(rf (bi+1) s.2).map λy=>((c,g,s.1)::y.1,y.2)).map λx=>(.alt<|A++x.1,x.2)):=q
   intro a d p bT e4 fW iD kA bp eB k bO MT hc cL
   rw[<-kA]at q
   let i3:=λm=>B.R.dT a m k
   let g3:∃C bb,sP D d p .bB fW=.b7 C d bb/\ku K C/\pN K C "statement"/\z9 bb<1000/\∀v,hs.b7 C d (lN "statement" v bb)=sP D d p v fW:=by
    cases fW with
    |d3=>show#[_,9,aI,T.n 33 1,fE,λv=>rfl]
    |du eO eo=>show#[_,9,aI,T.n 34 1,fE,λv=>rfl]
   let#[C,bb,g1,g2,gA,qG,DD]:=g3
   show cm (T.t 124 Z) ?_
   show#[9,9,_,9,Z,dk gO N #[G,iD,S,F,ai,bi+1,aV,Z,eB,?_]]
   cases hj:h4 (bi+1) (G.aX.drop iD)with
   |none=>rwa[hj]at q
   |some fz=>
    let#[t1,lU]:=fz;rw[hj]at q;let q:d1 D G H S n ai Q E (((rf (bi+1) lU).map λy=>((c,g,t1)::y.1,y.2)).map λx=>(.alt<|A++x.1,x.2)):=q;intro v i x kC gG l9 dj f qH tX;rw[<-l9]at q;let fF:i a=Y (.b7 C d bb):=by rw[<-g1];show dj a _ bO i3
    show#[9,a,C,d,bb,Z,fF,g2,gA,qG,?_];rw[DD];let fl:bh G.M I (aE i a<|sP D d p v fW):=λb o z V=>by rw[aK<|cx z k];show dj b o (bp b o z V) V
    let lt:j<kC:=by let h1:=Cq _ _ _ _ hj;let aj:=ahD ym;rw[<-l9,ho,ho]at h1;rw[<-kA,ho,ho]at aj;lia
    let n7:G.a3≠a:=λz=>by let#[dd,X,_]:=B.R.bG.jK;rw[z,k]at X;cases X
    let Bg:Rs D (aE i a<|sP D d p v fW) G kC S gG ai:=by let L:∀{b ob},i b=Y ob->b≠a->aE i a (sP D d p v fW) b=i b:=λz V=>aK V;let kt:eW i (aE i a<|sP D d p v fW):=eW.nI fF (by intro xs z;cases z);let#[av,a1,_]:=f.sc.sn;let#[bk,cf,_]:=f.sc.hd;let#[dd,X,_]:=id f.bG.jK;show#[#[(L f.bG.ob λw=>i3 (by rw[<-w];simp)).trans f.bG.ob,f.bG.jK.ee kt<|L X n7,f.bG.le],f.sc.ee kt (L f.sc.ob λw=>i3 (by rw[<-w];simp)) (L a1 λw=>i3 (by rw[<-w];simp)) (L cf λw=>i3 (by rw[<-w];simp)),f.ne,f.my,f.eM,f.ok]
    let#[cf,cv,ov,jn,m4]:=B.xp fl Bg lt<|.ref a;show#[9,.inl #[Z,_,bM.of cf],9,pl,P,9,Z,cf,cv,?_];let ahH:dh D (eA I) (aE i a<|sP D d p v fW) p e4:=dh.dt (λb o ae z=>#[ae.1,by rw[aK ae.2];show dj b o z λm=>B.R.dT b m ae.1]) MT;let MX:da D (eA I) (aE i a<|sP D d p v fW) v x:=da.dt (λb o ae z=>#[eA.eX bp eB.dT ae,by rwa[aK λw=>by let ae:bT b=none:=ae;rw[w,bO]at ae;cases ae]]) qH;let#[fV,AX]:=m4 a _ k bj;show#[z9 G.aX-kC,by have:=f.bG.le;lia,P++[.ref a],A++[(c,g,t1)],xs++[(e4,fW,x)],kC,gG,9,Z,ov,iE.m2 fV AX (dh.dt m4 ahH) (da.dt m4 MX)<|iE.dt jn au,λl cR n' h=>?_,?_]
    .rw[m9,m9]
     show eK _ _ _<|.cB ?_ cL tX h
     cases c with
     |none=>show hc
     |some e=>show hc
    .cases qC:rf (bi+1) (G.aX.drop kC)with
     |none=>rwa[qC]at q
     |some y=>rw[qC]at q;show d1 D G H S n ai Q E (Y (.alt<|(A++[(c,g,t1)])++y.1,y.2));rwa[m9]
end VV
def ahI(g:iF+2<=k)(h:bX k 124 (rG D<|L+1)):bX (k+1) 141 (sO D L Bj):=VV.t.i5 λ_ _ _ _ #[i,f,c,a,l,j,d,e,m,b]=>#[(k,L,i,f,c,a,l,j),Z,e,g,h,d,m,b]
def Hr:tM P w K (D.g 4) (y0 D):=pG.Hr
noncomputable def qP:List (Tk×Str):=[(Sn24.kw "int","int"),(Sn24.kw "chan","chan"),(Sn24.kw "skip","skip"),(Sn24.kw "stop","stop"),(Sn24.kw "print","print"),(Sn24.kw "run","run"),(Sn24.kw "if","if"),(Sn24.kw "while","while"),(a7 "{","{"),(Sn24.kw "par","par"),(Sn24.kw "alt","alt")]
def ahJ(ok:∀u,t=Y u->sL u):∀x∈qP,j6 t=x.2->t=Y x.1:=by
 intro x a e;simp only[qP,eG,vV,or_false]at a;obtain rfl|rfl|rfl|rfl|rfl|rfl|rfl|rfl|rfl|rfl|rfl:=a
 .show(lT (w:=ascii "int") ok eH).mp e
 .show(lT (w:=ascii "chan") ok eH).mp e
 .show(lT (w:=ascii "skip") ok eH).mp e
 .show(lT (w:=ascii "stop") ok eH).mp e
 .show(lT (w:=ascii "print") ok eH).mp e
 .show(lT (w:=ascii "run") ok eH).mp e
 .show(lT (w:=ascii "if") ok eH).mp e
 .show(lT (w:=ascii "while") ok eH).mp e
 .show(sM (s:=ascii "{") ok eH).mp e
 .show(lT (w:=ascii "par") ok eH).mp e
 .show(lT (w:=ascii "alt") ok eH).mp e
def ahK(D:ej)(ok:∀u,t=Y u->sL u)(h:∀x∈qP,t≠Y x.1):ec (y0 D) (cT<|j6 t)=none:=by let n:∀x∈qP,j6 t≠x.2:=λx a e=>h x a<|ahJ ok x a e;let m:∀i (ak:i<z9 qP),(cT (qP[i].2):Key)≠cT (j6 t):=λi ak e=>n _ (zN ak) (Ck e).symm;unfold y0;rw[iv<|m 0 cn,iv<|m 1 cn,iv<|m 2 cn,iv<|m 3 cn,iv<|m 4 cn,iv<|m 5 cn,iv<|m 6 cn,iv<|m 7 cn,iv<|m 8 cn,iv<|m 9 cn,iv<|m 10 cn];rfl
def ahL{a:List Tk->Option (List gW×List Tk)}{b:List Tk->Option (List (Option nW×pn×gW)×List Tk)}{l:List Tk}(h:∀x∈qP,l.head?≠Y x.1):uB one a b l=MR l:=by
 cases l with
 |nil=>rfl
 |cons t r=>have m:∀i (ak:i<z9 qP),t≠qP[i].1:=λi ak e=>h _ (zN ak) (by rw[e];rfl);unfold uB;dsimp only;rw[aM (show t≠a7 "{" from m 8 cn),aM (show t≠Sn24.kw "par" from m 9 cn),aM (show t≠Sn24.kw "alt" from m 10 cn),aM (show t≠Sn24.kw "int" from m 0 cn),aM (show t≠Sn24.kw "chan" from m 1 cn),aM (show t≠Sn24.kw "skip" from m 2 cn),aM (show t≠Sn24.kw "stop" from m 3 cn),aM (show t≠Sn24.kw "print" from m 4 cn),aM (show t≠Sn24.kw "if" from m 6 cn),aM (show t≠Sn24.kw "while" from m 7 cn),aM<|show t≠Sn24.kw "run" from m 5 cn];unfold MR;show _=((uq t).map λx=>(x,r)).bind _;cases uq t<;>rfl
def d1.pW(q:d1 D G H S n ai Q E o)(e:bh G.M H H1)(m:∀b∈G.M,H1 b≠U):d1 D G H1 S n ai Q E o:=by
 cases o with
 |none=>show q
 |some fz=>intro v g x j a c ext R f d;show q v g x j a c (e.bw ext) R (da.dt (λb o ae z=>#[eA.eX e m ae,z]) f) d
def kR.Bk(h:kR P w b8 K aL fC j f ["reader","level"] (y5 D g)):kR P w b8 K aL fC j f ["reader","level"] (sO D L g):=
 h.hK λac H Q E #[G,i,S,n,ai,bi,_,e,R,q]=>#[G,i,S,n,ai,bi,e,R,q]
namespace VW
def bN:Nat×Nat×gf×Nat×Sc×Nat×List (br×fU)×Nat->dC:=λ(k,L,G,i,S,n,ai,bi)=>dZ [.ref G.r,.int (bi:Nat)] λH Q E=>iF+3<=k/\(L<100->∀x∈[((D.f 136),Bc),((D.f 137),DZ),((D.f 138),Bf),((D.f 140),Be),((D.f 141),Bj)],kR P w b8 K aL fC k x.1 ["reader","level"] (sO D L x.2))/\L<=bi/\Rs D H G i S n ai/\d1 D G H S n ai Q E (h4 bi<|G.aX.drop i)
def F:=dR 124 ["reader","level","start"] (λx=>x.1) bN
def k:=F.a
def G:=F.c
def i:=F.d
def bi:=F.o
def t:sJ 124 ["reader","level","start"] (λx=>x.1) bN:=by
 show ee F (k,F.b,G,i,F.e,F.f,F.g,bi) F.H F.Q F.E λA l h=>?_;let#[u,d,v,R,q]:=h;let L:210<=k:=u;show#[_,(aU (cU<|cP aQ<|bo<|aa 1)<|aU (dr 2 A<|jo aQ<|aa 0)<|aU (ed (wA<|agi (aa 2) ea) (aP<|cS<|cP aQ<|bo<|aa 0) eP)<|aU (cU<|jo aQ<|aa 0)<|aP<|cS<|LJ aQ (Mu ea (aa 2) λW W=>rfl)<|cH (aa 0)<|aa 1),?_];show cm (T.t 50 Z) ?_;show#[9,dk (MB) l.bH #[bi,Z,λlt=>?_,λI=>?_]];case refine_2=>
  have:h4 bi (G.aX.drop i)=none:=by rw[FB,aR<|show q2<=bi from I]
  rwa[this]at q
 rw[FB,aM<|show ¬q2<=bi from IS.mpr lt]at q;show A5 Z R l.bH #[9,UT T.UB #[7,cT<|j6 G.aX[i]?,Z,Hr,Z,9,?_]];by_cases o:∀x∈qP,G.aX[i]?≠Y x.1
 .rw[ahK D R.lw o];show dw ?_;rw[ahL (by rwa[xT])]at q;show cm (T.t 125 Z) ?_;show#[9,dk (VB.t) (l.cI<|show 209<=k by lia) #[(G,i,F.e,F.f,F.g),Z,R,q]]
 .let j:∃(a3:Tk) (a:Str) (f:ao) (g:Nat->List Tk->Option (gW×List Tk)),G.aX[i]?=Y a3/\j6 (Y a3)=a/\ec (y0 D) (cT a)=Y (.ref f)/\nV K (.ref f)=O/\
    uB (h4<|bi+1) (hS<|bi+1) (rf<|bi+1) (a3::G.aX.drop (i+1))=g bi (G.aX.drop<|i+1)/\kR P w b8 K aL fC k f ["reader","level"] (sO D F.b g):=by
   let d:=d aV
   obtain⟨x,m,e⟩:∃x∈qP,G.aX[i]?=Y x.1:=by
    by_cases z:∃x∈qP,G.aX[i]?=Y x.1
    .show z
    .show a8 (λx m e=>z #[x,m,e]) o
   simp only[qP,eG,vV,or_false]at m
   obtain rfl|rfl|rfl|rfl|rfl|rfl|rfl|rfl|rfl|rfl|rfl:=m
   .show#[7,7,e,Z,Z,(T.t 130 Z).dX,Z,(Vy (c:=.int) λW W W=>.Qp).Bk.up]
   .show#[7,7,e,Z,Z,(T.t 130 Z).dX,Z,(Vy (c:=.chan) λW W W=>.aH).Bk.up]
   .show#[7,7,e,Z,Z,(T.t 131 Z).dX,Z,(ag8).Bk.up]
   .show#[7,7,e,Z,Z,(T.t 132 Z).dX,Z,(ag9).Bk.up]
   .show#[7,7,e,Z,Z,(T.t 133 Z).dX,Z,((aha).Bk.up<|show 208<=k by lia)]
   .show#[7,7,e,Z,Z,(T.t 134 Z).dX,Z,((ahh).Bk.up<|show 208<=k by lia)]
   .show#[7,7,e,Z,Z,(T.t 136 Z).dX,Z,d (_,Bc) bg]
   .show#[7,7,e,Z,Z,(T.t 137 Z).dX,Z,d (_,DZ) bg]
   .show#[7,7,e,Z,Z,(T.t 138 Z).dX,Z,d (_,Bf) bg]
   .show#[7,7,e,Z,Z,(T.t 140 Z).dX,Z,d (_,Be) bg]
   .show#[7,7,e,Z,Z,(T.t 141 Z).dX,Z,d (_,Bj) bg]
  let#[a3,a,f,g,n,s,p,C,B,y]:=j;rw[R.rE n,B]at q;rw[n,s,p];show di ?_;let r:=R.rD n;show Hw Z R l.bH #[.ref _,_,T.UB,Z,9,7,cT a,9,Hr,Z,p,9,C,?_];show#[9,9,dk y l #[G,i+1,F.e,F.f,F.g,bi,v,Z,r,q.pW (Rs.de<|i+1) r.dT]]
end VW
def VX(h:iF+3<=k)(i:L<100->∀x∈[((D.f 136),Bc),((D.f 137),DZ),((D.f 138),Bf),((D.f 140),Be),((D.f 141),Bj)],kR P w b8 K aL fC k x.1 ["reader","level"] (sO D L x.2)):
  bX (k+1) 124 (rG D L):=VW.t.i5 λ_ _ _ _ #[j,g,c,a,m,l,d,e,n,b]=>#[(k,L,j,g,c,a,m,l),Z,e,h,i,d,n,b]
theorem VY:∀m L:Nat,L+m=100->bX (iF+4+2*m) 124 (rG D L)
 |0,L,e=>VX (bK _) λz=>by lia
 |m+1,L,e=>by
  let h:=VY m (L+1) aV;let a:iF+1<=iF+4+2*m:=by lia
  let c:iF+2<=iF+4+2*m:=by lia
  show VX (k:=iF+4+2*m+1) aV λq x b=>?_;simp only[eG,vV,or_false]at b;obtain rfl|rfl|rfl|rfl|rfl:=b
  .show aho a h
  .show ahp a h
  .show VQ a h
  .show ahq a h
  .show ahI c h
def ahM:bX 410 138 (sO D 0 Bf):=VQ (k:=409) cn<|VY 99 1 Z
noncomputable def tY(l:List Tk):Option (Bool×List Tk):=match Sn24.eat (Sn24.kw "chan") l with
 |some r=>Y (O,r)
 |none=>(Sn24.eat (Sn24.kw "int") l).map λr=>(J,r)
def vi(l:List Tk):Option ((Bool×br)×List Tk):=(tY l).bind λk=>(fu k.2).map λx=>((k.1,x.1),x.2)
def pb(es:List (Bool×br))(l:List Tk):Option (List (Bool×br)×List Tk):=match Sn24.eat (a7 ")") l with
 |some r=>Y (es,r)
 |none=>(Sn24.eat (a7 ",") l).bind λr=>(kd J r).map λy=>(es++y.1,y.2)
def VZ(l:List Tk):kd J l=(vi l).bind λx=>pb [x.1] x.2:=by
 rw[Cp]
 show(tY l).bind _=((tY l).bind _).bind _
 cases tY l with
 |none=>rfl
 |some k=>show(fu k.2).bind _=((fu k.2).map _).bind _;cases fu k.2<;>rfl
def V0(l:List Tk):kd O l=match Sn24.eat (a7 ")") l with
  |some r=>Y ([],r)
  |none=>kd J l:=by
 rw[Cp,Cp]
 show(match Sn24.eat (a7 ")") l with|some r=>_|none=>_)=_
 cases Sn24.eat (a7 ")") l<;>rfl
def ahN(h1:Sn24.eat (a7 ")") l=U) (a:Sn24.eat (a7 ",") l=Y r):pb es l=(vi r).bind λx=>pb (es++[x.1]) x.2:=by
 unfold pb
 rw[h1,a]
 show(kd J r).map _=_
 rw[VZ]
 cases vi r with
 |none=>rfl
 |some x=>
  show(pb [x.1] x.2).map _=pb (es++[x.1]) x.2
  unfold pb
  cases Sn24.eat (a7 ")") x.2 with
  |some r=>rfl
  |none=>
   show((Sn24.eat (a7 ",") x.2).bind _).map _=(Sn24.eat (a7 ",") x.2).bind _
   cases Sn24.eat (a7 ",") x.2 with
   |none=>rfl
   |some r=>show((kd J r).map _).map _=(kd J r).map _;cases kd J r<;>simp
def V1(h:vi l=Y (x,r)):z9 r<z9 l:=by
 unfold vi tY at h;let#[k,a,h]:=kF.mp h;let#[y,c,h]:=iW.mp h;cases h;let b:=qc (x:=y.1) (r:=y.2) c;split at a
 .rename_i e;cases a;have:=f5 e;dsimp only at b ⊢;lia
 .let#[z,e,a]:=iW.mp a;cases a;have:=f5 e;dsimp only at b ⊢;lia
theorem V2(k:Bool)(y:br):∀(l:List (Bool×br)) (S:Sc) (n:Nat),tl S n (l++[(k,y)])=(tl S n l).gm y (k,n+z9 l)
 |[],S,n=>rfl
 |(j,z)::l,S,n=>by show tl (S.gm z (j,n)) (n+1) (l++[(k,y)])=(tl (S.gm z (j,n)) (n+1) l).gm y (k,n+(z9 l+1));rw[V2 k y l,show n+1+z9 l=n+(z9 l+1)by lia]
def M1(D:ej)(G:gf)(H:aw)(S:Sc)(n:Nat)(ai:List (br×fU))(Q:ck)(E:dG):Option ((Bool×br)×List Tk)->Prop
 |none=>gd E<|-3
 |some ((k,y),aT)=>∀a j,G.aX.drop j=aT->bh G.M H a->Rs D a G j (S.gm y (k,n)) (n+1) ((y,S y)::ai)->Q (.str<|iS k) a
namespace M3
def bN:Ho.gf×Nat×Ho.Sc×Nat×List (br×Ho.fU)->dC:=λ(G,i,S,n,ai)=>dZ [.ref G.r] λH Q E=>Rs D H G i S n ai/\M1 D G H S n ai Q E (vi<|G.aX.drop i)
def W:=dR 147 ["reader","kind"] (λq=>4) bN
def G:=W.a
def i:=W.b
def S:=W.c
def n:=W.d
def ai:=W.l
def H:=W.H
def t:=fj W (G,i,S,n,ai) H W.Q W.E λj d h=>by
 let#[R,q]:=h;show#[_,aU (dr 1 j ea)<|aU (ed (qq<|iz<|c4 aQ (aa 0)<|bo fc) (aU (cU<|c4 aQ (aa 0)<|bo fc)<|aP<|dr 1 j ea) eP)<|aU (cU<|c4 aQ (bV<|aa 0)<|cH (jo aQ<|aa 0)<|aa 1)<|aP<|cS<|aa 1,?_];let q:M1 D G H S n ai W.Q W.E ((tY<|G.aX.drop i).bind λk=>(fu k.2).map λx=>((k.1,x.1),x.2)):=q;let#[p,s]:=T.AY;show#[.str "cell",_,s,#[p,Z],?_];dsimp only[sl];show MY λN m=>?_;let a:∀(k:Bool),G.aX[i]?=Y (Sn24.kw<|if k=O then "chan" else "int")->Rs D (hA D H G.r G.cN G.a3 G.sc<|i+1) G (i+1) S n ai->N [Y<|.ref G.r,Y<|.str<|iS k] (hA D H G.r G.cN G.a3 G.sc<|i+1):=by
  intro k g c;let u:tY (G.aX.drop i)=Y (k,G.aX.drop<|i+1):=by
   unfold tY
   cases k with
   |true=>rw[g7 (t:=Sn24.kw "chan") g]
   |false=>rw[gJ (t:=Sn24.kw "chan") (λz=>by rw[g]at z;revert z;decide +kernel),g7 (t:=Sn24.kw "int") g];rfl
  rw[u]at q;let q:M1 D G H S n ai W.Q W.E ((fu<|G.aX.drop<|i+1).map λx=>((k,x.1),x.2)):=q;show m _ _ #[9,8,c.bG.ob,aI,T.n 6 2,Z,8,c.sc.ob,aI,T.L9,Z,?_];show tW Z c d (λy e v dB=>?_) λz=>?_
  .rw[vh e v]at q;let my:n+1<=i+1+1:=by have:=R.my;lia
   let big:n<70000:=by let F:=R.my;let B:=R.bG.le;let C:=R.eM;lia
   let sub:∀b∈[G.sc,G.cQ,G.ak],b∈G.M:=λb ae=>by simp at ae ⊢;obtain h|h|h:=ae<;>simp[h]
   show#[9,1,7,#[Hv.t],d.bH,(G.sc,G.ds,G.cQ,G.ak,S,n,ai,y,k),Z,dB.sc,big,λw l A o=>#[9,q w (i+1+1) Z (((Rs.de<|i+1).bw<|Rs.de<|i+1+1).bw<|l.cI sub)<|dB.yl l A o my]]
  .rw[xm z]at q;show q
 show MI (ascii "int") Z R (d.cI<|show 2<=4 by decide) (λe c=>?_) λe=>?_
 .show di<|a J e c
 .show dw (agP (ascii "chan") Z R d (λf c=>?_) λf=>?_)
  .show oj (σ:=[]) T.yZ<|a O f c
  .have:tY (G.aX.drop i)=none:=by unfold tY;rw[gJ (t:=Sn24.kw "chan") f,gJ (t:=Sn24.kw "int") e];rfl
   rwa[this]at q
end M3
def xr(ps:List (Bool×br)):List V:=ps.map λp=>.str<|iS p.1
def y9(D:ej)(G:gf)(H:aw)(S:Sc)(n:Nat)(Q:ck)(E:dG):Option (List (Bool×br)×List Tk)->Prop
 |none=>gd E<|-3
 |some (ps,aT)=>∀pl a j b,G.aX.drop j=aT->bh G.M H a->Rs D a G j (tl S n ps) (n+z9 ps) b->H pl=U->a pl=Y (.bq<|xr ps)->Q (.ref pl) a
namespace V3
def bN:gf×Nat×Sc×Nat×List (br×fU)->dC:=λ(G,i,S,n,ai)=>dZ [.ref G.r] λH Q E=>Rs D H G i S n ai/\y9 D G H S n Q E ((Sn24.eat (a7 "(")<|G.aX.drop i).bind λr=>kd O r)
def W:=dR 146 ["reader","parameters"] (λq=>5) bN
def G:=W.a
def i:=W.b
def S:=W.c
def n:=W.d
def H:=W.H
def Q:=W.Q
def E:=W.E
def t:=fj W (G,i,S,n,W.l) H Q E λaG d h=>by
 let#[R,q]:=h;show#[_,aU (dr 1 aG<|oa nx)<|aU (cU<|c4 aQ (aa 0)<|bo fc)<|aU (ed (iz<|c4 aQ (aa 0)<|bo fc) (aP<|cS<|aa 1) eP)<|aU (cU<|iP cf cv fo jm (aa 1)<|bo<|cP aQ<|bo<|aa 0)<|aU (pL i2 (iz<|c4 aQ (aa 0)<|bo fc)<|aP<|cU<|iP cf cv fo jm (aa 1)<|bo<|cP aQ<|bo<|aa 0)<|aU (cU<|c4 aQ (aa 0)<|bo fc)<|aP<|cS<|aa 1,?_];show#[by show 0<=sizeLine;decide,λpl gI=>?_];let K:=kX.wm R bh.hW R gI;show j7 (ascii "(") Z K.R d.bH (λe X=>?_) λe=>?_;case refine_2=>rwa[gJ (t:=a7 "(") e]at q
 rw[g7 (t:=a7 "(") e]at q;let f:=K.go (Rs.de<|i+1) X<|iT _;let q:y9 D G H S n Q E (kd O<|G.aX.drop<|i+1):=q;show tV (ascii ")") Z f.R d.bH (λe w=>?_) λe=>?_
 .show dw ?_;rw[V0,g7 (t:=a7 ")") e]at q;let b:=f.go (Rs.de _) w<|iT _;show#[9,q pl _ _ _ Z b.eS b.R b.nl b.hl]
 .show di ?_
  rw[V0,gJ (t:=a7 ")") e,VZ]at q
  let q:y9 D G H S n Q E ((vi<|G.aX.drop<|i+1).bind λx=>pb [x.1] x.2):=q
  show#[9,.inl #[Z,_,bM.of f.hl],?_]
  show cm (T.t 147 Z) ?_
  show#[9,dk (M3.t) d #[(G,i+1,S,n,W.l),Z,f.R,?_]]
  cases u:vi (G.aX.drop<|i+1)with
  |none=>rwa[u]at q
  |some o=>
   let#[#[v,y],aT]:=o;rw[u]at q;intro H1 j M ext w;let lt:i+1<j:=by let s:=V1 u;rw[<-M,ho,ho]at s;lia
   let#[cf,cv,k,jn,m4]:=f.xp ext w lt (.str (iS v));show#[pl,[],9,Z,cf,cv,?_];let q:y9 D G H S n Q E (pb [(v,y)] aT):=q;rw[<-M]at q;show#[λu I F=>∃a j L,u=z9 G.aX-j/\I=[Y<|.ref G.r,Y<|.ref pl]/\kX D H G pl F (xr a) j (tl S n a) (n+z9 a) L/\y9 D G H S n Q E (pb a<|G.aX.drop j),
    #[_,[(v,y)],j,9,Z,k,q],?_]
   rintro hj I F ⟨a,j,L,rfl,rfl,B,q⟩;show tV (ascii ",") Z B.R d.bH (λe m=>?_) λe=>?_
   .show dw #[_,λ_ _ b3=>b3,?_]
    let V:G.aX[j]?≠Y (a7 ")"):=λz=>by rw[e]at z;revert z;decide +kernel
    rw[ahN (gJ V)<|g7 (t:=a7 ",") e]at q
    let N:=B.go (Rs.de<|j+1) m<|iT _
    show#[9,.inl #[Z,_,bM.of N.hl],?_]
    show cm (T.t 147 Z) ?_
    show#[9,dk (M3.t) d #[(G,j+1,_,_,_),Z,m,?_]]
    cases u:vi (G.aX.drop<|j+1)with
    |none=>rwa[u]at q
    |some o=>
     let#[#[c,g],aT]:=o;rw[u]at q;intro bT iD P ext C;let lt:j+1<iD:=by let s:=V1 u;rw[<-P,ho,ho]at s;lia
     let#[cf,cv,k,jn,m4]:=N.xp ext C lt (.str (iS c));show#[pl,_,9,Z,cf,cv,?_];let q:y9 D G H S n Q E (pb (a++[(c,g)]) aT):=q;rw[<-P]at q;let A:xr (a++[(c,g)])=xr a++[.str<|iS c]:=by unfold xr;rw[r5];rfl
     rw[<-A,<-V2,show n+z9 a+1=n+(a++[(c,g)]).length by simp;lia]at k;rw[<-A];show#[z9 G.aX-iD,by have:=C.bG.le;lia,a++[(c,g)],iD,9,Z,k,q]
   .show di ?_;show j7 (ascii ")") Z B.R d.bH (λp m=>?_) λp=>?_
    .have:pb a (G.aX.drop j)=Y (a,G.aX.drop<|j+1):=by unfold pb;rw[g7 (t:=a7 ")") p]
     rw[this]at q;let b:=B.go (Rs.de<|j+1) m<|iT _;show#[9,q pl _ _ _ Z b.eS b.R b.nl b.hl]
    .have:pb a (G.aX.drop j)=none:=by unfold pb;rw[gJ (t:=a7 ")") p,gJ (t:=a7 ",") e];rfl
     rwa[this]at q
end V3
def fO(h:aE H a o b=U):H b=none:=by
 unfold aE at h;split at h
 .cases h
 .show h
def za(l:List Tk):Option ((List (Bool×br)×List gW)×List Tk):=((Sn24.eat (a7 "(") l).bind λr=>kd O r).bind λp=>(Sn24.eat (a7 "{") p.2).bind λr=>(hS 1 r).map λs=>((p.1,s.1),s.2)
def HJ(D:ej)(r cN a3:ao)(b:List Tk)(H:aw)(Q:ck)(E:dG):Option ((List (Bool×br)×List gW)×List Tk)->Prop
 |none=>gd E<|-3
 |some ((ps,h),aT)=>∀a d pl f x sc j g e,b.drop j=aT->bh [r] H e->pV D e r cN a3 sc b j->H a=U->e a=Y (.b7 (D.c 35) d [("parameters",.ref pl),("body",f)])->H pl=U->e pl=Y (.bq<|xr ps)->da D (eA H) e f x->gM (tl wn 0 ps) (z9 ps) (.seq h) x g->z9 ps<=65536->Q (.ref a) e
namespace V5
def bN:ao×ao×ao×ao×List Ho.Tk×Nat->dC:=λ(r,cN,a3,sc,a,i)=>dZ [.ref r] λH Q E=>pV D H r cN a3 sc a i/\z9 a<=65536/\(∀t∈a,sL t)/\HJ D r cN a3 a H Q E (za<|a.drop i)
def W:=dR 145 ["reader","parameters"] (λq=>410) bN
def r:=W.a
def cN:=W.b
def a3:=W.c
def aX:=W.e
def i:=W.m
def H:=W.H
def E:=W.E
def t:=fj W (r,cN,a3,W.d,aX,i) H W.Q E λaG g h=>by
 let#[R,len,ok,q]:=h
 show#[_,aU (fY (aa 0)<|pR aQ ea)<|aU (dr 1 aG<|cP aQ<|bo<|aa 0)<|aU (cU<|c4 aQ (aa 0)<|bo fc)<|aP<|cS<|cP aQ<|cH (aa 1)<|cP aQ<|cH (aa 0) cE,?_]
 show cm (T.c 5).2 ?_
 show .rA T.Uh #[MC.t] g.bH λa fV F hd ne=>#[(a,fV),Z,bj,λcQ ak H1 h1 aj C same kt=>#[Z,?_]]
 let S:H cQ=none:=fO<|fO h1
 let y:H ak=none:=fO<|fO aj
 let l:∀b o,H b=Y o->H1 b=Y o:=λb o z=>by rw[same b (cx z F) (cx z S)<|cx z y];show gV (C:=(D.c 5)) (bb:=[]) z F hd
 show#[9,r,_,cN,9,l _ _ R.ob,aI,T.n 6 2,fE,?_]
 let' G:gf:=#[r,cN,a3,a,fV,cQ,ak,aX]
 let' ay:aw:=aE H1 r<|.b7 (D.c 6) cN<|A3 a3 i a
 let Bl:H1 r=Y _:=l _ _ R.ob
 let e2:eW H1 ay:=eW.nI Bl (by intro xs z;cases z)
 let#[dd,A,fR]:=R.jK
 let L:xg H1 a3 aX:=by show#[dd,l _ _ A,fR.1,λj k=>?_];let#[b,cf,cv]:=fR.2 j k;show#[b,cf,l _ _ cv]
 let K:∀{b},H b=U->b≠r:=λz w=>by rw[w,R.ob]at z;cases z
 let MN:a3≠ak:=λz=>by rw[z,y]at A;cases A
 let m3:Rs D ay G i wn 0 []:=#[#[bj,L.ee e2 (aK<|iL A R.ob (by intro z;cases z)),R.le],C.ee e2 (aK<|K F) (aK<|K S)<|aK<|K y,MN,hQ _,len,ok]
 let X:bh [r] H ay:=λb o z f=>by show aE H1 r _ b=_;rw[aK λw=>f<|by simp[w]];show l b o z
 let I:∀{bT:aw},bh G.M ay bT->bh [r] H bT:=λe b o z f=>e b o (X b o z f) λm=>by
  simp only[gf.M,eG,vV,or_false]at m;obtain w|w|w|w:=m
  .show f<|gX.mpr w
  .let w:b=a:=w;rw[w,F]at z;cases z
  .let w:b=cQ:=w;rw[w,S]at z;cases z
  .let w:b=ak:=w;rw[w,y]at z;cases z
 let fr:∀{b},ay b=U->H b=none:=λ{b} z=>by
  cases q:H b with
  |none=>rfl
  |some o=>
   by_cases w:b=r
   .have:ay r=none:=w▸z;let Bm:ay r=Y _:=bj;cases Bm▸this
   .have:=X b o q (by simp[w]);cases z▸this
 show cm (T.t 146 Z) ?_
 show#[9,dk (V3.t) g.bH #[(G,i,wn,0,[]),Z,m3,?_]]
 let q:HJ D r cN a3 aX H W.Q E (((Sn24.eat (a7 "(")<|aX.drop i).bind λr=>kd O r).bind λp=>(Sn24.eat (a7 "{") p.2).bind λr=>(hS 1 r).map λs=>((p.1,s.1),s.2)):=q
 show y9 D G ay wn 0 _ E ((Sn24.eat (a7 "(")<|aX.drop i).bind λr=>kd O r)
 cases u:(Sn24.eat (a7 "(")<|aX.drop i).bind λr=>kd O r with
 |none=>rwa[u]at q
 |some pr=>
  let#[ps,aT]:=pr;rw[u]at q;let q:HJ D r cN a3 aX H W.Q E ((Sn24.eat (a7 "{") aT).bind λr=>(hS 1 r).map λs=>((ps,s.1),s.2)):=q;intro pl bT j gu k bp v V6 V;let k:aX.drop j=aT:=k;rw[<-k]at q;show j7 (ascii "{") Z v g.bH (λe fZ=>?_) λe=>?_
  .let e:aX[j]?=Y (a7 "{"):=e
   rw[g7 (t:=a7 "{") e]at q
   let q:HJ D r cN a3 aX H W.Q E ((hS 1<|aX.drop<|j+1).map λs=>((ps,s.1),s.2)):=q
   show cm (T.c 35).2 ?_
   show#[9,?_]
   show cm (T.t 138 Z) ?_
   show#[9,dk (ahM) g #[G,j+1,7,gu,0,bK _,Z,fZ,?_]]
   show d1 D G _ _ _ gu _ E ((hS 1<|aX.drop<|j+1).map λx=>(.seq x.1,x.2))
   cases hj:hS 1 (aX.drop<|j+1)with
   |none=>rwa[hj]at q
   |some n5=>
    let#[ss,ahl]:=n5;rw[hj]at q;intro jZ gs x P n' N fl gg au eK;let V7:bh G.M bT gs:=(Rs.de<|j+1).bw fl;let V8:bh G.M ay gs:=bp.bw V7;let i3:pl∉G.M:=λm=>m3.dT pl m V6;show kT T.ae1 (agf) g.bH Z λb db ae B f=>?_;let Bg:=gg.eS<|bh.dJ (C:=(D.c 35)) (bb:=[("parameters",.ref pl),("body",jZ)]) ae B;rw[IQ]at eK;show q b db pl jZ x _ P n' _ N ((I V8).bw<|bh.dJ ae B) Bg.bG ?_ hz (fr V6) (gV (V7 _ _ V i3) ae B) (da.dt (λc o hc z=>#[?_,gV z ae B]) au) eK (by let h1:=v.my;let aj:=v.bG.le;let bO:=v.eM;lia)
    .show fr<|eA.eX V8 gg.dT ae
    .show fr<|eA.eX (bp.bw<|Rs.de<|j+1) fZ.dT hc
  .let e:aX[j]?≠Y (a7 "{"):=e;rwa[gJ (t:=a7 "{") e]at q
end V5
namespace V9
def bN:ao×ao×ao->dC:=λ(x,dx,a3)=>dZ [.ref x,.ref a3] λH Q q=>H x=Y (.b7 (D.c 6) dx [])/\∀sc a,a x=Y (.b7 (D.c 6) dx<|A3 a3 0 sc)->bh [x] H a->Q .bB a
def W:=dR 42 ["self","tokens"] (λq=>2) bN
def x:=W.a
def dx:=W.b
def t:=fj W (x,dx,W.j) W.H W.Q W.E λu l h=>by
 let#[s,q]:=h;show#[_,aU (fY (aa 0)<|aa 1)<|aU (fY (aa 0) cE)<|aP<|fY (aa 0)<|pR aQ ea,?_];show#[9,9,x,_,dx,9,s,aI,T.n 6 0,fE,?_];show#[9,x,_,dx,9,bj,aI,T.n 6 1,fE,?_];rw[io];show cm (T.c 5).2 ?_;show .rA T.Uh #[MC.t] l λa d f k v=>#[(a,d),Z,bj,λcQ ak H1 r m C same kt=>#[Z,?_]];let' e:aw:=aE W.H x<|.b7 (D.c 6) dx [("tokens",.ref W.j),("place",.int 0)]
 let up:∀{b},aE (aE e d<|.own a) a (.b7 (D.c 5) d []) b=U->e b=none:=λz=>fO<|fO z;let g:∀b o,e b=Y o->H1 b=Y o:=λb o z=>by rw[same b (cx z f) (cx z<|up r)<|cx z<|up m];show gV (C:=(D.c 5)) (bb:=[]) z f k
 show#[9,x,_,dx,9,g _ _ bj,aI,T.n 6 2,fE,?_];show q a _ bj λb o z p=>?_;let i:b≠x:=λw=>p (by simp[w]);rw[aK i];show g b o (by show aE W.H x _ b=_;rwa[aK i])
end V9
def ahT(h:te b=Y (t,k)):sL t:=by
 unfold te at h;split at h
 .cases h
 .split at h
  .split at h
   .cases h
   .rename_i z;cases h;show OE λw=>z<|.inr w
  .split at h
   .cases h;show kb
   .split at h
    .rename_i s e;cases h;show xS e
    .cases h
def ahU:∀(n:Nat) (b:br) (l:List Tk),z9 b<=n->jR b=Y l->z9 l<=z9 b/\∀t∈l,sL t:=by
 intro n
 induction n with
 |zero=>intro b l ae h;have:b=[]:=ut.mp aV;subst this;cases J1▸h;show#[bK _,λt a=>by cases a]
 |succ n f=>
  intro b l ae h
  rw[(FG b).1]at h
  let e:=ho (l:=b) (i:=hT J b)
  cases q:b.drop (hT J b)with
  |nil=>rw[q,J1]at h;cases h;show#[hQ _,λt a=>by cases a]
  |cons c r=>
   rw[q]at h e;rw[Qn<|z1 J b c r q]at h;let#[t,d,h]:=kF.mp h;let#[k,j,h]:=iW.mp h;subst h;let m:=JY d;let g:=ho (l:=c::r) (i:=t.2);rw[gi]at e g;have:=f _ _ aV j;show#[by rw[gi];lia,λx au=>?_];obtain rfl|au:=eG.mp au
   .show ahT d
   .show this.2 x au
structure qQ(D:ej)(bu:ao->Prop)(H:aw)(cV:Key×V)(x:kI):Prop where
 nm:cV.1=cT (cZ x.lE)
 eM:z9 x.gn<=65536
 ob:∃a d pl jZ,cV.2=.ref a/\bu a/\H a=Y (.b7 (D.c 35) d [("parameters",.ref pl),("body",jZ)])/\bu pl/\H pl=Y (.bq<|x.gn.map λk=>.str<|iS k)/\da D bu H jZ x.jb
def qQ.cI{g b:ao->Prop}{H l:aw}{i:Key×V}{x:kI}(h:qQ D g H i x)(b3:∀a o,g a->H a=Y o->b a/\l a=Y o):qQ D b l i x:=by let#[e,n,a,d,pl,p,m,c,j,k,f,q]:=h;show#[e,n,a,d,pl,p,m,(b3 _ _ c j).1,(b3 _ _ c j).2,(b3 _ _ k f).1,(b3 _ _ k f).2,da.dt b3 q]
def qQ.ya(h:dE (qQ D bu H) av xs)(y:br):
  ((xs.find? λp=>p.lE==y)=U->ec av (cT<|cZ y)=U)/\∀x,(xs.find? λp=>p.lE==y)=Y x->∃a,ec av (cT<|cZ y)=Y a.2/\qQ D bu H a x:=by
 induction h with
 |dg=>show#[λq=>rfl,λx e=>by cases e]
 |@cB a x av xs aC _ b=>
  rw[nY];by_cases z:x.lE=y
  .rw[show(x.lE==y)=O by simp[z]];show#[λe=>(by cases e),λc e=>?_];cases e;show#[a,ml (by rw[aC.nm,z]),aC]
  .rw[show(x.lE==y)=J by simp[z],iv (by rw[aC.nm];show λw=>z<|DO<|Ck w)];show b
def dE.D4{α c:Type}{R:α->c->Prop}{l:List α}{m:List c}{a:α}{b:c}(h:dE R l m)(e:R a b):dE R (l++[a]) (m++[b]):=by
 induction h with
 |dg=>show .cB e .dg
 |cB x _ d=>show .cB x d
def sQ(ps:List h3):Option (List h3):=match ps.find? λp=>p.name==l0 with
 |some p=>if p.params.isEmpty=O then Y ps else U
 |none=>U
def M5(ps:List h3)(r:List Tk):td ps (Sn24.kw "proc"::r)=(fu r).bind λf=>if (ps.any λp=>p.name==f.1)=O then U else (za f.2).map λz=>(#[f.1,z.1.1,.seq z.1.2],z.2):=by
 unfold td;dsimp only;rw[aR Z];show congrArg _<|funext λf=>?_;split
 .rfl
 .unfold za
  cases Sn24.eat (a7 "(") f.2 with
  |none=>rfl
  |some r=>
   show(kd O r).bind _=((kd O r).bind _).map _
   cases kd O r with
   |none=>rfl
   |some p=>
    show(Sn24.eat (a7 "{") p.2).bind _=((Sn24.eat (a7 "{") p.2).bind _).map _
    cases Sn24.eat (a7 "{") p.2 with
    |none=>rfl
    |some r=>show(hS 1 r).map _=((hS 1 r).map _).map _;cases hS 1 r<;>rfl
def Wa(h:l.head?≠Y (Sn24.kw "proc")):td ps l=none:=by
 unfold td
 cases l with
 |nil=>rfl
 |cons t r=>dsimp only;rw[aM λz=>h (by rw[z];rfl)]
def ahV(h:l≠[]):oG ps l=(td ps l).bind λq=>oG (ps++[q.1]) q.2:=by
 rw[FE]
 cases l with
 |nil=>show a8 Z h
 |cons t r=>rfl
def pV.rD(R:pV D H r cN a3 sc toks i)(h:toks[i]?=Y t):pV D (hA D H r cN a3 sc<|i+1) r cN a3 sc toks (i+1):=by let#[c,a,b]:=id R.jK;show#[bj,R.jK.ee (eW.nI R.ob (by intro xs z;cases z)) (aK<|iL a R.ob (by intro z;cases z)),(jP.mp h).1]
def zb(H:aw)(Q:ck)(E:dG):Option (List Tk)->Prop
 |none=>gd E<|-3
 |some a=>∀a3 b,bh [] H b->H a3=U->xg b a3 a->Q (.ref a3) b
def _root_.L2.bM.to(r:bM K H a xs)(k:∀o,H a=Y o->ab a=Y o):bM K ab a xs:=r.elim (λr=>.inl<|r.elim (λe=>.inl<|k _ e) λ#[o,e]=>.inr #[o,k _ e]) .inr
def bh.gC(x:bh M H ab)(r:bM K H a xs)(n:a∉M):bM K ab a xs:=bM.to r λo e=>x a o e n
def Bn:j4:=λac H Q E=>∃dp b,ac=[.ref dp]/\bM K H dp (d8 b)/\z9 b<=65536/\(∀c∈b,c<256)/\zb H Q E (jR b)
def vk(D:ej)(H:aw)(Q:ck)(E:dG):Option (List h3)->Prop
 |none=>gd E<|-3
 |some ps=>∀b av xs a,bh [] H a->H b=U->a b=Y (.cY av)->dE (qQ D (λq=>True) a) av xs->dE pE ps xs->Q (.ref b) a
namespace Wb
def bN:ao×br->dC:=λ(dp,b)=>dZ [.ref dp] λH Q E=>bX 20 32 Bn/\bM K H dp (d8 b)/\z9 b<=65536/\(∀c∈b,c<256)/\vk D H Q E (((jR b).bind λl=>oG [] l).bind sQ)
def W:=dR 144 ["text","reader","processes","name"] (λq=>411) bN
def b:=W.i
def H:=W.H
def Q:=W.Q
def E:=W.E
def t:=ee W (W.a,b) H Q E λaG f h=>by
 let#[dY,ic,len,hr,q]:=h
 show#[_,aU (dr 1 aG<|cP aQ<|bo<|cP aQ<|bo<|aa 0)<|aU (dr 2 aG yQ)<|aU (pL i2 (qq<|iz<|jo aQ<|aa 1)<|aU (cU<|c4 aQ (aa 1)<|bo fc)<|aU (dr 3 aG<|jo aQ<|aa 1)<|aU (ed (wA<|GM (g5 f) (aa 3)<|aa 2) (aP<|i4 Z) eP)<|aP<|qN (g5 f) (aa 2) (aa 3)<|cP aQ<|bo<|aa 1)<|aU (ed (me.pt<|Ar (wA<|Lk (g5 f) fc<|aa 2)<|Ap<|iz<|bV<|sK (g5 f) (aa 2) fc) (aP<|i4 Z) eP)<|aP<|cS<|aa 2,?_]
 show cm (T.c 6).2 ?_
 show cm (T.t 32 Z) ?_
 show#[9,dk dY f.bH #[W.a,b,Z,ic,len,hr,?_]]
 cases u:jR b with
 |none=>rwa[u]at q
 |some toks=>
  rw[u]at q
  let q:vk D H Q E ((oG [] toks).bind sQ):=q
  let#[ft,tok]:=ahU _ _ _ (bK _) u
  intro a3 H1 aq sN aD
  let hv:a3≠0\/True:=.inr trivial
  show .rA T.adH #[V9.t] f.bH λr cN M6 ahW ams=>#[(r,cN,a3),Z,bj,λsc ay aj B=>#[Z,?_]]
  let N:bh [] H1 ay:=λb o z _=>B b o (gV (C:=(D.c 6)) (bb:=[]) z M6 ahW) (by simpa using cx z M6)
  let D5:H r=none:=eA.eX aq (λb z=>by cases z) M6
  let#[dd,K,X,gF]:=aD
  let HL:xg ay a3 toks:=#[dd,N _ _ K bg,X,λj F=>by let#[a,a1,a2]:=gF j F;show#[a,a1,N _ _ a2 bg]]
  intro ef M7
  let m3:pV D ay r cN a3 sc toks 0:=#[aj,HL,hQ _]
  let P:bh [] ay (aE ay ef<|.cY []):=bh.g6 M7
  let M8:H ef=none:=eA.eX (aq.bw N) (λb z=>by cases z) M7
  let M9:r≠ef:=cx aj M7
  let G:pV D (aE ay ef<|.cY []) r cN a3 sc toks 0:=by
   show#[P _ _ aj bg,?_,hQ _];let#[dd,K,X,gF]:=HL;show#[dd,P _ _ K bg,X,λj F=>by let#[a,a1,a2]:=gF j F;show#[a,a1,P _ _ a2 bg]]
  show#[λu σ s=>∃i sc av ps xs nm,u=z9 toks-i/\σ=[Y<|.ref W.a,Y<|.ref r,Y<|.ref ef,nm]/\pV D s r cN a3 sc toks i/\s ef=Y (.cY av)/\dE (qQ D (λa=>a≠ef/\a≠r) s) av xs/\dE pE ps xs/\z9 av<=i/\bh [] H s/\vk D H Q E ((oG ps<|toks.drop i).bind sQ),
   #[_,0,sc,[],[],[],U,Z,Z,G,bj,.dg,.dg,bK _,(aq.bw N).bw P,q],?_]
  rintro qC σ s ⟨i,sc,av,ps,xs,nm,rfl,rfl,R,S,aC,A,pc,ex,q⟩
  show#[9,r,_,cN,_,9,R.ob,aI,T.adF,Z,1,7,#[agF],f.bH,r,cN,a3,sc,toks,i,Z,R,9,?_]
  cases nq:toks[i]? with
  |none=>
   show di ?_
   let ahX:toks.drop i=[]:=by rw[vf,nq]
   rw[ahX,FE]at q
   let q:vk D H Q E (sQ ps):=q
   let Wc:=qQ.ya aC l0
   show#[9,ef,9,g4.k (k:=cT "main") S,9,?_]
   unfold sQ at q
   let mk:(cZ l0:Str)="main":=rfl
   cases L:xs.find? λp=>p.lE==l0 with
   |none=>
    let g:=Wc.1 L;rw[mk]at g;rw[g];have:(ps.find? λp=>p.name==l0)=none:=by
     cases z:ps.find? λp=>p.name==l0 with
     |none=>rfl
     |some p=>let#[x,e,_]:=(dE.yg A l0).2 p z;cases L▸e
    rw[this]at q;show dw<|dw<|vd.iB f.bH q
   |some x=>
    let#[cV,g,aa]:=Wc.2 x L
    rw[mk]at g
    rw[g]
    show di ?_
    let#[_,_,a,d,pl,jZ,dj,fl,kL,Wd,HN,kM]:=aa
    rw[dj]at g
    show#[9,ef,9,by rw[<-g];show g4.k (k:=cT "main") S,a,_,d,_,9,kL,aI,T.n 35 0,Z,_,.inl #[_,bM.of HN,Z],?_]
    cases z:ps.find? λp=>p.name==l0 with
    |none=>have:=(dE.yg A l0).1 z;cases L▸this
    |some p=>
     let#[D3,e,pr]:=(dE.yg A l0).2 p z
     cases L▸e
     rw[z]at q
     let q:vk D H Q E (if p.params.isEmpty=O then Y ps else U):=q
     let em:(x.gn.map λk=>V.str<|iS k).isEmpty=p.params.isEmpty:=by rw[pr.2.1];cases p.params<;>rfl
     rw[em]
     cases qM:p.params.isEmpty with
     |true=>rw[qM,aR Z]at q;show di #[9,q ef av xs s ex M8 S (aC.hK λ_ _ _ z=>z.cI λ_ _ _ h=>#[trivial,h]) A]
     |false=>rw[qM,aM cn]at q;show dw<|vd.iB f.bH q
  |some t=>
   show dw #[_,λ_ _ b3=>b3,?_]
   let ok:∀u,toks[i]?=Y u->sL u:=λu h=>tok u<|mF h
   let ahY:toks.drop i≠[]:=by rw[vf,nq];simp
   rw[ahV ahY]at q
   show#[9,r,_,cN,_,9,R.ob,aI,T.Ma,Z,4,7,#[MA],f.bH,r,cN,a3,sc,toks,i,"proc",Z,R,λe=>?_,λe=>?_]
   case refine_2=>have:toks[i]?≠Y (Sn24.kw "proc"):=λz=>e<|(lT (w:=ascii "proc") ok eH).mpr z;rwa[Wa (by rw[xT];show this)]at q
   let dz:toks[i]?=Y (Sn24.kw "proc"):=(lT (w:=ascii "proc") ok eH).mp e
   let G:=R.rD dz
   rw[show toks.drop i=Sn24.kw "proc"::toks.drop (i+1)by rw[vf,dz],M5]at q
   show#[9,r,_,cN,_,9,G.ob,aI,T.Ul,Z,4,7,#[U4],f.bH,r,cN,a3,sc,toks,i+1,Z,G,λe=>?_,λe=>?_]
   case refine_2=>rwa[xm e]at q
   let#[y,B,lP]:=Vh e
   rw[vh B lP]at q
   let q:vk D H Q E (((if (ps.any λp=>p.name==y)=O then U else (za<|toks.drop<|i+1+1).map λz=>((#[y,z.1.1,.seq z.1.2]:h3),z.2)).bind λq=>oG (ps++[q.1]) q.2).bind sQ):=q
   rw[B]
   let dB:=G.rD B
   let We:∀{j:Nat}{l:aw},l ef=Y (.cY av)->hA D l r cN a3 sc j ef=Y (.cY av):=λz=>(aK<|c5 M9).trans z
   let o8:=We (j:=i+1+1)<|We (j:=i+1) S
   show#[9,9,ef,9,g4.k (k:=cT<|cZ y) o8,9,?_]
   let sw:=qQ.ya aC y
   let m:(ps.any λp=>p.name==y)=(ec av<|cT<|cZ y).isSome:=by
    cases z:ps.find? λp=>p.name==y with
    |none=>rw[sw.1<|(dE.yg A y).1 z];have:∀p∈ps,¬ (p.name==y)=true:=E0.mp z;rw[Jk.mpr λp aC=>this p aC];rfl
    |some p=>let#[D3,e,_]:=(dE.yg A y).2 p z;let#[cV,g,_]:=sw.2 D3 e;rw[g,E1.mpr #[p,xS z,zO (p:=λp:h3=>p.name==y) z]];rfl
   rw[m]at q
   cases HO:ec av (cT<|cZ y)with
   |some v=>rw[HO]at q;show dw<|vd.iB f.bH q
   |none=>
    rw[HO]at q
    show di ?_
    let q:vk D H Q E ((((za<|toks.drop<|i+1+1).map λz=>((#[y,z.1.1,.seq z.1.2]:h3),z.2)).bind λq=>oG (ps++[q.1]) q.2).bind sQ):=q
    show cm (T.t 145 Z) ?_
    show#[9,dk (V5.t) f #[(r,cN,a3,sc,toks,i+1+1),Z,dB,aV,tok,?_]]
    cases Na:za (toks.drop<|i+1+1)with
    |none=>rwa[Na]at q
    |some DU=>
     let#[#[pm,ss],aT]:=DU;rw[Na]at q;let q:vk D H Q E ((oG (ps++[(#[y,pm,.seq ss]:h3)]) aT).bind sQ):=q;intro a d pl jZ x ahZ j n' l F dj M ax fF gI h8 au eK ah0;rw[<-F]at q;let lt:i<j:=by
      let h1:=FD ps (Sn24.kw "proc"::toks.drop (i+1)) #[y,pm,.seq ss] aT (by rw[M5,vh B lP];show(if (ps.any λp=>p.name==y)=O then U else _)=_;rw[m,HO];show(za<|toks.drop<|i+1+1).map _=_;rw[Na];rfl)
      rw[<-F,gi,ho,ho]at h1;have:=G.le;lia
     let Nb:l ef=Y (.cY av):=dj _ _ o8 (by simpa using c5 M9);let big:z9 av<sizeLine:=by
      have:65536<sizeLine:=by decide
      have:=R.le;lia
     show#[9,9,ef,9,mm.k (k:=cT<|cZ y) Nb big,?_];let D6:gP av (cT<|cZ y) (.ref a)=av++[(cT<|cZ y,.ref a)]:=by unfold gP;rw[wT,HO];rfl
     rw[D6];let' gs:aw:=aE l ef<|.cY<|av++[(cT<|cZ y,.ref a)]
     let up:∀b o,b≠ef->l b=Y o->gs b=Y o:=λb o nb z=>(aK nb).trans z;let ei:∀b o,(b≠ef/\b≠r)->s b=Y o->(b≠ef/\b≠r)/\gs b=Y o:=λb o ae z=>#[ae,up b o ae.1<|dj b o ((aK ae.2).trans<|(aK ae.2).trans z)<|by simpa using ae.2];let I:∀{b o},hA D (hA D s r cN a3 sc<|i+1) r cN a3 sc (i+1+1) b=U->l b=Y o->(b≠ef/\b≠r)/\gs b=Y o:=λ{b o} z cc=>by
      let cb:b≠ef:=λw=>by rw[w,o8]at z;cases z
      show#[#[cb,λw=>?_],up b o cb cc];rw[w,dB.ob]at z;cases z
     show#[z9 toks-j,by have:=M.le;lia,j,ahZ,_,ps++[(#[y,pm,.seq ss]:h3)],xs++[#[y,pm.map (·.1),x]],9,Z,?_,bj,?_,A.D4 #[Z,Z,n',eK],by rw[ju];show z9 av+1<=j;lia,?_,q]
     .let#[dd,K,X,gF]:=M.jK;let kt:eW l gs:=eW.nI Nb (by intro xs z;cases z);show#[up _ _ M9 M.ob,M.jK.ee kt (aK<|iL K Nb (by intro z;cases z)),M.le]
     .show(aC.hK λ_ _ _ z=>z.cI ei).D4 #[Z,by rw[hR];show ah0,a,d,pl,jZ,Z,(I ax fF).1,(I ax fF).2,(I gI h8).1,?_,da.dt (λb o ae z=>I ae z) au];have:xr pm=(pm.map (·.1)).map λk=>V.str<|iS k:=by unfold xr;rw[B2];rfl
      rw[<-this];show(I gI h8).2
     .intro b o z _;let cf:b≠ef:=cx z M8;let cv:b≠r:=cx z D5;show(ei b o #[cf,cv]<|ex b o z bg).2
end Wb
def ah1(f:bX 20 32 Bn):
  bX 412 144 (λac H Q E=>∃dp b,ac=[.ref dp]/\bM K H dp (d8 b)/\z9 b<=65536/\(∀c∈b,c<256)/\vk D H Q E (((jR b).bind λl=>oG [] l).bind sQ)):=Wb.t.i5 λw w w w h=>by
 let#[d,a,e,q]:=h
 show#[(d,a),Z,e,f,q]
def ie(b:br):(d8 b).length=z9 b:=hR ..
def tZ{b:br}{i c:Nat}(h:b[i]?=Y c):(d8 b)[i]?=Y (.int (c:Nat)):=by unfold d8;rw[r4,h];rfl
def t2:decide (V.int a=V.int b)=decide (a=b):=by simp
def xt:decide (V.int (a:Nat)=V.int (b:Nat))=decide (a=b):=by rw[t2];show decide_eq_decide.mpr aV
def Bo(a:Bool)(c:Nat)(r:br):hT a (c::r)=if c=35 then hT O r+1 else if c=10 then hT J r+1 else if a=J/\c≠32/\c≠9 then 0 else hT a r+1:=by rw[hT]
def Nc:bX 1 37 (λac H Q v=>∃c:Nat,ac=[.int c]/\Q (.cC<|digit c) H):=by
 show ek 37 ["code"] λf A bc s H ac Q E d g h=>?_;let#[c,rfl,q]:=h;show#[_,aP<|cS<|ZQ wK wK ea (aa 0) ea,?_];let#[b,a]:=T.Uz;show#[.int 48,_,a,#[b,Z],9,_,9,Z,9,iR (λz=>?_) λz=>?_]
 .show nH T.afe #[_,9,Z,?_];let e:digit c=decide ((c:Int)<=57):=by have:=kc z;unfold digit;rw[gv (show 48<=c by lia),Pg];show decide_eq_decide.mpr aV
  rwa[e]at q
 .let e:digit c=false:=by unfold digit;rw[i9 (show ¬48<=c from λw=>z<|gv aV),Pf]
  rwa[e]at q
namespace Nd
def bN:ao×br×Nat->dC:=λ(dp,b,p)=>dZ [.ref dp,.int (p:Nat)] λH Q q=>bM K H dp (d8 b)/\p<=z9 b/\Q (.int ((p+hT J (b.drop p):Nat):Int)) H
def W:=dR 35 ["text","place","in_remark","code"] (λq=>0) bN
def dp:=W.a
def b:=W.b
def vl:=W.j
def t:=fj W (dp,b,vl) W.H W.Q W.E λl A h=>by
 let#[y,le,q]:=h;show#[_,(aU (dr 2 l oS)<|aU (pL i2 (d9 wJ (aa 1)<|j5 mY Z lr mD<|bo<|aa 0)<|aU (dr 3 l<|iA (aa 0)<|aa 1)<|aU (ed (d9 lM (aa 3) ea) (aP<|dr 2 l oS)<|aP<|ed (d9 lM (aa 3) ea) (aP<|dr 2 l oS)<|aP<|ed (me.pt<|Aq (qq<|iz<|aa 2)<|Aq (d9 pM (aa 3) ea)<|C1<|d9 pM (aa 3) ea) (aP<|cS<|aa 1) eP)<|aP<|Kv (i:=1) l Z (uy Z) cE Kw)<|aP<|cS<|aa 1),#[λu v H1=>∃(p:Nat) (a:Bool) (c:Option V),u=z9 b-p/\v=[Y<|.ref dp,Y<|.int (p:Nat),Y<|.cC a,c]/\H1=W.H/\p<=z9 b/\p+hT a (b.drop p)=vl+hT J (b.drop vl),#[_,vl,J,U,Z,Z,Z,le,Z],?_]];rintro u v H1 ⟨p,a,c,rfl,rfl,rfl,B,j⟩;show#[9,9,dp,9,.inl y,_,9,Z,9,iR (λz=>?_) λz=>?_]
 .let lt:p<z9 b:=by have:=kc z;rw[ie]at this;lia
  show#[_,λX X b3=>b3,?_];let s:b[p]?=Y b[p]:=pq lt;let x:b.drop p=b[p]::b.drop (p+1):=ur lt;generalize b[p]=f at s x;rw[x]at j;show#[9,9,.inl #[dp,_,p,9,Z,y,qw<|tZ s,?_]];let step:∀o,hT a (f::b.drop (p+1))=hT o (b.drop<|p+1)+1->∃(r:Nat),r<z9 b-p/\∃(k:Nat) (a:Bool) (c:Option V),r=z9 b-k/\[Y<|.ref dp,Y<|.int ((p:Nat)+1:Int),Y<|.cC o,Y<|.int (f:Nat)]=[Y<|.ref dp,Y<|.int (k:Nat),Y<|.cC a,c]/\W.H=W.H/\k<=z9 b/\k+hT a (b.drop k)=vl+hT J (b.drop vl):=
   λo e=>#[z9 b-(p+1),aV,p+1,o,9,Z,Z,lt,by rw[<-j,e];lia]
  show#[9,nH T.afc #[Z,9,?_]];rw[show(35:Int)=((35:Nat):Int)from Z,xt];by_cases d:f=35
  .rw[gv d];show dw #[9,_,9,Z,step O<|by rw[Bo,aR d]]
  .rw[i9 d];show di #[9,nH T.afb #[Z,9,?_]];rw[show(10:Int)=((10:Nat):Int)from Z,xt];by_cases g:f=10
   .rw[gv g];show dw #[9,_,9,Z,step J<|by rw[Bo,aM d,aR g]]
   .rw[i9 g]
    show di #[9,9,?_]
    cases a with
    |true=>show di (di #[9,_,9,Z,step O (by rw[Bo];simp[d,g])])
    |false=>
     show dw #[9,nH T.ae9 #[Z,9,?_]];rw[show(32:Int)=((32:Nat):Int)from Z,xt];by_cases m:f=32
     .rw[gv m];show di (di #[9,_,9,Z,step J (by rw[Bo];simp[d,g,m])])
     .rw[i9 m];show dw #[9,nH T.afa #[Z,9,?_]];rw[show(9:Int)=((9:Nat):Int)from Z,xt];by_cases n:f=9
      .rw[gv n];show di #[9,_,9,Z,step J (by rw[Bo];simp[d,g,n])]
      .rw[i9 n];show dw #[9,?_];have:hT J (f::b.drop (p+1))=0:=by rw[Bo];simp[d,g,n,m]
       rw[this]at j;rwa[<-j]at q
 .have:p=z9 b:=by have:¬ ((p:Int)<((d8 b).length:Nat)):=λw=>z<|gv w;rw[ie]at this;lia
  show#[9,?_];rw[this,sZ]at j;rw[<-j]at q;rwa[this]
end Nd
namespace Wf
def bN:ao×br×Nat->dC:=λ(dp,b,p)=>dZ [.ref dp,.int (p:Nat)] λH Q q=>bM K H dp (d8 b)/\p<=z9 b/\Q (.int ((p+((b.drop p).takeWhile digit).length:Nat):Int)) H
def W:=dR 38 ["text","place"] (λq=>1) bN
def b:=W.b
def t:=fj W (W.a,b,W.j) W.H W.Q W.E λm n h=>by
 let#[l,le,q]:=h;show#[_,(aU (pL i2 (me.pt<|Aq (d9 wJ (aa 1)<|j5 mY Z lr mD<|bo<|aa 0)<|C1<|iz<|cP aQ<|bo<|iA (aa 0)<|aa 1)<|aP<|Kv (i:=1) m Z (uy Z) cE Kw)<|aP<|cS<|aa 1),#[λu g H1=>∃(p:Nat),u=z9 b-p/\g=[Y<|.ref W.a,Y<|.int (p:Nat)]/\H1=W.H/\p<=z9 b/\p+((b.drop p).takeWhile digit).length=W.j+((b.drop W.j).takeWhile digit).length,#[_,W.j,Z,Z,Z,le,Z],?_]];rintro u g H1 ⟨p,rfl,rfl,rfl,o,c⟩;show#[9,9,W.a,9,.inl l,_,9,Z,9,iR (λz=>?_) λz=>?_]
 .let lt:p<z9 b:=by have:=kc z;rw[ie]at this;lia
  let f:b[p]?=Y b[p]:=pq lt
  let k:b.drop p=b[p]::b.drop (p+1):=ur lt
  generalize b[p]=d at f k
  rw[k]at c
  show cm (T.t 37 Z) ?_
  show#[9,9,.inl #[W.a,_,p,9,Z,l,qw<|tZ f,dk (Nc) n #[d,Z,9,?_]]]
  rw[vR]at c
  cases e:digit d with
  |true=>rw[e]at c;show dw #[_,λv v b3=>b3,#[9,_,9,Z,z9 b-(p+1),aV,p+1,Z,Z,Z,lt,?_]];rw[<-c];simp only[if_true,gi];lia
  |false=>rw[e]at c;show di #[9,?_];rwa[<-c]at q
 .have:p=z9 b:=by have:¬ ((p:Int)<((d8 b).length:Nat)):=λw=>z<|gv w;rw[ie]at this;lia
  show di #[9,?_];rw[this,sZ]at c;rw[<-c]at q;rwa[this]
end Wf
def ze:Str:="abcdefghijklmnopqrstuvwxyzABCDEFGHIJKLMNOPQRSTUVWXYZ0123456789_"
def mA:List (Key×V):=ze.cps.toList.map λ(c:Nat)=>(d2 (c:Int),V.str<|cZ [c])
def Wg:∀c:Nat,c<256->ec mA (d2 (c:Int))=if mE c=O\/digit c=O then Y (.str<|cZ [c])else none:=by
 have:∀c∈gK 256,decide (ec mA (d2 (c:Int))=if mE c=O\/digit c=O then Y (.str<|cZ [c])else U)=true:=by decide +kernel
 show λc h=>kc<|this c<|nc.mpr h
def HQ{c:Nat}(h:c<256):(ec mA<|d2 (c:Int)).isSome=(mE c||digit c):=by rw[Wg c h];cases mE c<;>cases digit c<;>rfl
namespace Wh
def bN:ao×br×Nat×ao->dC:=λ(dp,b,p,lt)=>dZ [.ref dp,.int (p:Nat),.ref lt] λH Q q=>bM K H dp (d8 b)/\(∀c∈b,c<256)/\H lt=Y (.cY mA)/\p<=z9 b/\Q (.int ((p+((b.drop p).takeWhile λx=>mE x||digit x).length:Nat):Int)) H
def W:=dR 39 ["text","place","letters"] (λq=>0) bN
def b:=W.b
def t:=fj W (W.a,b,W.c,W.k) W.H W.Q W.E λr v h=>by
 let#[f,s,o,le,q]:=h;show#[_,(aU (pL i2 (me.pt<|Aq (d9 wJ (aa 1)<|j5 mY Z lr mD<|bo<|aa 0)<|C1<|wA<|GM (g5 v) (iA (aa 0)<|aa 1)<|aa 2)<|aP<|Kv (i:=1) r Z (uy Z) cE Kw)<|aP<|cS<|aa 1),#[λu l H1=>∃(p:Nat),u=z9 b-p/\l=[Y<|.ref W.a,Y<|.int (p:Nat),Y<|.ref W.k]/\H1=W.H/\p<=z9 b/\p+((b.drop p).takeWhile λx=>mE x||digit x).length=W.c+((b.drop W.c).takeWhile λx=>mE x||digit x).length,#[_,W.c,Z,Z,Z,le,Z],?_]];rintro u l H1 ⟨p,rfl,rfl,rfl,y,d⟩;show#[9,9,W.a,9,.inl f,_,9,Z,9,iR (λz=>?_) λz=>?_]
 .let lt:p<z9 b:=by have:=kc z;rw[ie]at this;lia
  let j:b[p]?=Y b[p]:=pq lt
  let n:b.drop p=b[p]::b.drop (p+1):=ur lt
  let m:=s _<|zN lt
  generalize b[p]=e at j n m
  rw[n]at d
  show#[9,9,.inl #[W.a,_,p,9,Z,f,qw<|tZ j,9,W.k,9,g4.k (k:=d2 (e:Int)) o,9,?_]]
  rw[vR]at d
  rw[HQ m]
  cases g:mE e||digit e with
  |true=>rw[g]at d;show dw #[_,λV V b3=>b3,#[9,_,9,Z,z9 b-(p+1),aV,p+1,Z,Z,Z,lt,?_]];rw[<-d];simp only[if_true,gi];lia
  |false=>rw[g]at d;show di #[9,?_];rwa[<-d]at q
 .have:p=z9 b:=by have:¬ ((p:Int)<((d8 b).length:Nat)):=λw=>z<|gv w;rw[ie]at this;lia
  show di #[9,?_];rw[this,sZ]at d;rw[<-d]at q;rwa[this]
end Wh
def Nf:oA "ord"=Y (.builtin "ord"):=by decide +kernel
def Wi:oA "abs"=Y (.builtin "abs"):=by decide +kernel
def Ng:oA "tuple"=Y (.type "tuple"):=by decide +kernel
def ah2:oA "str"=Y (.type "str"):=by decide +kernel
def ah3(a3 d:TE):TE:=λc H Q=>∀p,H p=U->a3 c (aE H p<|.eE []) λx H1=>d c H1 λy a=>∃b k,x=.ref b/\a p=Y (.eE [])/\a b=Y (.cu<|k.map ez)/\Q (.ref p) (aE a p<|.eE [(k,y)])
def ah4(K:X.A.units+1<nT)(v:bS X zf a3)(bk:bS X Bq dd):bS X (.Dict [Y zf] [Bq] pos) (ah3 a3 dd):=by intro i s l H Q I q;let W:=I.bL.fresh<|bK s.heap.objs.size;let S:=I.oP (a:=s.heap.objs.size) (o:=.eE []) (h':=s.heap.push {cls:=.type "dict",data:=.dict [].toArray}) (t':=s.toks) (λ_ _ q=>fv _ q) (bK _)<|aba s.heap I.big;rw[arm_eval_Dict,zip_pairTrees [Y zf] [Bq] X.env pos Z Z,dictDisplay_pairs (pairTrees [Y zf] [Bq] X.env pos) (by intro z;cases z) (by show 1<17;decide)];show aY<|BI<|aY ?_;unfold subDict;show aY<|IE ?_;show aY<|sX ?_;rw[aR (show(pairTrees [Y zf] [Bq] X.env pos).length<=15 by show 1<=15;decide)];show aY<|pairTrees_cons_walk<|ct (v i _ l _ _ S<|q _ W) λu R #[x,H1,B,D,F]=>ct (bk i R l H1 _ B F) λr s2 #[y,ay,d,G,b,k,p,f,m,t]=>pairTrees_nil_walk ?_;subst p;obtain rfl:u=e3 b:=D;let#[z,n,xs,e,M]:=SN d.bL f;cases e;show sX ?_;rw[E3];show aY<|aY<|aY<|wpAny_dictSet_heap (hsz:=hQ _) (show(xL<|jF X.prog X.w).room X.A from OD K) (yO d.bL m) M λh' T ai=>c0 ?_;dsimp only;rw[BZ];show c0<|c0<|c0<|c0 ?_;let#[g,P,L,h,E,V,C,_,N]:=T;show#[.ref s.heap.objs.size,_,Dh (ob:=.eE [(k,y)]) d (by rw[f];show kb) ai #[g,h] #[by show 1<=sizeLine;decide,n,_,(KT.put (av:=[]) (.nil) k m G).keeps λc ys j=>?_,g,P,L,h,E,V,C,N],Z,t];rwa[aK<|iL j f λz=>nomatch z]
def ah5{x:Str}{g:mU}{dv:hu}{D:nt}{σ:L2.St}{H:aw}(Pv:Nat->L2.St->aw->Prop)(l:Pv 0 σ H)
  (ai:∀i c σ H,x.cps[i]?=Y c->Pv i σ H->g (.str #[[c].toArray]) σ H λd f=>dv {D with cM:=Pv<|i+1,fI:=Pv<|i+1,kn:=D.cM} d f) (j:∀σ H,Pv x.cps.size σ H->D.cM σ H):
  ∃W:Nat->Nat->L2.St->aw->Prop,(∃m,W 0 m σ H)/\∀i m σ H,W i m σ H->
   ((wU x).stop i H/\D.cM σ H)\/((wU x).go i H/\∃N:L2.St->aw->Prop,(∀b a,N b a->∃aO,aO<m/\W (i+1) aO b a)/\∀v a,(wU x).tr i H v a->g v σ a λd f=>dv {D with cM:=N,fI:=N,kn:=D.cM} d f):=by
 show#[λi m σ H=>m=x.cps.size-i/\i<=x.cps.size/\Pv i σ H,#[x.cps.size,bg,hQ _,l],?_]
 rintro i m σ H ⟨rfl,ak,p⟩
 by_cases h:i<x.cps.size
 .show .inr #[h,Pv<|i+1,λb a k=>#[x.cps.size-(i+1),aV,Z,h,k],λv a y=>?_];let#[e,c,n,rfl]:=y;subst e;show ai i c σ _ n p
 .let e:i=x.cps.size:=by lia
  subst e;show .inl #[bK _,j σ H p]
def ah6:∀i,i<63->∀c∈(ze.cps[i]?).toList,gP (mA.take i) (d2 ((c:Nat):Int)) (.str<|cZ [c])=mA.take (i+1):=by
 have:∀i∈gK 63,∀c∈(ze.cps[i]?).toList,decide (gP (mA.take i) (d2 ((c:Nat):Int)) (.str<|cZ [c])=mA.take (i+1))=true:=by decide +kernel
 show λi h c a=>kc<|this i (nc.mpr h) c a
def ah7:bX 1 33 (λac H Q w=>ac=[]/\∀p,H p=U->Q (.ref p) (aE H p<|.cY mA)):=by
 show ek 33 ["table","letter"] λn A bc s H ac Q E e j h=>?_;let#[rfl,q]:=h;show#[_,aU (dr 0 e yQ)<|aU (qs i2 Z (Lo ea) (o6 1 e)<|aP<|qN (g5 j) (aa 0) (j5 KH Z Mv Nf<|bo<|aa 1)<|aa 1)<|aP<|cS<|aa 0,?_];intro p aC;let#[ft,m]:=T.ae8;show#[.str ze,_,m,#[ft,Z],ze,Z,?_];let jh:ze.cps.size=63:=by decide +kernel
 show ah5 (λi b H1=>∃l,b=[Y<|.ref p,l]/\H1=aE H p (.cY<|mA.take i)) #[U,Z,Z] (λi c b H1 f #[l,d,a]=>?_) λb H1 #[l,d,a]=>?_
 .subst d a;let ak:i<63:=by rw[<-jh];show(q9.mp f).1
  let g:=ah6 i ak c (by rw[f];simp);show#[9,9,9,9,Z,p,9,mm.k (k:=d2 (c:Int)) bj (by
   have:(mA.take i).length<=i:=by rw[mG];show OG ..
   have:65536<sizeLine:=by decide
   lia),9,?_]
  rw[io];show congrArg (λz=>aE H p<|.cY z) g
 .subst d a;have:mA.take ze.cps.size=mA:=by rw[jh];decide +kernel
  rw[this];show#[9,q p aC]
def Wj{g:mU}{tt:TT}{eF:TE}{ac:List Nat}{σ:L2.St}{H1:aw}{D:ao}{n:aw->Prop}(Pv:Nat->aw->Prop)(r:Pv 0 (aE H1 D<|.bq []))
  (ai:∀i c H,x.cps[i]?=Y c->Pv i H->g (.str #[[c].toArray]) (jJ σ ac) H λd k=>jJ d ac=jJ σ ac/\tt d k λb h=>if b=O then eF d h λy f=>∃cK,f D=Y (.bq cK)/\z9 cK<sizeLine/\Pv (i+1) (aE f D<|.bq<|cK++[y])else Pv (i+1) h) (o:∀H,Pv x.cps.size H->n H):
  ∃W:Nat->Nat->aw->Prop,(∃m,W 0 m (aE H1 D<|.bq []))/\∀i m H,W i m H->
   ((wU x).stop i H/\n H)\/((wU x).go i H/\∃j:aw->Prop,(∀a,j a->∃aO,aO<m/\W (i+1) aO a)/\∀v a,(wU x).tr i H v a->g v (jJ σ ac) a λd k=>jJ d ac=jJ σ ac/\tt d k λb h=>if b=O then eF d h λy f=>∃cK,f D=Y (.bq cK)/\z9 cK<sizeLine/\j (aE f D<|.bq<|cK++[y])else j h):=by
 show#[λi m H=>m=x.cps.size-i/\i<=x.cps.size/\Pv i H,#[x.cps.size,bg,hQ _,r],?_]
 rintro i m H ⟨rfl,ak,p⟩
 by_cases l:i<x.cps.size
 .show .inr #[l,Pv<|i+1,λa q=>#[x.cps.size-(i+1),aV,Z,l,q],λv a y=>?_];let#[e,c,s,rfl]:=y;subst e;show ai i c _ s p
 .let e:i=x.cps.size:=by lia
  subst e;show .inl #[bK _,o H p]
def p0(l:br):List Key:=l.map λ(c:Nat)=>d2 (c:Int)
def HR(s:br):List Key×V:=(p0 s,.str<|kV s)
def pd:List (List Key×V):=sF.map HR
theorem Wk:∀{a b:br},p0 a=p0 b->a=b
 |[],[],_=>rfl
 |[],_::_,h=>by cases h
 |_::_,[],h=>by cases h
 |a::l,b::m,h=>by
  let c:=Ci h;let d:a=b:=by have:=Fo c.1;lia
  rw[d,Wk (a:=l) (b:=m) c.2]
theorem Wl(l:br):∀L:List br,ec (L.map HR) (p0 l)=if l∈L then Y (.str<|kV l)else U
 |[]=>rfl
 |s::L=>by
  rw[mH];by_cases h:s=l
  .rw[ml (show(HR s).1=p0 l by rw[h];rfl),aR<|by simp[h]];show Y (V.str<|kV s)=_;rw[h]
  .rw[iv (show ¬ (HR s).1=p0 l from λz=>h<|Wk z),Wl l L];by_cases m:l∈L
   .rw[aR m,aR<|e9 _ m]
   .rw[aM m,aM λz=>(eG.mp z).elim (λw=>h w.symm) m]
def Wm(l:br):l∈sF↔l∈fP:=by
 let a:∀s∈sF,s∈fP:=by decide +kernel
 let b:∀s∈fP,s∈sF:=by decide +kernel
 show#[a l,b l]
def Wn(l:br):ec pd (p0 l)=if l∈fP then Y (.str<|kV l)else none:=by
 unfold pd;rw[Wl];by_cases h:l∈fP
 .rw[aR h,aR<|(Wm l).mpr h]
 .rw[aM h,aM λz=>h<|(Wm l).mp z]
def ah8:∀i,i<23->∀s∈(sF[i+1]?).toList,gP (pd.take<|i+1) (p0 s) (.str<|kV s)=pd.take (i+1+1):=by
 have:∀i∈gK 23,∀s∈(sF[i+1]?).toList,decide (gP (pd.take<|i+1) (p0 s) (.str<|kV s)=pd.take (i+1+1))=true:=by decide +kernel
 show λi h s ai=>kc<|this i (nc.mpr h) s ai
def kt:DJ K (D.g 1) A0:=pG.kt
def Nh(l:br):(p0 l).map ez=d8 l:=by unfold p0 d8;rw[B2];rfl
def ah9:bX 1 34 (λac H Q _=>ac=[]/\∀p B,bh [] H B->H p=U->B p=Y (.eE pd)->Q (.ref p) B):=by
 show ek 34 ["table","sign","part"] λb6 A bc s H ac Q E m I h=>?_;let#[rfl,q]:=h;show#[_,(aU (dr 0 m<|ah4 (g5 I) (ll<|bo ea) fc)<|aU (qs i2 Z (Ru ea) (o6 1 m)<|aP<|qN (g5 I) (aa 0) (GD K2 Z Mw Ng<|bo<|Ua Z Z m (Lo<|aa 1) (own:=[("part",2)]) (show wR ["table","sign","part"] (hY<|st 34) _ _ from#[Z,eH,eH,eH,eH]) (λ_ _ _ _ _ _=>C3 (i:=2) m Z<|uy Z) (λ_ _ _ _ _ _ _=>Ld) λ_ _ _ _ _ _=>(j5 KH Z Mv Nf<|bo<|aa 2))<|aa 1)<|aP<|cS<|aa 0),?_];intro p aC;let#[M,L]:=T.afd;show#[.int 37,_,L,#[M,Z],by show 1<=sizeLine;decide,λt a=>#[t,[d2 37],Z,?_,bj,?_]]
 .rw[aK<|cx bj a];show bj
 let t1:t≠p:=λz=>by rw[z,bj]at a;cases a
 let' H1:aw:=aE (aE (aE H p<|.eE []) t<|.cu [.int 37]) p<|.eE [([d2 37],.str "remainder of")]
 let V:bh [] H H1:=λb o z _=>by let cf:b≠p:=cx z aC;show aE _ p _ b=_;rwa[aK cf,aK (λw=>by rw[<-w,aK cf]at a;cases a▸z),aK cf]
 show#[.ref _,_,T.afo,Z,9,#[_,kt _],?_];let N:z9 A0=23:=by decide +kernel
 show Rw (xs:=A0) (λi n g=>∃l r,n=[Y<|.ref p,l,r]/\bh [] H g/\g p=Y (.eE<|pd.take<|i+1)) #[U,U,Z,V,bj] (λi n g _ _=>kt _) (λi x n g D #[l,r,y,u,f]=>?_) λn g #[l,r,y,u,f]=>?_
 .subst y;unfold A0 at D;rw[r4,O7,EO 1 i]at D;let#[sg,ai,rfl]:=iW.mp D;let ak:i<23:=by
   have:=(jP.mp ai).1;let e:z9 sF=24:=by decide +kernel
   lia
  let P:=ah8 i ak sg (by rw[ai];simp);show#[9,9,9,9,λd F=>Wj (λj C=>C=aE g d (.bq<|(d8 sg).take j)) Z (λj c C X e=>?_) λC e=>?_]
  .subst e;show#[Z,?_];simp only[GJ,if_true];show#[9,9,Z,_,bj,?_,?_]
   .have:((d8 sg).take j).length<=z9 sg:=by rw[mG,ie];show OF ..
    let K:∀s∈sF,z9 s<=2:=by decide +kernel
    let bO:=K sg<|mF ai;have:65536<sizeLine:=by decide
    lia
   .rw[io];let W:(d8 sg)[j]?=Y (.int (c:Nat)):=tZ (by simpa [cZ] using X);rw[BX,W];rfl
  .subst e;let R:(d8 sg).take (cZ sg).cps.size=d8 sg:=by rw[OY];rw[ie];show qY (by simp[cZ])
   rw[R];show#[d,d8 sg,Z,.inl #[bM.of bj,λt a=>?_]];let eD:g p=_:=f;let G:p≠d:=cx f F;let pt:p≠t:=cx (show aE g d _ p=Y _ from(aK G).trans f) a;let fi:t≠d:=λz=>by rw[z,bj]at a;cases a
   show#[p,9,mm.t (k:=p0 sg) (by rwa[aK pt,aK G]) (by rw[Nh];show bj) ?_,_,9,?_,?_]
   .have:(pd.take<|i+1).length<=i+1:=by rw[mG];show OG ..
    have:65536<sizeLine:=by decide
    lia
   .intro b o z _;let v:=u b o z bg;let cf:b≠p:=cx z aC;let cv:b≠d:=cx v F;rwa[aK cf,aK (λw=>by rw[<-w,aK cv]at a;cases a▸v),aK cv]
   .rw[bj];let S:∀s∈sF.drop 1,cZ s=kV s:=by decide +kernel
    rw[S sg (mF (show(sF.drop 1)[i]?=Y sg by rw[O7,EO];show ai)),P]
 .subst y;rw[N]at f;have:pd.take (23+1)=pd:=by decide +kernel
  rw[this]at f;show#[9,q p _ u aC f]
def ox(d:br):Nat:=d.foldl (λk x=>10*k+(x-48)) 0
def Wo(d:br)(c:Nat):ox (d++[c])=10*ox d+(c-48):=by unfold ox;rw[Jj];rfl
def Wp:digit c=O↔48<=c/\c<=57:=by unfold digit;rw[Js,decide_eq_true_iff,decide_eq_true_iff]
def aia:∀(n:Nat) (d:br),z9 d=n->(∀c∈d,digit c=O)->ox d<10 ^ n:=by
 intro n
 induction n with
 |zero=>intro d a q;rw[ut.mp a];decide
 |succ n g=>
  intro d a b;obtain e|⟨f,x,e⟩:=OZ d
  .cases e▸a
  .rw[O0]at e;subst e;rw[ju]at a;let i:=g f (by simpa using a) λc h=>b c<|r2 _ h;let j:=Wp.mp<|b x bg;rw[Wo,Nat.pow_succ];lia
namespace Wq
def bN:ao×br->dC:=λ(dl,d)=>dZ [.ref dl] λH Q E=>H dl=Y (.bq<|d8 d)/\(∀c∈d,digit c=O)/\
  (10<z9 d\/2 ^ 31<=ox d->gd E (-3))/\(¬ (10<z9 d\/2 ^ 31<=ox d)->Q (.int (ox d:Nat)) H)
def W:=dR 41 ["digits","number","digit"] (λq=>3) bN
def dl:=W.a
def d:=W.i
def t:=fj W (dl,d) W.H W.Q W.E λf o h=>by
 let#[l,q,p,s]:=h;show#[_,aU (ed (d9 tA (j5 mY Z lr mD<|bo<|aa 0) ea) (aP<|i4 Z) eP)<|aU (dr 1 f cE)<|aU (qs i2 Z (uV<|aa 0) (o6 2 f)<|aP<|dr 1 f<|iO Gv (iO mW (iO KE (aa 1) cE)<|aa 2) ea)<|aU (ed (d9 RH (aa 1) ea) (aP<|i4 Z) eP)<|aP<|cS<|aa 1,#[9,dl,9,.inl<|bM.of l,nH T.aff #[_,9,Z,9,iR (λz=>?_) λz=>?_]]]
 .show vd.iB o<|p<|.inl ?_;have:=kc z;rw[ie]at this;lia
 .let le:z9 d<=10:=by have:¬ ((10:Int)<((d8 d).length:Nat)):=λw=>z<|gv w;rw[ie]at this;lia
  let r:∀i,ox (d.take i)<10000000000:=λi=>by
   let A:=aia _ (d.take i) Z λc h=>q c<|Jf h;let u:(d.take i).length<=10:=by rw[mG];lia
   let y:10 ^ (d.take i).length<=10 ^ 10:=Oz cn u;have:(10:Nat) ^ 10=10000000000:=by decide
   lia
  show#[9,dl,Z,#[_,bM.of l],?_];show yD (xs:=d8 d) (λi a H1=>H1=W.H/\∃g,a=[Y<|.ref dl,Y<|.int (ox (d.take i):Nat),g]) #[Z,U,Z] (λi a H1 _ #[e,_]=>by rw[e];show bM.of l) (λi x a H1 m #[e,g,k]=>?_) λa H1 #[e,g,k]=>?_
  .subst e k;unfold d8 at m;rw[r4]at m;let#[c,n,rfl]:=iW.mp m;let b:=r i;show#[9,_,9,Z,.inl #[aV,aV],9,_,9,Z,nH T.Uz #[_,9,Z,Z,Y<|.int (c:Nat),?_]];let v:=Wp.mp<|q c<|mF n;have:d.take (i+1)=d.take i++[c]:=by rw[BX,n];rfl
   rw[this,Wo];show [Y<|V.ref dl,Y<|V.int<|(ox (d.take i):Int)*10+(c:Nat)-48,Y<|V.int (c:Nat)]=_;rw[show(ox (d.take i):Int)*10+(c:Nat)-48=((10*ox (d.take i)+(c-48):Nat):Int)by lia]
  .subst e k;rw[ie,E2];show#[9,nH T.afg #[_,9,Z,9,iR (λj=>?_) λj=>?_]]
   .show vd.iB o<|p<|.inr ?_;have:=kc j;lia
   .show#[9,s λh=>?_];have:¬ ((2147483648:Int)<=(ox d:Nat)):=λw=>j<|gv w;lia
end Wq
theorem Nj(l:br)(k:Nat):∀L:List br,(∀s∈L,z9 s=k)->(L.find? λs=>s.isPrefixOf l)=if l.take k∈L then Y (l.take k)else U
 |[],_=>rfl
 |s::L,h=>by
  let ai:=h s bg;let a:=Nj l k L λt b=>h t<|e9 _ b;rw[nY];by_cases e:s=l.take k
  .have:s.isPrefixOf l=true:=by rw[I7,e];show List.take_prefix _ _
   rw[this,aR (by rw[e];simp)];show congrArg Y e
  .have:s.isPrefixOf l=false:=by
    cases q:s.isPrefixOf l with
    |false=>rfl
    |true=>show a8 (by rw[<-ai];show I9.mp<|I7.mp q) e
   rw[this,a];by_cases m:l.take k∈L
   .rw[aR m,aR<|e9 _ m]
   .rw[aM m,aM λz=>(eG.mp z).elim (λw=>e w.symm) m]
def aib(l:br):(fP.find? λs=>s.isPrefixOf l)=if 2<=z9 l/\l.take 2∈fP then Y (l.take 2)else if 1<=z9 l/\l.take 1∈fP then Y (l.take 1)else none:=by
 let e:fP=fP.take 6++fP.drop 6:=(Jd 6 _).symm;let d:∀s∈fP.take 6,z9 s=2:=by decide +kernel
 let c:∀s∈fP.drop 6,z9 s=1:=by decide +kernel
 let g:(2<=z9 l/\l.take 2∈fP)↔l.take 2∈fP.take 6:=by
  constructor
  .intro#[a,b];rw[e]at b;obtain b|b:=iV.mp b
   .show b
   .have:=c _ b;rw[mG]at this;lia
  .intro a;have:=d _ a;rw[mG]at this;show#[aV,Jf a]
 let h:(1<=z9 l/\l.take 1∈fP)↔l.take 1∈fP.drop 6:=by
  constructor
  .intro#[a,b];rw[e]at b;obtain b|b:=iV.mp b
   .have:=d _ b;rw[mG]at this;lia
   .show b
  .intro a;have:=c _ a;rw[mG]at this;show#[aV,O3 a]
 let f:(fP.find? λs=>s.isPrefixOf l)=((fP.take 6).find? λs=>s.isPrefixOf l).or ((fP.drop 6).find? λs=>s.isPrefixOf l):=by rw[<-O9,Jd]
 rw[f,Nj l 2 _ d,Nj l 1 _ c];by_cases a:2<=z9 l/\l.take 2∈fP
 .rw[aR a,aR<|g.mp a];rfl
 .rw[aM a,aM λz=>a<|g.mpr z];by_cases b:1<=z9 l/\l.take 1∈fP
  .rw[aR b,aR<|h.mp b];rfl
  .rw[aM b,aM λz=>b<|h.mpr z];rfl
def Wr(b:br)(p e:Nat)(h1:p<=e)(a:e<=z9 b):yG (d8 b) (Y (p:Int)) (Y (e:Int))=d8 ((b.drop p).take<|e-p):=by unfold yG;rw[mX.Sa,mX.Sa,ie,IP a,IP<|dK h1 a];unfold d8;rw[<-List.map_drop,<-List.map_take]
noncomputable def D8:br->Option Nat
 |[]=>U
 |c::r=>if digit c=O then Y ((c::r).takeWhile digit).length else if mE c=O then Y ((c::r).takeWhile λx=>mE x||digit x).length else (fP.find? λs=>s.isPrefixOf (c::r)).map (·.length)
def aic(p:Nat)(H:aw)(Q:ck)(E:dG):Option Nat->Prop
 |none=>gd E<|-3
 |some k=>∀a,bh [] H a->Q (.int ((p+k:Nat):Int)) a
namespace Ws
def bN:ao×br×Nat×ao×ao->dC:=λ(dp,b,p,lt,sg)=>dZ [.ref dp,.int (p:Nat),.ref lt,.ref sg] λH Q E=>bM K H dp (d8 b)/\(∀c∈b,c<256)/\H lt=Y (.cY mA)/\H sg=Y (.eE pd)/\p<z9 b/\aic p H Q E (D8<|b.drop p)
def W:=dR 36 ["text","place","letters","signs","end"] (λq=>3) bN
def dp:=W.a
def b:=W.b
def p:=W.c
def qR:=W.d
def sg:=W.l
def H:=W.H
def t:=fj W (dp,b,p,qR,sg) H W.Q W.E λX l h=>by
 let#[j,I,F,Br,lt,q]:=h;show#[_,aU (ed (iz<|cP aQ<|bo<|iA (aa 0)<|aa 1) (aP<|cS<|cP aQ<|cH (aa 0)<|aa 1) eP)<|aU (ed (wA<|GM (g5 l) (iA (aa 0)<|aa 1)<|aa 2) (aP<|cS<|cP aQ<|fX (aa 0)<|cH (aa 1)<|aa 2) eP)<|aU (qs i2 Z (Ru<|ll<|cH (iO mW (aa 1) cE)<|iO mW (aa 1) cE) (o6 4 X)<|aP<|ed (me.pt<|Aq (d9 wK (aa 4)<|j5 mY Z lr mD<|bo<|aa 0)<|C1<|wA<|GM (g5 l) (GD K2 Z Mw Ng<|bo<|Sb Sj (aa 0) (GE<|aa 1)<|GE<|aa 4)<|aa 3) (aP<|cS<|aa 4) eP)<|aP<|i4 Z,?_];let D:b[p]?=Y b[p]:=pq lt;let n:b.drop p=b[p]::b.drop (p+1):=ur lt;let K:=I _<|zN lt;generalize b[p]=y at D n K;rw[n]at q;unfold D8 at q;dsimp only at q;show cm (T.t 37 Z) ?_;show#[9,9,.inl #[dp,_,p,9,Z,j,qw<|tZ D,dk (Nc) l.bH #[y,Z,9,?_]]];by_cases r:digit y=O
 .rw[aR r]at q;rw[r];show dw ?_;show cm (T.t 38 Z) ?_;show#[9,9,dk (Wf.t) l.bH #[(dp,b,p),Z,j,ul lt,?_]];rw[n];show q H bh.hW
 rw[aM r]at q;rw[B5.mpr r];show di #[9,9,.inl #[dp,_,p,9,Z,j,qw<|tZ D,9,qR,9,g4.k (k:=d2 (y:Int)) F,9,?_]];rw[HQ K,B5.mpr r,Ph];by_cases v:mE y=O
 .rw[aR v]at q;rw[v];show dw ?_;show cm (T.t 39 Z) ?_;show#[9,9,9,dk (Wh.t) l.bH #[(dp,b,p,qR),Z,j,I,F,ul lt,?_]];rw[n];show q H bh.hW
 rw[aM v]at q;rw[B5.mpr v];show di ?_;rw[aib,<-n]at q;let vm:(b.drop p).length=z9 b-p:=ho ..;show#[9,_,9,Z,9,_,9,Z,by show 2<=sizeLine;decide,λt R=>#[t,Z,#[_,gb.of bj],?_]];let P:bh [] H (aE H t<|.cu [.int<|(p:Int)+2,.int<|(p:Int)+1]):=bh.g6 R;show Rw (xs:=[.int<|(p:Int)+2,.int<|(p:Int)+1]) (λi σ f=>∃e,σ=[Y<|.ref dp,Y<|.int (p:Nat),Y<|.ref qR,Y<|.ref sg,e]/\bh [] H f/\f t=Y (.cu [.int<|(p:Int)+2,.int<|(p:Int)+1])/\
   (1<=i->¬ (2<=(b.drop p).length/\(b.drop p).take 2∈fP))/\(2<=i->¬ (1<=(b.drop p).length/\(b.drop p).take 1∈fP))) #[U,Z,P,bj,λz=>by lia,λz=>by lia] (λi σ f _ #[e,7,bO,_]=>gb.of bO) (λi x σ f u #[e,G,g,B,a,c]=>?_) λσ f #[e,G,g,B,a,c]=>?_
 .subst G;let N:∃k,k=2-i/\i<2/\x=.int ((p+k:Nat):Int):=by
   match i,u with
   |0,u=>cases u;show#[2,Z,cn,Z]
   |1,u=>cases u;show#[1,Z,cn,Z]
  let#[k,A,ak,rfl]:=N;let go:∀s,bh [] H s->s t=Y (.cu [.int<|(p:Int)+2,.int<|(p:Int)+1])->¬ (k<=(b.drop p).length/\(b.drop p).take k∈fP)->∃e:Option V,[Y<|V.ref dp,Y<|V.int (p:Nat),Y<|V.ref qR,Y<|V.ref sg,Y<|V.int ((p+k:Nat):Int)]=[Y<|V.ref dp,Y<|V.int (p:Nat),Y<|V.ref qR,Y<|V.ref sg,e]/\bh [] H s/\s t=Y (.cu [.int<|(p:Int)+2,.int<|(p:Int)+1])/\
    (1<=i+1->¬ (2<=(b.drop p).length/\(b.drop p).take 2∈fP))/\(2<=i+1->¬ (1<=(b.drop p).length/\(b.drop p).take 1∈fP)):=by
   intro s oN M no
   show#[9,oN,M,λ_=>?_,λaj=>?_]
   .by_cases gR:i=0
    .rw[A,gR]at no;show no
    .show a<|OC gR
   .rw[A,show i=1 by clear a c;lia]at no;show no
  show#[9,9,dp,9,.inl<|(g.gC j bg),_,9,Z,9,iR (λz=>?_) λz=>?_]
  .let le:p+k<=z9 b:=by have:=kc z;rw[ie]at this;clear a c;lia
   show#[9,9,9,9,9,dp,9,g.gC j bg,λd L=>#[d,9,.inl #[bM.of bj,λfQ hB=>?_]]];let o:bh [] f (aE (aE f d<|.bq<|yG (d8 b) (Y (p:Int))<|Y ((p+k:Nat):Int)) fQ<|.cu<|yG (d8 b) (Y (p:Int))<|Y ((p+k:Nat):Int)):=(bh.g6 L).bw<|bh.g6 hB;rw[Wr b p (p+k) (EM ..) le,Oy]at o ⊢;show#[9,sg,9,g4.t (k:=p0<|(b.drop p).take k) (o _ _ (g _ _ Br bg) bg) (by rw[Nh];show bj),9,?_];rw[Wn];by_cases m:(b.drop p).take k∈fP
   .rw[aR m];show dw #[9,?_];let C:(if 2<=(b.drop p).length/\(b.drop p).take 2∈fP then Y ((b.drop p).take 2)else if 1<=(b.drop p).length/\(b.drop p).take 1∈fP then Y ((b.drop p).take 1)else U)=Y ((b.drop p).take k):=by
     by_cases gR:i=0
     .let S:k=2:=by rw[A,gR]
      subst S;rw[aR #[by clear a c;lia,m]]
     .let dW:k=1:=by clear a c;lia
      subst dW;rw[aM<|a<|OC gR,aR #[by clear a c;lia,m]]
    rw[C]at q;let q:∀ab,bh [] H ab->W.Q (.int ((p+((b.drop p).take k).length:Nat):Int)) ab:=q;rw[mG,IP (by clear a c;lia)]at q;show q _<|g.bw o
   .rw[aM m];show di<|go _ (g.bw o) (o _ _ B bg) λh=>m h.2
  .show di<|go f g B λh=>?_;have:¬ (((p+k:Nat):Int)<=((d8 b).length:Nat)):=λw=>z<|gv w;rw[ie]at this;clear a c;lia
 .rw[aM (a<|show 1<=2 by decide),aM<|c<|show 2<=2 by decide]at q;show vd.iB (σ:=[]) (vc:={cM:=λ_ _=>True,n9:=λ_ _=>True}) l q
end Ws
inductive Ea(l:br):Option Tk->Prop where
 |cA:(∀c∈l,digit c=O)->Ea l (if 10<z9 l\/2 ^ 31<=ox l then U else Y (.num<|ox l))
 |lE:(∀c∈l,(mE c||digit c)=O)->(∀c r,l=c::r->digit c=J)->Ea l (Y<|.name l)
 |Wt:l∈fP->Ea l (Y<|.sign l)
def aid(H:aw)(Q:ck)(E:dG):Option Tk->Prop
 |none=>gd E<|-3
 |some t=>∀a b,bh [] H b->H a=U->b a=Y (.cu [.str<|xe<|Y t,xf<|Y t])->Q (.ref a) b
def mn:DJ K (D.g 0) A1:=pG.mn
def aie(l:br):Fq "" (l.map λc=>cZ [c])=cZ l:=by
 let e:∀(m:br) (a:Array Nat),(m.map λc=>cZ [c]).foldl (λb p=>b++(ux "").cps++p.cps) a=a++m.toArray:=by
  intro m
  induction m with
  |nil=>intro a;simp
  |cons c m d=>intro a;rw[mH,Pb,d];let f:(ux "").cps=[].toArray:=rfl;rw[f];apply Array.toList_inj.mp;simp[cZ]
 unfold Fq Builtin.Str.glued
 cases l with
 |nil=>rfl
 |cons c r=>show(#[((r.map λc=>cZ [c]).foldl (λb p=>b++(ux "").cps++p.cps) (cZ [c]).cps)]:Str)=cZ (c::r);rw[e];show(#[[c].toArray++r.toArray]:Str)=#[(c::r).toArray];congr 1;simp
theorem Wu:∀l:br,((l.map λc=>cZ [c]).map (·.length)).sum=z9 l
 |[]=>rfl
 |c::r=>by rw[mH,mH,List.sum_cons,Wu r,gi];show 1+z9 r=_;lia
def aif(w:br):Da (.str<|cZ w) A1=Sn24.kept.contains w:=by
 unfold A1 Da;rw[List.any_map,List.contains_eq_any_beq];congr 1;funext s;show(cZ s==cZ w)=(w==s);by_cases h:s=w
 .rw[h];simp
 .let a:(cZ s==cZ w)=false:=beq_eq_false_iff_ne.mpr λz=>h<|DO z;let b:(w==s)=false:=beq_eq_false_iff_ne.mpr<|c5 h;rw[a,b]
namespace Wv
def bN:ao×br×ao×ao×Option Tk->dC:=λ(cl,l,lt,sg,o)=>dZ [.ref cl,.ref lt,.ref sg] λH Q E=>H cl=Y (.bq<|d8 l)/\l≠[]/\z9 l<=65536/\(∀c∈l,c<256)/\H lt=Y (.cY mA)/\H sg=Y (.eE pd)/\Ea l o/\aid H Q E o
def W:=dR 40 ["codes","letters","signs","word","code"] (λq=>4) bN
def cl:=W.a
def l:=W.b
def qR:=W.c
def H:=W.H
def t:=fj W (cl,l,qR,W.d,W.l) H W.Q W.E λz u h=>by
 let#[m,ne,len,L,v,Br,ts,q]:=h
 generalize W.l=W.l at*
 generalize l=l at*
 show#[_,(aU (ed (iz<|cP aQ<|bo<|iA (aa 0) cE) (aP<|cS<|ll<|cH ea<|cP aQ<|bo<|aa 0) eP)<|aU (ed (wA<|Lk (g5 u) (iA (aa 0) cE)<|aa 1) (aP<|cS<|ll<|cH ea<|sK (g5 u) (aa 2)<|GD K2 Z Mw Ng<|bo<|aa 0) eP)<|aU (dr 3 z<|abE fc<|Ua Z Z z (uV<|aa 0) (own:=[("code",4)]) (show wR ["codes","letters","signs","word","code"] (hY<|st 40) _ _ from#[Z,eH,eH,eH,eH]) (λ_ _ _ _ _ _=>C3 (i:=4) z Z<|uy Z) (λ_ _ _ _ _ _ _=>Ld) λ_ _ _ _ _ _=>(sK (g5 u) (aa 1)<|aa 4))<|aU (ed (d9 aax (aa 3) ea) (aP<|cS<|ll<|cH ea<|aa 3) eP)<|aP<|cS<|ll<|cH ea<|aa 3),?_]
 obtain⟨fT,X,p⟩:∃c r,l=c::r:=by
  cases l with
  |nil=>show a8 Z ne
  |cons c r=>show#[c,r,Z]
 let A:l[0]?=Y fT:=by rw[p];rfl
 let R:=L fT (by rw[p];simp)
 show cm (T.t 37 Z) ?_
 show#[9,.inl #[cl,_,0,9,Z,bM.of m,qw<|tZ A,dk (Nc) u.bH #[fT,Z,9,?_]]]
 cases ts with
 |cA j=>
  rw[j fT (by rw[p];simp)];show dw ?_;let#[o,n]:=T.Uw;show#[.str "number",_,n,#[o,Z],?_];show cm (T.t 41 Z) ?_;show#[9,dk (Wq.t) u #[(cl,l),Z,m,j,λh=>?_,λh=>?_]]
  .rw[aR h]at q;show q
  .rw[aM h]at q;show#[by show 2<=sizeLine;decide,λa f=>q a _ (bh.g6 f) f bj]
 |Wt ai=>
  let bb:∀s∈fP,∀c∈s.head?.toList,c<256/\digit c=J/\mE c=false:=by decide +kernel
  let#[_,w,B]:=bb l ai fT (by rw[p];simp);rw[w];show di #[9,.inl #[cl,_,0,9,Z,bM.of m,qw<|tZ A,9,qR,9,g4.k (k:=d2 (fT:Int)) v,9,?_]];rw[HQ R,w,B];show dw ?_;let#[o,n]:=T.Mf;show#[.str "fixed",_,n,#[o,Z],9,9,cl,9,.inl #[bM.of m,λt G=>?_]];let g:=g4.t (H:=aE H t<|.cu<|d8 l) (a:=W.d) (b:=t) (k:=p0 l) (bh.g6 (M:=[]) G W.d _ Br bg) (by rw[Nh];show bj);rw[Wn,aR ai]at g;show#[W.d,9,g,by show 2<=sizeLine;decide,λa f=>q a _ ((bh.g6 G).bw<|bh.g6 f) (fO f) bj]
 |lE P j=>
  let w:=j fT X p;let B:=P fT (by rw[p];simp);rw[w];show di #[9,.inl #[cl,_,0,9,Z,bM.of m,qw<|tZ A,9,qR,9,g4.k (k:=d2 (fT:Int)) v,9,?_]];rw[HQ R,B];show di #[#[9],9,cl,Z,#[_,bM.of m],λd j=>?_];let C:cl≠d:=cx m j;let y:qR≠d:=cx v j;let big:65536<sizeLine:=by decide
  show SG (xs:=d8 l) (λi H1=>H1=aE H d (.bq<|(l.take i).map λc=>V.str<|cZ [c])) Z (λi H1 _ e=>by rw[e];show bM.of<|(aK C).trans m) (λi x H1 D e=>?_) λH1 e=>?_
  .subst e;unfold d8 at D;rw[r4]at D;let#[c,F,rfl]:=iW.mp D;show#[Z,?_];simp only[GJ,if_true];let I:=mF F;let g:=g4.k (H:=aE H d<|.bq<|(l.take i).map λc=>V.str<|cZ [c]) (a:=qR) (k:=d2 (c:Int))<|(aK y).trans v;let S:=P c I;rw[Wg c<|L c I,aR<|by simpa using S]at g;show#[9,9,qR,9,g,_,bj,?_,?_]
   .rw[hR,mG];lia
   .rw[io,BX,F,r5];rfl
  .subst e;rw[ie,E2];show#["",d,l.map λc=>cZ [c],Z,Z,.inl (bM.of (by rw[bj,B2];rfl)),?_,?_]
   .let aq:=Wu l;rw[aq];show z9 l+_*0<=_;lia
   .rw[aie]
    let N:bh [] H (aE H d<|.bq<|l.map λc=>V.str<|cZ [c]):=bh.g6 j
    show#[9,.ref _,_,T.afn,Z,_,9,.inr<|mn _,Z,eH,9,?_]
    show if Da (.str<|cZ l) A1=O then _ else _
    rw[aif]
    let q:∀a ab,bh [] H ab->H a=U->ab a=Y (.cu [.str (if Sn24.kept.contains l=O then "fixed" else "name"),.str<|cZ l])->W.Q (.ref a) ab:=q
    cases K:Sn24.kept.contains l with
    |true=>rw[K]at q;show dw ?_;let#[o,n]:=T.Mf;show#[.str "fixed",_,n,#[o,Z],9,by show 2<=sizeLine;decide,λa f=>q a _ (N.bw<|bh.g6 f) (fO f) bj]
    |false=>rw[K]at q;show di ?_;let#[o,n]:=T.Ux;show#[.str "name",_,n,#[o,Z],9,by show 2<=sizeLine;decide,λa f=>q a _ (N.bw<|bh.g6 f) (fO f) bj]
end Wv
def Ww(f:Nat->Bool)(l:br):l.take (l.takeWhile f).length=l.takeWhile f:=(I9.mp<|Je f).symm
def Wx(f:Nat->Bool)(l:br):∀c∈l.takeWhile f,f c=true:=λc h=>by
 induction l with
 |nil=>cases h
 |cons d r a=>
  rw[vR]at h
  cases q:f d with
  |false=>cases q▸h
  |true=>
   rw[q]at h;obtain e|h:=eG.mp h
   .rw[e];show q
   .show a h
def aii(c:Nat)(r:br):(D8 (c::r)=U/\te (c::r)=U)\/∃k o,D8 (c::r)=Y k/\0<k/\k<=(c::r).length/\Ea ((c::r).take k) o/\te (c::r)=o.map λt=>(t,k):=by
 unfold D8 te;dsimp only;by_cases a:digit c=O
 .rw[aR a,aR a];right;show#[_,9,?_,(Je _).length_le,by rw[Ww];show .cA<|Wx _ _,?_]
  .rw[vR,a];simp
  .show(if _ then U else _)=Option.map _ (if _ then U else _);by_cases z:10<((c::r).takeWhile digit).length\/2 ^ 31<=ox ((c::r).takeWhile digit)
   .rw[aR z,aR<|show 10<((c::r).takeWhile digit).length\/2 ^ 31<=((c::r).takeWhile digit).foldl (λk x=>10*k+(x-48)) 0 from z];rfl
   .rw[aM z,aM<|show ¬ (10<((c::r).takeWhile digit).length\/2 ^ 31<=((c::r).takeWhile digit).foldl (λk x=>10*k+(x-48)) 0)from z];rfl
 .rw[aM a,aM a];by_cases b:mE c=O
  .rw[aR b,aR b];right;let f:∀d s,(c::r).takeWhile (λx=>mE x||digit x)=d::s->digit d=false:=λd s e=>by rw[vR,b]at e;have:c=d:=(Ci e).1;rw[<-this];show B5.mpr a
   show#[_,9,?_,(Je _).length_le,by rw[Ww];show .lE (Wx _ _) f,Z];rw[vR,b];simp
  .rw[aM b,aM b]
   cases q:fP.find? λs=>s.isPrefixOf (c::r)with
   |none=>show .inl #[Z,Z]
   |some s=>right;let m:=xS q;let pre:=I7.mp<|zO (p:=λs=>List.isPrefixOf s (c::r)) q;show#[z9 s,Y<|.sign s,Z,Qm m,pre.length_le,by rw[<-I9.mp pre];show .Wt m,Z]
structure zi(H:aw)(dd:List V)(ts:List Tk):Prop where
 eM:z9 dd=z9 ts
 nG:∀j,j<z9 ts->∃a,dd[j]?=Y (.ref a)/\H a=Y (.cu [.str<|xe ts[j]?,xf ts[j]?])
def zi.ee(h:zi H dd ts)(kt:eW H ab):zi ab dd ts:=#[h.eM,λj d=>by let#[a,b,c]:=h.nG j d;show#[a,b,kt _ _ c]]
def zi.m2(h:zi H dd ts)(e:H a=Y (.cu [.str<|xe<|Y t,xf<|Y t])):zi H (dd++[.ref a]) (ts++[t]):=by
 show#[by simp[h.eM],λj f=>?_];by_cases z:j<z9 ts
 .let#[b,c,d]:=h.nG j z;show#[b,by rwa[vQ (by rw[h.eM];show z)],by rwa[vQ z]]
 .have:j=z9 ts:=by simp at f;lia
  subst this;show#[a,by rw[<-h.eM];simp,by simpa using e]
namespace Wy
def bN:ao×br->dC:=λ(dp,b)=>dZ [.ref dp] λH Q E=>bM K H dp (d8 b)/\z9 b<=65536/\(∀c∈b,c<256)/\zb H Q E (jR b)
def W:=dR 32 ["text","letters","signs","tokens","place","end"] (λq=>5) bN
def dp:=W.a
def b:=W.i
def H:=W.H
def Q:=W.Q
def E:=W.E
def t:=ee W (dp,b) H Q E λv n h=>by
 let#[B,len,hr,q]:=h;show#[_,aU (dr 1 v<|pR aQ ea)<|aU (dr 2 v<|pR aQ ea)<|aU (dr 3 v<|oa nx)<|aU (dr 4 v<|cP aQ<|cH (aa 0) cE)<|aU (pL i2 (d9 wJ (aa 4)<|j5 mY Z lr mD<|bo<|aa 0)<|aU (dr 5 v<|cP aQ<|fX (aa 0)<|fX (aa 4)<|cH (aa 1)<|aa 2)<|aU (cU<|iP cf cv fo jm (aa 3)<|bo<|cP aQ<|fX (Sb Sj (aa 0) (GE<|aa 4)<|GE<|aa 5)<|cH (aa 1)<|aa 2)<|aP<|dr 4 v<|cP aQ<|cH (aa 0)<|aa 5)<|aU (cU<|iP cf cv fo jm (aa 3)<|bo<|ll<|cH ea fc)<|aP<|cS<|aa 3,?_];let big:65536<sizeLine:=by decide
 show cm (T.t 33 Z) ?_;show dk (ah7) n.bH #[Z,λlt HS=>?_];let gr:bh [] H (aE H lt<|.cY mA):=bh.g6 HS;show cm (T.t 34 Z) ?_;show dk (ah9) n.bH #[Z,λsg I N amt Br=>?_];let gz:I lt=Y (.cY mA):=N _ _ bj bg;show#[by show 0<=sizeLine;decide,λa3 G=>?_];let oN:bh [] H (aE I a3<|.bq []):=(gr.bw N).bw<|bh.g6 G;let sN:H a3=none:=eA.eX (gr.bw N) (λb z=>by cases z) G;let R:aE I a3 (.bq []) lt=Y (.cY mA):=(aK<|cx gz G).trans gz;let P:aE I a3 (.bq []) sg=Y (.eE pd):=(aK<|cx Br G).trans Br;show cm (T.t 35 Z) ?_;show#[9,dk (Nd.t) n.bH #[(dp,b,0),Z,oN.gC B bg,hQ _,?_]];let jL:zb H Q E ((jR<|b.drop<|0+hT J (b.drop 0)).map λl=>[]++l):=by rw[IQ];let e:=(FG b).1;rw[Jo,<-e];simpa using q
 let s0:=Cs J<|b.drop 0;rw[ho]at s0;show#[λu σ g=>∃(p:Nat) (m:List V) (f:List Tk) (dL:Option V),u=z9 b-p/\σ=[Y<|.ref dp,Y<|.ref lt,Y<|.ref sg,Y<|.ref a3,Y<|.int (p:Nat),dL]/\bh [] H g/\g lt=Y (.cY mA)/\g sg=Y (.eE pd)/\g a3=Y (.bq m)/\zi g m f/\z9 f<=p/\p<=z9 b/\(∀c r,b.drop p=c::r->¬v7 c/\c≠35)/\zb H Q E ((jR<|b.drop p).map λl=>f++l),
  #[7,[],[],U,Z,Z,oN,R,P,bj,#[Z,λj aW=>by cases aW],hQ _,aV,λc r e=>z1 J b c r (by rw[<-e,IQ,Jo]),jL],?_]
 rintro u σ g ⟨p,m,f,dL,rfl,rfl,D,K,L,i,ft,yd,lH,hd,q⟩;show#[9,9,dp,9,.inl<|(D.gC B bg),_,9,Z,9,iR (λz=>?_) λz=>?_]
 .let lt':p<z9 b:=by have:=kc z;rw[ie]at this;lia
  show#[_,λ_ _ b3=>b3,?_];let C:b.drop p=b[p]::b.drop (p+1):=ur lt';generalize b[p]=fT at C;let nb:=hd _ _ C;rw[C,Qn nb]at q;show cm (T.t 36 Z) ?_;show#[9,9,9,9,dk (Ws.t) n.bH #[(dp,b,p,lt,sg),Z,D.gC B bg,hr,K,L,lt',?_]];rw[C];obtain⟨y,s⟩|⟨k,o,y,dX,pc,Wz,s⟩:=aii fT (b.drop<|p+1)
  .rw[s]at q;rwa[y]
  .rw[y];intro F qD;rw[s]at q;rw[<-C]at pc Wz q;let vm:(b.drop p).length=z9 b-p:=ho ..;let h8:∀{a o},g a=Y o->F a=Y o:=λz=>qD _ _ z bg;show#[9,.inl #[Z,_,bM.of<|h8 i],?_];show cm (T.t 40 Z) ?_;show#[9,9,9,9,9,dp,9,((D.gC B bg).to λ_=>h8),λd X=>?_];rw[Wr b p (p+k) (EM ..) aV,Oy];let qE:bh [] F (aE F d<|.bq<|d8<|(b.drop p).take k):=bh.g6 X;let AX:∀{a o},g a=Y o->aE F d (.bq<|d8<|(b.drop p).take k) a=Y o:=λz=>qE _ _ (h8 z) bg;show#[9,9,dk (Wv.t) n #[(d,_,lt,sg,o),Z,bj,?_,?_,?_,AX K,AX L,Wz,?_]]
   .intro z;have:((b.drop p).take k).length=0:=by rw[z];rfl
    rw[mG]at this;lia
   .rw[mG];lia
   .show λc h=>hr c<|O3<|Jf h
   .cases o with
    |none=>show q
    |some t=>
     let q:zb H Q E (((jR<|(b.drop p).drop k).map λl=>t::l).map λl=>f++l):=q;intro a kO sq x S;let A:bh [] g kO:=(qD.bw qE).bw sq;let WA:kO a3=Y (.bq m):=A _ _ i bg;show#[a3,m,9,Z,WA,by rw[ft.eM];lia,?_];let' Hk:aw:=aE kO a3<|.bq<|m++[.ref a]
     let WB:bh [] H Hk:=λc o z _=>by show aE kO a3 _ c=_;rw[aK<|cx z sN];show A _ _ (D _ _ z bg) bg
     let WC:eW kO Hk:=eW.nI WA (by intro xs z;cases z);show cm (T.t 35 Z) ?_;show#[9,9,dk (Nd.t) n.bH #[(dp,b,p+k),Z,WB.gC B bg,aV,?_]];let c2:=Cs J<|b.drop<|p+k;rw[ho]at c2;show#[z9 b-(p+k+hT J (b.drop<|p+k)),aV,p+k+hT J (b.drop<|p+k),m++[.ref a],f++[t],9,Z,WB,?_,?_,bj,(ft.ee λc xs z=>WC _ _<|A _ _ z bg).m2<|WC _ _ S,by rw[ju];show z9 f+1<=_;lia,aV,λc r e=>?_,?_]
     .show aE kO a3 _ lt=_;rw[aK<|iL K i (by intro z;cases z)];show A _ _ K bg
     .show aE kO a3 _ sg=_;rw[aK<|iL L i (by intro z;cases z)];show A _ _ L bg
     .show z1 J (b.drop<|p+k) c r (by rwa[Jp])
     .rw[Jp,(FG<|b.drop<|p+k).1,Jp]at q
      cases u:jR (b.drop<|p+k+hT J (b.drop<|p+k))with
      |none=>rwa[u]at q
      |some l=>rw[u]at q;let q:zb H Q E (Y<|f++(t::l)):=q;show zb H Q E (Y<|(f++[t])++l);rwa[m9]
 .let qM:p=z9 b:=by have:¬ ((p:Int)<((d8 b).length:Nat)):=λw=>z<|gv w;rw[ie]at this;lia
  rw[qM,sZ,J1]at q;let q:∀a3 ab,bh [] H ab->H a3=U->xg ab a3 (f++[])->Q (.ref a3) ab:=q;rw[uv]at q;show#[9,.inl #[Z,_,bM.of i],?_];let#[t0,dz]:=T.Uy;show#[.str "end",_,dz,#[t0,Z],by show 2<=sizeLine;decide,λa x=>?_];let HT:aE g a (.cu [.str "end",.str ""]) a3=Y (.bq m):=(aK<|cx i x).trans i;show#[a3,m,9,Z,HT,by rw[ft.eM];lia,9,q a3 _ ?_ sN #[_,bj,by simp[ft.eM],λj aW=>?_]]
  .intro c o z _;rw[aK<|cx z sN];show(bh.g6 (M:=[]) x) _ _ (D _ _ z bg) bg
  .let na:a≠a3:=λw=>by rw[w,i]at x;cases x
   by_cases z:j<z9 f
   .let#[c,y,s]:=ft.nG j z;show#[c,by rwa[vQ (by rw[ft.eM];show z)],?_];rw[aK<|iL s i (by intro z;cases z)];show(bh.g6 (M:=[]) x) _ _ s bg
   .let CU:j=z9 f:=by lia
    subst CU;show#[a,by rw[<-ft.eM];simp,?_];rw[aK na,bj,qa<|bK _];rfl
end Wy
def ain:bX 20 32 Bn:=kR.up (j:=6)<|Wy.t.i5 λw w w w h=>by let#[b,a,e,q]:=h;show#[(b,a),Z,e,q]
set_option genCtorIdx true in
inductive jr where
 |b0|b5|cg
 |ag (i:Nat)|a6 (i:Nat)|bI (i:Nat)
 |aH (c:Nat)|hC (c:Nat)|g8 (c:Nat)
 |a0 (f:Nat)
 deriving DecidableEq
structure t4 where
 az:Nat
 a9:Nat
 a5:Nat
 ce:Nat
def aA.b1(m:aA):t4:=#[m.az,m.a9,m.a5,m.c3]
def dS(N:t4):jr->Prop
 |.ag i=>i<N.az
 |.a6 i=>i<N.az
 |.bI i=>i<N.az
 |.aH c=>c<N.a9
 |.hC c=>c<N.a9
 |.g8 c=>c<N.a9
 |.a0 f=>f<N.a5
 |_=>True
inductive hZ where
 |b0 (steps az over cells a9:Nat)
 |b5 (l:List Nat)
 |cg (l:br)
 |ag (p:Option Nat) (r:Bool) (w:Nat)
 |a6 (l:List (kH×Nat))
 |bI (l:List Nat)
 |aH
 |hC (l:List (Nat×Int))
 |g8 (l:List (Nat×Nat×Nat×Option cJ))
 |a0 (fr:jw)
noncomputable def kD(m:aA):jr->hZ
 |.b0=>.b0 m.fx m.az m.d4 m.c3 m.a9
 |.b5=>.b5 m.b5
 |.cg=>.cg m.cg
 |.ag i=>.ag (m.ag i).hp (m.ag i).cp (m.ag i).ey
 |.a6 i=>.a6 (m.ag i).a6
 |.bI i=>.bI (m.ag i).bI
 |.aH _=>.aH
 |.hC c=>.hC (m.aH c).ep
 |.g8 c=>.g8 (m.aH c).dn
 |.a0 f=>.a0<|m.a0 f
structure eQ where
 im:aw
 ad:jr->ao
 ef:ao
instance:Nonempty eQ:=#[#[λq=>U,λq=>0,0]]
instance:Nonempty aA:=#[#[0,λq=>#[[],O,U,0,[]],0,λq=>#[[],[]],0,λq q=>U,[],0,0,[],0]]
def rI(D:ej)(a:aw)(v:V):kH->Prop
 |.cq x=>da D (λq=>True) a v x
 |.fw l=>ly D (λq=>True) a v l
noncomputable def vn(G:eQ)(a e c b d:Int):List (Str×V):=[("processes",.ref G.ef),("steps",.int a),("row",.ref<|G.ad .b5),("tasks_made",.int e),("tasks_over",.int c),("cells_made",.int b),("channels_made",.int d),("written",.ref<|G.ad .cg)]
noncomputable def vo(G:eQ):Option Nat->V
 |none=>.bB
 |some p=>.ref<|G.ad<|.ag p
def zj(G:eQ)(i:Nat)(p:Option Nat)(r:Bool)(w:Int):List (Str×V):=[("number",.int ((i+1:Nat):Int)),("parent",vo G p),("things",.ref<|G.ad<|.a6 i),("ready",.cC r),("waits_for",.int w),("takes_from",.ref<|G.ad<|.bI i)]
structure Bt(D:ej)(G:eQ)(N:t4)(v:V)(t:kH×Nat):Prop where
 ob:∃a u,v=.ref a/\G.im a=Y (.cu [u,.ref<|G.ad<|.a0 t.2])/\rI D G.im u t.1
 lt:t.2<N.a5
def g9(v:Int):Prop:=-2147483648<=v/\v<2147483648
structure xv(D:ej)(G:eQ)(N:t4)(cV:Key×V)(e:Nat×Int):Prop where
 k:cV.1=d2 ((e.1+1:Nat):Int)
 ob:∃a d,cV.2=.ref a/\G.im a=Y (.b7 (D.c 1) d [("task",.ref<|G.ad<|.ag e.1),("number",.int e.2)])
 lt:e.1<N.az
 lb:g9 e.2
def WD(D:ej)(a:aw)(v:V):Option cJ->Prop
 |none=>v=.bB
 |some x=>da D (λq=>True) a v x
structure sT(D:ej)(G:eQ)(N:t4)(cV:Key×V)(e:Nat×Nat×Nat×Option cJ):Prop where
 k:cV.1=d2 ((e.1+1:Nat):Int)
 ob:∃a d m5,cV.2=.ref a/\G.im a=Y (.b7 (D.c 2) d [("task",.ref<|G.ad<|.ag e.1),("frame",.ref<|G.ad<|.a0 e.2.1),("slot",.int (e.2.2.1:Nat)),("statement",m5)])/\WD D G.im m5 e.2.2.2
 lt:e.1<N.az/\e.2.1<N.a5
def vp(G:eQ):oJ->V
 |.cA v=>.int v
 |.aH c=>.ref<|G.ad<|.aH c
structure xw(G:eQ)(N:t4)(av:List (Key×V))(fr:jw):Prop where
 nG:∀s:Nat,ec av (d2 (s:Int))=(fr s).map (vp G)
 lt:∀s c,fr s=Y (.aH c)->c<N.a9
 lb:∀s v,fr s=Y (.cA v)->g9 v
 eM:z9 av<=65536+N.ce+N.a9
def mB(D:ej)(G:eQ)(N:t4):jr->hZ->hs->Prop
 |.b0,.b0 a b c d e,o=>∃x,o=.b7 (D.c 4) x (vn G a b c d e)
 |.b5,.b5 l,o=>o=.bq (l.map λi=>.ref<|G.ad<|.ag i)/\∀i∈l,i<N.az
 |.cg,.cg l,o=>o=.bq (d8 l)
 |.ag i,.ag p r w,o=>(∃x,o=.b7 (D.c 3) x (zj G i p r w))/\∀j,p=Y j->j<N.az
 |.a6 _,.a6 l,o=>∃ac,o=.bq ac/\dE (Bt D G N) ac.reverse l
 |.bI _,.bI l,o=>o=.bq (l.map λc=>.ref<|G.ad<|.aH c)/\∀c∈l,c<N.a9
 |.aH c,.aH,o=>∃x,o=.b7 (D.c 0) x [("senders",.ref<|G.ad<|.hC c),("takers",.ref<|G.ad<|.g8 c)]
 |.hC _,.hC l,o=>∃av,o=.cY av/\dE (xv D G N) av l
 |.g8 _,.g8 l,o=>∃av,o=.cY av/\dE (sT D G N) av l
 |.a0 _,.a0 fr,o=>∃av,o=.cY av/\xw G N av fr
 |_,_,_=>False
structure js(G b4:eQ)(N ig:t4):Prop where
 im:∀a o,G.im a=Y o->b4.im a=Y o
 ef:b4.ef=G.ef
 ad:∀r,dS N r->b4.ad r=G.ad r
 az:N.az<=ig.az
 a9:N.a9<=ig.a9
 a5:N.a5<=ig.a5
 ce:N.ce<=ig.ce
section
variable {G b4:eQ}
def dS.cI(h:js G b4 N ig)(l:dS N r):dS ig r:=by let b:=h.az;let c:=h.a9;let a:=h.a5;cases r<;>simp only[dS]at l ⊢<;>lia
def rI.cI(h:∀a o,G.im a=Y o->b4.im a=Y o)(q:rI D G.im v j):rI D b4.im v j:=by
 cases j with
 |cq x=>show da.dt (λa o w z=>#[trivial,h a o z]) q
 |fw l=>show ly.dt (λa o w z=>#[trivial,h a o z]) q
theorem Bt.cI(h:js G b4 N ig)(q:Bt D G N v t):Bt D b4 ig v t:=by let#[#[a,u,b,c,d],l]:=q;show#[#[a,u,b,by rw[h.ad (.a0 t.2) l];show h.im _ _ c,d.cI h.im],eR l h.a5]
def xv.cI(h:js G b4 N ig)(q:xv D G N cV e):xv D b4 ig cV e:=by let#[k,#[a,d,b,c],l,oi]:=q;show#[k,#[a,d,b,by rw[h.ad (.ag e.1) l];show h.im _ _ c],eR l h.az,oi]
def sT.cI(h:js G b4 N ig)(q:sT D G N cV e):sT D b4 ig cV e:=by
 let#[k,#[a,d,i,j,g,b],f,c]:=q
 show#[k,#[a,d,i,j,by rw[h.ad (.ag e.1) f,h.ad (.a0 e.2.1) c];show h.im _ _ g,?_],eR f h.az,eR c h.a5]
 cases q:e.2.2.2 with
 |none=>rwa[q]at b
 |some x=>rw[q]at b;show da.dt (λa o w z=>#[trivial,h.im a o z]) b
def xw.cI(h:js G b4 N ig)(q:xw G N av fr):xw b4 ig av fr:=by
 show#[λs=>?_,λs c e=>eR (q.lt s c e) h.a9,q.lb,by have:=q.eM;have:=h.a9;have:=h.ce;lia]
 rw[q.nG s]
 cases e:fr s with
 |none=>rfl
 |some v=>
  cases v with
  |cA _=>rfl
  |aH c=>show Y (V.ref<|G.ad<|.aH c)=Y (V.ref<|b4.ad<|.aH c);rw[h.ad (.aH c)<|q.lt s c e]
theorem mB.cI(h:js G b4 N ig):∀{r:jr}{v:hZ}{o:hs},dS N r->mB D G N r v o->mB D b4 ig r v o:=by
 intro r v o l c
 cases r with
 |b0=>
  cases v with
  |b0 a b c d e=>let#[x,q]:=c;show#[x,by rw[q];unfold vn;rw[h.ef,h.ad .b5 trivial,h.ad .cg trivial]]
  |_=>show gY c
 |b5=>
  cases v with
  |b5 l=>let#[q,b]:=c;show#[by rw[q];show congrArg hs.bq (Jg λi ak=>by rw[h.ad (.ag i)<|b i ak]),λi ak=>eR (b i ak) h.az]
  |_=>show gY c
 |cg=>
  cases v with
  |cg l=>show c
  |_=>show gY c
 |ag i=>
  cases v with
  |ag p r w=>
   let#[#[x,q],b]:=c
   show#[#[x,?_],λj e=>eR (b j e) h.az]
   let g:=h.ad (.a6 i) l
   let f:=h.ad (.bI i) l
   rw[q]
   unfold zj
   rw[g,f]
   cases p with
   |none=>rfl
   |some j=>show hs.b7 _ _ [_,("parent",V.ref<|G.ad<|.ag j),_,_,_,_]=hs.b7 _ _ [_,("parent",V.ref<|b4.ad<|.ag j),_,_,_,_];rw[h.ad (.ag j)<|b j Z]
  |_=>show gY c
 |a6 _=>
  cases v with
  |a6 l=>let#[ac,q,a]:=c;show#[ac,q,a.hK λy y y z=>z.cI h]
  |_=>show gY c
 |bI _=>
  cases v with
  |bI l=>let#[q,b]:=c;show#[by rw[q];show congrArg hs.bq (Jg λi ak=>by rw[h.ad (.aH i)<|b i ak]),λi ak=>eR (b i ak) h.a9]
  |_=>show gY c
 |aH c=>
  cases v with
  |aH=>let#[x,q]:=c;show#[x,by rw[q,h.ad (.hC c) l,h.ad (.g8 c) l]]
  |_=>show gY c
 |hC _=>
  cases v with
  |hC l=>let#[av,q,a]:=c;show#[av,q,a.hK λy y y z=>z.cI h]
  |_=>show gY c
 |g8 _=>
  cases v with
  |g8 l=>let#[av,q,a]:=c;show#[av,q,a.hK λy y y z=>z.cI h]
  |_=>show gY c
 |a0 _=>
  cases v with
  |a0 fr=>let#[av,q,a]:=c;show#[av,q,a.cI h]
  |_=>show gY c
end
structure cO(D:ej)(G:eQ)(H:aw)(m:aA):Prop where
 im:∀a o,G.im a=Y o->H a=Y o
 ob:∀r,dS m.b1 r->∃o,H (G.ad r)=Y o/\mB D G m.b1 r (kD m r) o
 fr:∀r,dS m.b1 r->G.im (G.ad r)=U
 hL:∀r bt,dS m.b1 r->dS m.b1 bt->G.ad r=G.ad bt->r=bt
def cO.g6(M:cO D G H m)(aC:H p=U)(l:dS m.b1 r):G.ad r≠p:=λz=>by let#[o,e,q]:=M.ob r l;rw[z,aC]at e;cases e
def cO.HU(M:cO D G H m)(aC:H p=U):G.im p=none:=by
 cases q:G.im p with
 |none=>rfl
 |some o=>cases (M.im p o q)▸aC
def cO.eS(M:cO D G H m)(x:∀b o,H b=Y o->ab b=Y o):cO D G ab m:=
 #[λa o z=>x _ _<|M.im a o z,λr l=>let ⟨o,e,c⟩:=M.ob r l;#[o,x _ _ e,c],M.fr,M.hL]
def cO.lR(M:cO D G H m)(r:jr)(l:dS m.b1 r)(b1:aO.az=m.az/\aO.a9=m.a9/\aO.a5=m.a5/\m.c3<=aO.c3)(t:∀b,b≠r->kD aO b=kD m b)(q:mB D G aO.b1 r (kD aO r) o):cO D G (aE H (G.ad r) o) aO:=by
 let#[i,p,j,n]:=b1;let le:js G G m.b1 aO.b1:=#[λy y z=>z,Z,λy y=>rfl,qY i.symm,qY p.symm,qY j.symm,n];let c:∀r,dS aO.b1 r->dS m.b1 r:=λr h=>by cases r<;>simp only[dS,aA.b1]at h ⊢<;>lia
 show#[λa u z=>?_,λb d=>?_,λb d=>M.fr _<|c _ d,λv x s f=>M.hL _ _ (c _ s)<|c _ f]
 .rw[aK λw=>by rw[w,M.fr r l]at z;cases z];show M.im a u z
 .by_cases e:b=r
  .rw[e];show#[o,bj,q]
  .let#[u,k,g]:=M.ob b<|c _ d;show#[u,by rwa[aK λw=>e<|M.hL _ _ (c _ d) l w],by rw[t b e];show g.cI le<|c _ d]
def cO.Ec(M:cO D G H m)(aC:H p=U):cO D {G with im:=aE G.im p o} (aE H p o) m/\js G {G with im:=aE G.im p o} m.b1 m.b1:=by
 let e:js G {G with im:=aE G.im p o} m.b1 m.b1:=#[λa u z=>by show aE G.im p o a=_;rwa[aK<|cx z<|M.HU aC],Z,λw w=>rfl,bK _,bK _,bK _,bK _];show#[#[λa u z=>?_,λr l=>?_,λr l=>?_,M.hL],e]
 .let z:aE G.im p o a=Y u:=z;by_cases q:a=p
  .rw[q,bj]at z ⊢;show z
  .rw[aK q]at z ⊢;show M.im a u z
 .let#[u,c,b]:=M.ob r l;show#[u,by show aE H p o (G.ad r)=_;rwa[aK<|M.g6 aC l],b.cI e l]
 .show aE G.im p o (G.ad r)=U;rw[aK<|M.g6 aC l];show M.fr r l
def cO.HV(M:cO D G H m)(e:js G b4 m.b1 aO.b1)(d:b4.im=G.im)(k:∀r,dS m.b1 r->kD aO r=kD m r\/r=.b0/\∃o,H (G.ad .b0)=Y o/\mB D b4 aO.b1 .b0 (kD aO .b0) o)
  (c:∀r,dS aO.b1 r->¬dS m.b1 r->(∃o,H (b4.ad r)=Y o/\mB D b4 aO.b1 r (kD aO r) o)/\G.im (b4.ad r)=U/\(∀a,dS m.b1 a->G.ad a≠b4.ad r)/\∀a,dS aO.b1 a->¬dS m.b1 a->b4.ad r=b4.ad a->r=a):cO D b4 H aO:=by
 show#[by rw[d];show M.im,λr l=>?_,λr l=>?_,λr a l f z=>?_]
 .by_cases q:dS m.b1 r
  .obtain w|⟨w,o,j,i⟩:=k r q
   .let#[u,h,g]:=M.ob r q;show#[u,by rwa[e.ad r q],by rw[w];show g.cI e q]
   .subst w;show#[o,by rwa[e.ad .b0 q],i]
  .show(c r l q).1
 .rw[d];by_cases q:dS m.b1 r
  .rw[e.ad r q];show M.fr r q
  .show(c r l q).2.1
 .by_cases q:dS m.b1 r
  .by_cases b:dS m.b1 a
   .rw[e.ad r q,e.ad a b]at z;show M.hL r a q b z
   .show a8 (by rwa[e.ad r q]at z)<|(c a f b).2.2.1 r q
  .by_cases b:dS m.b1 a
   .show a8 (by rw[e.ad a b]at z;show z.symm)<|(c r l q).2.2.1 a b
   .show(c r l q).2.2.2 a f b z
theorem cO.b0(M:cO D G H m):∃x,H (G.ad .b0)=Y (.b7 (D.c 4) x<|vn G m.fx m.az m.d4 m.c3 m.a9):=let ⟨o,e,x,c⟩:=M.ob .b0 trivial;#[x,by rw[e,c]]
theorem cO.b5(M:cO D G H m):H (G.ad .b5)=Y (.bq<|m.b5.map λi=>.ref<|G.ad<|.ag i):=let ⟨o,e,c,_⟩:=M.ob .b5 trivial;by rw[e,c]
def cO.Nk(M:cO D G H m):∀i∈m.b5,i<m.az:=let ⟨o,e,_,c⟩:=M.ob .b5 trivial;c
theorem cO.cg(M:cO D G H m):H (G.ad .cg)=Y (.bq<|d8 m.cg):=by let#[o,e,c]:=M.ob .cg trivial;rw[e];show congrArg Y c
theorem cO.ag(M:cO D G H m)(l:i<m.az):∃x,H (G.ad<|.ag i)=Y (.b7 (D.c 3) x<|zj G i (m.ag i).hp (m.ag i).cp (m.ag i).ey):=let ⟨o,e,⟨x,c⟩,_⟩:=M.ob (.ag i) l;#[x,by rw[e,c]]
def cO.Nl(M:cO D G H m)(l:i<m.az):∀j,(m.ag i).hp=Y j->j<m.az:=let ⟨o,e,_,c⟩:=M.ob (.ag i) l;c
theorem cO.a6(M:cO D G H m)(l:i<m.az):∃ac,H (G.ad<|.a6 i)=Y (.bq ac)/\dE (Bt D G m.b1) ac.reverse (m.ag i).a6:=let ⟨o,e,ac,c,a⟩:=M.ob (.a6 i) l;#[ac,by rw[e,c],a]
theorem cO.bI(M:cO D G H m)(l:i<m.az):H (G.ad<|.bI i)=Y (.bq<|(m.ag i).bI.map λc=>.ref<|G.ad<|.aH c)/\∀c∈(m.ag i).bI,c<m.a9:=let ⟨o,e,c,a⟩:=M.ob (.bI i) l;#[by rw[e,c],a]
theorem cO.aH(M:cO D G H m)(l:c<m.a9):∃x,H (G.ad<|.aH c)=Y (.b7 (D.c 0) x [("senders",.ref<|G.ad<|.hC c),("takers",.ref<|G.ad<|.g8 c)]):=let ⟨o,e,x,a⟩:=M.ob (.aH c) l;#[x,by rw[e,a]]
theorem cO.hC(M:cO D G H m)(l:c<m.a9):∃av,H (G.ad<|.hC c)=Y (.cY av)/\dE (xv D G m.b1) av (m.aH c).ep:=let ⟨o,e,ac,c,a⟩:=M.ob (.hC c) l;#[ac,by rw[e,c],a]
theorem cO.g8(M:cO D G H m)(l:c<m.a9):∃av,H (G.ad<|.g8 c)=Y (.cY av)/\dE (sT D G m.b1) av (m.aH c).dn:=let ⟨o,e,ac,c,a⟩:=M.ob (.g8 c) l;#[ac,by rw[e,c],a]
theorem cO.a0(M:cO D G H m)(l:f<m.a5):∃av,H (G.ad<|.a0 f)=Y (.cY av)/\xw G m.b1 av (m.a0 f):=let ⟨o,e,ac,c,a⟩:=M.ob (.a0 f) l;#[ac,by rw[e,c],a]
structure sU(G b4:eQ)(N ig:t4):Prop where
 im:∀a o,G.im a=Y o->b4.im a=Y o
 ef:b4.ef=G.ef
 ad:∀r,dS N r->(∀i,r≠.bI i)->b4.ad r=G.ad r
 az:N.az<=ig.az
 a9:N.a9<=ig.a9
 a5:N.a5<=ig.a5
 ce:N.ce<=ig.ce
def js.le(h:js G b4 N ig):sU G b4 N ig:=#[h.im,h.ef,λr l q=>h.ad r l,h.az,h.a9,h.a5,h.ce]
def js.hW:js G G N N:=#[λq q z=>z,Z,λq q=>rfl,bK _,bK _,bK _,bK _]
theorem sU.hW:sU G G N N:=js.hW.le
def sU.bw(a:sU dm ff Nm Bi)(b:sU ff Ee Bi Nn):sU dm Ee Nm Nn:=by
 show#[λx o z=>b.im _ _<|a.im _ _ z,b.ef.trans a.ef,λr l n=>?_,dK a.az b.az,dK a.a9 b.a9,dK a.a5 b.a5,dK a.ce b.ce];let f:=a.az;let d:=a.a9;let e:=a.a5;let c:dS Bi r:=by cases r<;>simp only[dS]at l ⊢<;>lia
 rw[b.ad r c n,a.ad r l n]
def js.bw(a:js dm ff Nm Bi)(b:js ff Ee Bi Nn):js dm Ee Nm Nn:=
 #[λx o z=>b.im _ _<|a.im _ _ z,b.ef.trans a.ef,λr l=>by rw[b.ad r<|dS.cI a l,a.ad r l],dK a.az b.az,dK a.a9 b.a9,dK a.a5 b.a5,dK a.ce b.ce]
def aio(z:Int):rZ z=(z+2147483648) % 4294967296-2147483648:=rfl
def Ef(z:Int):g9 (rZ z):=by rw[aio];unfold g9;lia
def t5(b:Bool):g9 (I5 b):=by cases b<;>show#[cn,cn]
def aip{u v:Int}(h:g9 u):g9 (u.tmod v):=by
 unfold g9 at h ⊢;let b:=Int.natAbs_tmod u v;let c:u.natAbs % v.natAbs<=u.natAbs:=Nat.mod_le _ _;by_cases p:0<=u
 .have:=Pt v p;lia
 .have:u.tmod v<=0:=by have:=Pt v (a:=-u) aV;rw[Int.neg_tmod]at this;lia
  lia
def rJ{p:Prop}[Decidable p]{a b:Except Bad Int}{R:Int->Prop}(c:∀v,a=.ok v->R v)(ae:∀v,b=.ok v->R v):∀v,(if p then a else b)=.ok v->R v:=λv h=>by
 by_cases z:p
 .rw[aR z]at h;show c v h
 .rw[aM z]at h;show ae v h
def aiq{o:Nat}{u w v:Int}(a:g9 u)(h:J2 o u w=.ok v):g9 v:=
 (rJ (λq e=>by cases e;show t5 _)<|rJ (λq e=>by cases e;show t5 _)<|rJ (λq e=>by cases e;show t5 _)<|rJ (λq e=>by cases e;show t5 _)<|rJ (λq e=>by cases e;show t5 _)<|rJ (λq e=>by cases e;show t5 _)<|rJ (λq e=>by cases e;show t5 _)<|rJ (λq e=>by cases e;show Ef _)<|rJ (λq e=>by cases e;show Ef _)<|rJ (λq e=>by cases e;show Ef _)<|rJ (λq e=>by cases e)<|rJ (λq e=>by cases e;show Ef _) (λq e=>by cases e;show aip a)) v h
def WE(a:g9 u)(h:nZ o u r=.ok v):g9 v:=by
 unfold nZ at h;split at h
 .cases h;show t5 O
 .split at h
  .cases h;show t5 J
  .cases r with
   |error b=>cases h
   |ok w=>show aiq a h
mutual
theorem zk(d:∀s n,fr s=Y n->g9 n):∀{x:ba}{v:Int},eJ x<=201->ew fr x=.ok v->g9 v
 |.cA n,v,c,h=>by
  let h:kG (n:Int)=kG v:=h;cases h;by_cases z:n<2147483648
  .unfold g9;lia
  .have:(if n<2147483648 then 1 else 1000)<=201:=c;rw[aM z]at this;lia
 |.gx s,v,c,h=>by
  let h:(match fr s with|some v=>kG v|none=>B9 Cm)=kG v:=h
  cases q:fr s with
  |none=>cases q▸h
  |some w=>cases q▸h;show d s _ q
 |.jS s,v,c,h=>by cases h
 |.n0,v,c,h=>by cases h
 |.mJ a,v,c,h=>by
  let h:(ew fr a).map _=kG v:=h
  cases q:ew fr a with
  |error b=>cases q▸h
  |ok w=>cases q▸h;show Ef _
 |.n1 a,v,c,h=>by
  let h:(ew fr a).map _=kG v:=h
  cases q:ew fr a with
  |error b=>cases q▸h
  |ok w=>cases q▸h;show t5 _
 |.k4 f l,v,c,h=>by let c:max (eJ f) (eJ.qf l)+1<=201:=c;show WF d (r:=ew fr f) (λw e=>zk d aV e) (l:=l) h
theorem WF(d:∀s n,fr s=Y n->g9 n):∀{l:List (Nat×ba)}{r:Except Bad Int}{v:Int},(∀w,r=.ok w->g9 w)->ew.tf fr r l=.ok v->g9 v
 |[],r,v,c,h=>c v h
 |(o,a)::l,r,v,c,h=>by
  show WF d (r:=r.bind λu=>nZ o u<|ew fr a) (λw e=>?_) (l:=l) h
  cases r with
  |error b=>cases e
  |ok u=>show WE (c u Z) e
end
def pe(fr:Nat->Option Int):ba->Prop
 |.gx s=>∃n,fr s=Y n
 |.mJ a=>pe fr a
 |.n1 a=>pe fr a
 |.k4 f l=>pe fr f/\HW fr l
 |_=>True
where
 HW (fr:Nat->Option Int):List (Nat×ba)->Prop
 |[]=>True
 |(_,a)::l=>pe fr a/\HW fr l
abbrev hD:ao->Prop:=λq=>True
structure Bu(H:aw)(e6:ao)(fr:Nat->Option Int):Prop where
 nG:∃av,H e6=Y (.cY av)/\∀s n,fr s=Y n->ec av (d2 ((s:Nat):Int))=Y (.int n)
 lb:∀s n,fr s=Y n->g9 n
def nM(Q:ck)(E:dG)(H:aw):Except Bad Int->Prop
 |.ok r=>Q (.int r) H
 |.error b=>gd E<|uE b
inductive vq(D:ej)(x:ba)(ac:List V)(H:aw)(Q:ck)(E:dG):Prop
 |mk (v:V) (e6:ao) (fr:Nat->Option Int) (_:ac=[v,.ref e6]) (_:dh D hD H v x) (_:Bu H e6 fr) (_:pe fr x) (_:nM Q E H (ew fr x)):vq D x ac H Q E
inductive pf(D:ej)(o:Nat)(x:ba)(ac:List V)(H:aw)(Q:ck)(E:dG):Prop
 |mk (u:Int) (v:V) (e6:ao) (fr:Nat->Option Int) (_:ac=[.int u,v,.ref e6]) (_:g9 u) (_:dh D hD H v x) (_:Bu H e6 fr) (_:pe fr x) (_:nM Q E H (nZ o u<|ew fr x)):pf D o x ac H Q E
def j8(P:eZ)(w:dM)(b8:ao->Prop)(K:b2)(aL:Str->Option aB)(base:df)(D:ej)(k:Nat)(x:ba):Prop:=
 ∀{H:aw}{v:V},dh D hD H v x->∃a C d bb f,v=.ref a/\H a=Y (.b7 C d bb)/\ku K C/\c6 K C "work_out" f/\bb.lookup ("work_out":Str)=U/\kR P w b8 K aL base k f ["self","frame"] (vq D x)
def j9(h:j8 X.prog X.w b8 X.K X.aL X.base D k x)(b:dh D hD H v x)(i:e5 k X.A)(n:σ[j]?=Y (Y<|.ref e6))(c:Bu H e6 fr)(m:pe fr x)(q:nM Q E H (ew fr x)):
  LK X (eV X.prog X.w b8) E "work_out" (lk (hM j) kP) σ Q v H:=by
 let#[a,C,d,bb,f,rfl,e,l,o,g,p]:=h b
 show#[a,C,d,bb,f,Z,e,l,o,g,_,n,k,7,#[p],i,_,e6,fr,Z,b,c,m,q]
def vr{Q:ck}{H:aw}(e:c=b)(q:Q (.int<|I5 b) H):if c=O then Q (.int 1) H else Q (.int 0) H:=by subst e;cases c<;>show q
namespace Bv
def bN:Int->dC:=λz=>dZ [.int z] λH Q q=>Q (.int<|rZ z) H
def W:=dR 51 ["number"] (λq=>0) bN
def t:=fj W W.x W.H W.Q W.E λe f h=>by let q:=h;show#[_,aP<|cS<|iO Gv (iO ZM (iO mW (aa 0) ea) ea) ea,?_];let#[b,a]:=T.afi;let#[d,c]:=T.afj;show#[9,.int 2147483648,_,a,#[b,Z],_,9,Z,.int 4294967296,_,c,#[d,Z],_,9,Z,(by show(0:Int)<4294967296;decide),.int 2147483648,_,a,#[b,Z],_,9,Z,q]
end Bv
def air(u v:Int):(if decide ((u<0)=(v<0))=O then ((u.natAbs:Int).fdiv v.natAbs)else -((u.natAbs:Int).fdiv v.natAbs))=u.tdiv v:=by
 let e:((u.natAbs:Int).fdiv v.natAbs)=((u.natAbs / v.natAbs:Nat):Int):=by rw[Int.fdiv_eq_ediv_of_nonneg _<|Jx _];rfl
 rw[e];let#[m,a]:=u.eq_nat_or_neg;let#[n,b]:=v.eq_nat_or_neg;by_cases mN:n=0
 .subst mN;have:v=0:=by obtain h|h:=b<;>lia
  subst this;simp
 by_cases m0:m=0
 .subst m0;have:u=0:=by obtain h|h:=a<;>lia
  subst this;simp
 obtain rfl|rfl:=a<;>obtain rfl|rfl:=b
 .rw[aR (gv (by rw[eq_iff_iff];lia)),vZ,vZ];rfl
 .rw[aM (by rw[decide_eq_true_iff,eq_iff_iff];lia),vZ,Fe,vZ,Int.tdiv_neg];rfl
 .rw[aM (by rw[decide_eq_true_iff,eq_iff_iff];lia),vZ,Fe,vZ,Int.neg_tdiv];rfl
 .rw[aR (gv (by rw[eq_iff_iff];lia)),Fe,Fe,vZ,vZ,Int.tdiv_neg,Int.neg_tdiv,Int.neg_neg];rfl
def ais(n:Nat)(u:Int)(r:Except Bad Int):nZ (n+13) u r=nZ 12 u r:=by unfold nZ J2;simp
def ait(a b:Bool):decide (V.cC a=V.cC b)=(a==b):=by cases a<;>cases b<;>rfl
def No(i:Int):(if i<0 then -i else i)=(i.natAbs:Int):=by split<;>lia
def aiu(h:j8 P w b8 K aL fC D k x):bX (k+1) 54 (pf D 2 x):=by
 show ek 54 ["left","right","frame"] λj A bc s H ac Q E i d c=>?_
 let#[u,v,l,fr,rfl,m,g,a,f,q]:=c
 show#[_,aP<|cS<|oT (d9 lM (aa 0)<|c4 aQ (aa 1)<|bo<|aa 2) cE cE,#[9,9,j9 h g d Z a f ?_]]
 cases e:ew fr x with
 |error b=>rwa[e]at q
 |ok r=>rw[e]at q;show#[Z,9,vr (b:=u==r) (by rw[t2];rfl) q]
def aiv(h:j8 P w b8 K aL fC D k x):bX (k+1) 55 (pf D 3 x):=by
 show ek 55 ["left","right","frame"] λj A bc s H ac Q E i d c=>?_
 let#[u,v,l,fr,rfl,m,g,a,f,q]:=c
 show#[_,aP<|cS<|oT (d9 pM (aa 0)<|c4 aQ (aa 1)<|bo<|aa 2) cE cE,#[9,9,j9 h g d Z a f ?_]]
 cases e:ew fr x with
 |error b=>rwa[e]at q
 |ok r=>rw[e]at q;show#[Z,9,vr (b:=u != r) (by rw[t2];rfl) q]
def aiw(h:j8 P w b8 K aL fC D k x):bX (k+1) 56 (pf D 4 x):=by
 show ek 56 ["left","right","frame"] λj A bc s H ac Q E i d c=>?_
 let#[u,v,l,fr,rfl,m,g,a,f,q]:=c
 show#[_,aP<|cS<|oT (d9 wJ (aa 0)<|c4 aQ (aa 1)<|bo<|aa 2) cE cE,#[9,9,j9 h g d Z a f ?_]]
 cases e:ew fr x with
 |error b=>rwa[e]at q
 |ok r=>rw[e]at q;show#[_,9,Z,9,vr Z q]
def aix(h:j8 P w b8 K aL fC D k x):bX (k+1) 57 (pf D 5 x):=by
 show ek 57 ["left","right","frame"] λj A bc s H ac Q E i d c=>?_
 let#[u,v,l,fr,rfl,m,g,a,f,q]:=c
 show#[_,aP<|cS<|oT (d9 wK (aa 0)<|c4 aQ (aa 1)<|bo<|aa 2) cE cE,#[9,9,j9 h g d Z a f ?_]]
 cases e:ew fr x with
 |error b=>rwa[e]at q
 |ok r=>rw[e]at q;show#[_,9,Z,9,vr Z q]
def aiy(h:j8 P w b8 K aL fC D k x):bX (k+1) 58 (pf D 6 x):=by
 show ek 58 ["left","right","frame"] λj A bc s H ac Q E i d c=>?_
 let#[u,v,l,fr,rfl,m,g,a,f,q]:=c
 show#[_,aP<|cS<|oT (d9 tA (aa 0)<|c4 aQ (aa 1)<|bo<|aa 2) cE cE,#[9,9,j9 h g d Z a f ?_]]
 cases e:ew fr x with
 |error b=>rwa[e]at q
 |ok r=>rw[e]at q;show#[_,9,Z,9,vr Z q]
def aiz(h:j8 P w b8 K aL fC D k x):bX (k+1) 59 (pf D 7 x):=by
 show ek 59 ["left","right","frame"] λj A bc s H ac Q E i d c=>?_
 let#[u,v,l,fr,rfl,m,g,a,f,q]:=c
 show#[_,aP<|cS<|oT (d9 RH (aa 0)<|c4 aQ (aa 1)<|bo<|aa 2) cE cE,#[9,9,j9 h g d Z a f ?_]]
 cases e:ew fr x with
 |error b=>rwa[e]at q
 |ok r=>rw[e]at q;show#[_,9,Z,9,vr Z q]
def aiA(d:1<=k)(h:j8 P w b8 K aL fC D k x):bX (k+1) 60 (pf D 8 x):=by
 show ek 60 ["left","right","frame"] λl A bc s H ac Q E j a f=>?_
 let#[u,v,m,fr,rfl,n,i,c,g,q]:=f
 show#[_,aP<|cS<|cP aQ<|bo<|iO mW (aa 0)<|c4 aQ (aa 1)<|bo<|aa 2,?_]
 show cm (T.t 51 Z) ?_
 show#[9,9,j9 h i a Z c g ?_]
 cases e:ew fr x with
 |error b=>rwa[e]at q
 |ok r=>rw[e]at q;show#[_,9,Z,dk (Bv.t) (a.cI d) #[9,q]]
def aiB(d:1<=k)(h:j8 P w b8 K aL fC D k x):bX (k+1) 61 (pf D 9 x):=by
 show ek 61 ["left","right","frame"] λl A bc s H ac Q E j a f=>?_
 let#[u,v,m,fr,rfl,n,i,c,g,q]:=f
 show#[_,aP<|cS<|cP aQ<|bo<|iO Gv (aa 0)<|c4 aQ (aa 1)<|bo<|aa 2,?_]
 show cm (T.t 51 Z) ?_
 show#[9,9,j9 h i a Z c g ?_]
 cases e:ew fr x with
 |error b=>rwa[e]at q
 |ok r=>rw[e]at q;show#[_,9,Z,dk (Bv.t) (a.cI d) #[9,q]]
def aiC(f:1<=k)(h:j8 P w b8 K aL fC D k x):bX (k+1) 62 (pf D 10 x):=by
 show ek 62 ["left","right","frame"] λm A bc s H ac Q E l a g=>?_
 let#[u,v,n,fr,rfl,c,j,d,i,q]:=g
 show#[_,aP<|cS<|cP aQ<|bo<|iO KE (aa 0)<|c4 aQ (aa 1)<|bo<|aa 2,?_]
 show cm (T.t 51 Z) ?_
 show#[9,9,j9 h j a Z d i ?_]
 cases e:ew fr x with
 |error b=>rwa[e]at q
 |ok r=>rw[e]at q;show#[_,9,Z,.inl #[by have:=c.1;lia,by have:=c.2;lia],dk (Bv.t) (a.cI f) #[9,q]]
def aiD(h:j8 P w b8 K aL fC D k x):bX (k+1) 52 (pf D 0 x):=by
 show ek 52 ["left","right","frame"] λj A bc s H ac Q E i d c=>?_;let#[u,v,l,fr,rfl,m,g,a,f,q]:=c;show#[_,aP<|cS<|oT (me.pt<|Ar (d9 pM (aa 0) cE)<|Ap<|d9 pM (c4 aQ (aa 1)<|bo<|aa 2) cE) cE cE,#[9,Z,9,?_]];rw[t2];unfold nZ at q;by_cases z:u=0
 .rw[gv z]
  rw[aM (λw=>w.2 z),aM λw=>a8 w.1 cn]at q
  show di #[9,j9 h g d Z a f ?_]
  cases e:ew fr x with
  |error b=>rwa[e]at q
  |ok r=>rw[e]at q;show#[Z,9,vr (b:=r != 0) (by rw[t2];rfl) q]
 .rw[i9 z];rw[aR #[Z,z]]at q;show dw<|dw q
def aiE(h:j8 P w b8 K aL fC D k x):bX (k+1) 53 (pf D 1 x):=by
 show ek 53 ["left","right","frame"] λj A bc s H ac Q E i d c=>?_;let#[u,v,l,fr,rfl,m,g,a,f,q]:=c;show#[_,aP<|cS<|oT (me.pt<|Aq (d9 pM (aa 0) cE)<|C1<|d9 pM (c4 aQ (aa 1)<|bo<|aa 2) cE) cE cE,#[9,Z,9,?_]];rw[t2];unfold nZ at q;rw[aM λw=>a8 w.1 cn]at q;by_cases z:u=0
 .rw[gv z];rw[aR #[Z,z]]at q;show di<|di q
 .rw[i9 z]
  rw[aM λw=>z w.2]at q
  show dw #[9,j9 h g d Z a f ?_]
  cases e:ew fr x with
  |error b=>rwa[e]at q
  |ok r=>rw[e]at q;show#[Z,9,vr (b:=r != 0) (by rw[t2];rfl) q]
namespace Np
def bN:Int×Int->dC:=λ(u,v)=>dZ [.int u,.int v] λH Q E=>g9 v/\(v=0->gd E (-12))/\(v≠0->Q (.int<|u.tdiv v) H)
def W:=dR 65 ["number","divisor","quotient"] (λq=>3) bN
def u:=W.a
def v:=W.i
def t:=fj W (u,v) W.H W.Q W.E λf h g=>by
 let#[i,j,d]:=g;show#[_,aU (ed (d9 lM (aa 1) cE) (aP<|i4 Z) eP)<|aU (dr 2 f<|iO agl (j5 RM Z (T.lJ _ bg) Wi<|bo<|aa 0)<|j5 RM Z (T.lJ _ bg) Wi<|bo<|aa 1)<|aP<|cS<|oT (d9 lM (C8 wJ (aa 0) cE<|Aw _)<|C8 wJ (aa 1) cE<|Aw _) (aa 2)<|tw tx<|aa 2,#[9,Z,9,?_]];rw[t2];by_cases z:v=0
 .rw[gv z];show dw<|agu.iB h<|j z
 .rw[i9 z];show di #[9,u,Z,9,v,Z,_,9,Z,?_,?_]
  .rw[No];unfold g9 at i;lia
  .rw[No,No]
   show#[9,_,9,Z,9,_,9,Z,Z,9,?_]
   rw[ait]
   let q:=d z
   let t:=air u v
   let e:(decide (u<0)==decide (v<0))=decide ((u<0)=(v<0)):=by by_cases a:u<0<;>by_cases b:v<0<;>simp[a,b]
   rw[<-e]at t
   cases c:(decide (u<0)==decide (v<0))with
   |true=>rw[c,aR Z]at t;rw[<-t]at q;show dw #[9,q]
   |false=>rw[c,aM cn]at t;rw[<-t]at q;show di #[9,9,q]
end Np
def aiF(f:4<=k)(d:eJ x<=201)(h:j8 P w b8 K aL fC D k x):bX (k+1) 63 (pf D 11 x):=by
 show ek 63 ["left","right","frame"] λm A bc s H ac Q E l a g=>?_
 let#[u,v,n,fr,rfl,o,j,c,i,q]:=g
 show#[_,aP<|cS<|cP aQ<|bo<|cP aQ<|cH (aa 0)<|c4 aQ (aa 1)<|bo<|aa 2,?_]
 show cm (T.t 51 Z) ?_
 show cm (T.t 65 Z) ?_
 show#[9,9,j9 h j a Z c i ?_]
 cases e:ew fr x with
 |error b=>rwa[e]at q
 |ok r=>
  rw[e]at q;let q:nM Q E H (if r=0 then .error .zero else .ok (rZ<|u.tdiv r)):=q;show dk (Np.t) (a.cI f) #[(u,r),Z,zk c.lb d e,λz=>?_,λz=>?_]
  .rw[aR z]at q;show q
  .rw[aM z]at q;show dk (Bv.t) a.bH #[9,q]
def WG(i:4<=k)(f:eJ x<=201)(h:j8 P w b8 K aL fC D k x):bX (k+1) 64 (pf D 12 x):=by
 show ek 64 ["left","right","frame","divisor"] λn A bc s H ac Q E g d j=>?_
 let#[u,v,o,fr,rfl,p,m,c,l,q]:=j
 show#[_,aU (dr 3 g<|c4 aQ (aa 1)<|bo<|aa 2)<|aP<|cS<|iO Gv (aa 0)<|iO KE (aa 3)<|cP aQ<|cH (aa 0)<|aa 3,#[9,j9 h m d Z c l ?_]]
 cases e:ew fr x with
 |error b=>rwa[e]at q
 |ok r=>
  rw[e]at q;let a:=zk c.lb f e;let q:nM Q E H (if r=0 then .error .zero else .ok (u.tmod r)):=q;show#[9,9,?_];show cm (T.t 65 Z) ?_;show#[9,9,dk (Np.t) (d.cI i) #[(u,r),Z,a,λz=>?_,λz=>?_]]
  .rw[aR z]at q;show q
  .rw[aM z,Int.tmod_def]at q;show#[_,9,Z,.inl #[by have:=a.1;lia,by have:=a.2;lia],_,9,Z,q]
def aiG(b:4<=k)(a:eJ x<=201)(h:j8 P w b8 K aL fC D k x):∀o,nV K (.ref<|ky D o)=O/\kR P w b8 K aL fC (k+1) (ky D o) ["left","right","frame"] (pf D o x)
 |0=>#[(T.t 52 Z).dX,aiD h]
 |1=>#[(T.t 53 Z).dX,aiE h]
 |2=>#[(T.t 54 Z).dX,aiu h]
 |3=>#[(T.t 55 Z).dX,aiv h]
 |4=>#[(T.t 56 Z).dX,aiw h]
 |5=>#[(T.t 57 Z).dX,aix h]
 |6=>#[(T.t 58 Z).dX,aiy h]
 |7=>#[(T.t 59 Z).dX,aiz h]
 |8=>#[(T.t 60 Z).dX,aiA aV h]
 |9=>#[(T.t 61 Z).dX,aiB aV h]
 |10=>#[(T.t 62 Z).dX,aiC aV h]
 |11=>#[(T.t 63 Z).dX,aiF b a h]
 |12=>#[(T.t 64 Z).dX,WG b a h]
 |n+13=>#[(T.t 64 Z).dX,(WG b a h).hK λac H Q E z=>by let#[u,v,f,fr,e,c,g,i,d,q]:=z;show#[u,v,f,fr,e,c,g,i,d,by rwa[ais]at q]]
def i6.pC:∀{f:List V}{m:List (Nat×ba)}{i:Nat}{v:V},i6 D bu H f m->f[i]?=Y v->∃t o u x,v=.ref t/\m[i]?=Y (o,x)/\H t=Y (.cu [.ref<|ky D o,u])/\dh D bu H u x:=by
 intro f m i v h e
 induction f generalizing m i with
 |nil=>simp at e
 |cons _ _ g=>
  cases h with
  |cB a b c d=>
   cases i with
   |zero=>simp at e;subst e;show#[7,_,9,Z,b,c]
   |succ i=>simpa using g d (by simpa using e)
theorem WH:∀{m:List (Nat×ba)}{i o:Nat}{x:ba},pe.HW fr m->m[i]?=Y (o,x)->pe fr x
 |[],_,_,_,_,e=>by simp at e
 |(_,_)::_,0,_,_,h,e=>by simp at e;let#[q,rfl]:=e;show h.1
 |_::m,i+1,_,_,h,e=>WH (m:=m) (i:=i) h.2 (by simpa using e)
def aiH(x:ba):1<=eJ x:=by cases x<;>simp only[eJ]<;>first|lia|(split<;>lia)
theorem Nq:∀{m:List (Nat×ba)}{i o:Nat}{x:ba},m[i]?=Y (o,x)->eJ x+1<=eJ.qf m
 |[],_,_,_,e=>by simp at e
 |(_,_)::_,0,_,_,e=>by simp at e;let#[q,rfl]:=e;show Nat.le_max_left ..
 |(p,y)::m,i+1,_,_,e=>dK (Nq (m:=m) (i:=i)<|by simpa using e)<|Nat.le_max_right ..
theorem Nr(fr:Nat->Option Int)(b:Bad):∀l,ew.tf fr (.error b) l=.error b
 |[]=>rfl
 |(o,a)::l=>Nr fr b l
def aiI(n:Nat):bX 1 67 (vq D<|.cA n):=by
 show ek 67 ["self","frame"] λd A bc s H ac Q E c f h=>?_
 let#[v,g,fr,rfl,a,b,i,q]:=h
 show#[_,aP<|cS<|bV<|aa 0,?_]
 cases a with
 |cA _ e=>show#[9,8,e,aI,T.n 7 0,Z,q]
def aiJ(a:Nat):bX 1 69 (vq D<|.gx a):=by
 show ek 69 ["self","frame"] λo A bc s H ac Q E m f h=>?_
 let#[v,i,fr,rfl,l,c,j,q]:=h
 show#[_,aP<|cS<|sK (g5 f) (aa 1)<|bV<|aa 0,?_]
 let#[n,b]:=j
 let#[av,g,d]:=c.nG
 let q:nM Q E H (match fr a with|some v=>.ok v|none=>.error .name):=q
 rw[b]at q
 cases l with
 |gx _ e=>show#[9,9,8,e,aI,T.n 8 0,Z,i,.int n,Z,by rw[<-d _ _ b];show g4.k (k:=d2 ((a:Nat):Int)) g,q]
def aiK(a:Nat):bX 4 71 (vq D<|.jS a):=by show ek 71 ["self","frame"] λe A bc s H ac Q E d b h=>?_;let#[v,f,fr,rfl,i,c,g,q]:=h;show#[_,aP<|i4 Z,xd.iB b q]
def aiL:bX 4 72 (vq D .n0):=by show ek 72 ["self","frame"] λd A bc s H ac Q E c a h=>?_;let#[v,e,fr,rfl,g,b,f,q]:=h;show#[_,aP<|i4 Z,xd.iB a q]
def aiM(d:1<=k)(h:j8 P w b8 K aL fC D k x):bX (k+1) 74 (vq D<|.mJ x):=by
 show ek 74 ["self","frame"] λm A bc s H ac Q E l a g=>?_
 let#[v,o,fr,rfl,j,c,i,q]:=g
 show#[_,aP<|cS<|cP aQ<|bo<|tw tx<|c4 aQ (bV<|aa 0)<|bo<|aa 1,?_]
 cases j with
 |mJ _ e f=>
  show cm (T.t 51 Z) ?_
  show#[9,8,e,aI,T.n 11 0,Z,j9 h f a Z c i ?_]
  let q:nM Q E H ((ew fr x).map λv=>rZ<|-v):=q
  cases e:ew fr x with
  |error b=>rwa[e]at q
  |ok r=>rw[e]at q;show#[9,dk (Bv.t) (a.cI d) #[9,q]]
def aiN(h:j8 P w b8 K aL fC D k x):bX (k+1) 76 (vq D<|.n1 x):=by
 show ek 76 ["self","frame"] λl A bc s H ac Q E j f d=>?_
 let#[v,m,fr,rfl,i,a,g,q]:=d
 show#[_,aP<|cS<|oT (d9 lM (c4 aQ (bV<|aa 0)<|bo<|aa 1) cE) cE cE,?_]
 cases i with
 |n1 _ e c=>
  show#[9,8,e,aI,T.n 12 0,Z,j9 h c f Z a g ?_]
  let q:nM Q E H ((ew fr x).map λv=>I5<|v==0):=q
  cases e:ew fr x with
  |error b=>rwa[e]at q
  |ok r=>rw[e]at q;show#[Z,9,vr (b:=r==0) (by rw[t2];rfl) q]
namespace WI
def bN:Nat×ba×List (Nat×ba)×V×ao×(Nat->Option Int)->dC:=λ(k,f,l,v,a,fr)=>dZ [v,.ref a] λH Q E=>4<=k/\eJ (.k4 f l)<=201/\j8 P w b8 K aL fC D (k+1) f/\(∀(i o:Nat) (y:ba),l[i]?=Y (o,y)->j8 P w b8 K aL fC D k y)/\dh D hD H v (.k4 f l)/\Bu H a fr/\pe fr (.k4 f l)/\nM Q E H (ew fr<|.k4 f l)
def W:=dR 78 ["self","frame","result","operator","right"] (λx=>x.1+1) bN
def l:=W.c
def fr:=W.m
def H:=W.H
theorem t:sJ 78 ["self","frame","result","operator","right"] (λx=>x.1+1) bN:=by
 show ee W (W.a,W.b,l,W.d,W.e,fr) H W.Q W.E λj D N=>?_
 let#[M,A,K,R,S,s,G,q]:=N
 generalize W.d=W.d at*
 show#[_,aU (dr 2 j<|c4 aQ (bV<|aa 0)<|bo<|aa 1)<|aU (qs i2 Z (uV<|bV<|aa 0) (Rr Z<|Gm (o6 3 j)<|Gm (o6 4 j) Rp)<|aP<|dr 2 j<|LJ aQ (aa 3)<|fX (aa 2)<|cH (aa 4)<|aa 1)<|aP<|cS<|aa 2,?_]
 let A:max (eJ W.b) (eJ.qf l)+1<=201:=A
 cases S with
 |@k4 a d vm v0 _ I _ _ e _ B h1 C=>
  show#[9,8,e,aI,T.n 13 0,Z,j9 K h1 D Z s G.1 ?_]
  let q:nM W.Q W.E H (ew.tf fr (ew fr W.b) l):=q
  cases p:ew fr W.b with
  |error b=>rwa[p,Nr]at q
  |ok P=>
   rw[p]at q;show#[9,8,e,aI,T.n 13 1,Z,vm,Z,#[I,bM.of B],?_];let len:=C.eM;show yD (xs:=I) (λi k H1=>∃r g h,k=[Y<|.ref a,Y<|.ref W.e,Y<|.int r,g,h]/\H1=H/\g9 r/\nM W.Q W.E H (ew.tf fr (.ok r)<|l.drop i))
    #[P,U,U,Z,Z,zk s.lb aV p,q] (λi k H1 _ #[r,g,h,_,f,_]=>by rw[f];show bM.of B) (λi y k H1 L #[r,g,h,m,f,v,q]=>?_) (λk H1 #[r,g,h,m,f,v,q]=>?_)
   .subst m f
    let#[t,o,u,z,rfl,c,V,g3]:=C.pC L
    let amu:=Nq c
    let F:i<z9 l:=(jP.mp c).1
    let X:l.drop i=(o,z)::l.drop (i+1):=by rw[ur F];rw[pq F]at c;rw[iX c]
    rw[X]at q
    let q:nM W.Q W.E H (ew.tf fr (nZ o r<|ew fr z)<|l.drop<|i+1):=q
    let#[dX,bv]:=aiG M (show eJ z<=201 by lia) (R i o z c) o
    show#[t,9,gb.of V,Z,_,9,_,9,Z,9,9,dX,9,9,9,dk bv D #[r,u,W.e,fr,Z,v,g3,s,WH G.2 c,?_]]
    cases w:nZ o r (ew fr z)with
    |error b=>rwa[w,Nr]at q
    |ok dD=>rw[w]at q;show#[dD,_,9,Z,WE v w,q]
   .subst m f;rw[len,sZ]at q;show#[9,q]
end WI
def aiO(j:4<=k)(c:eJ (.k4 f l)<=201)(d:j8 P w b8 K aL fC D (k+1) f)(m:∀(i o:Nat) (y:ba),l[i]?=Y (o,y)->j8 P w b8 K aL fC D k y):bX (k+2) 78 (vq D<|.k4 f l):=WI.t.i5 λ_ _ _ _ #[q,a,b,e,n,g,h,p]=>#[(k,f,l,q,a,b),Z,e,j,c,d,m,n,g,h,p]
def aiR:∀(n:Nat),(∀(x:ba),eJ x<=n->eJ x<=201->j8 P w b8 K aL fC D (n+4) x)/\∀(x:ba),eJ x+1<=n->eJ x<=201->j8 P w b8 K aL fC D (n+3) x:=by
 intro n
 induction n with
 |zero=>show#[λx h z=>?_,λx h z=>by lia];cases x<;>simp only[eJ]at h<;>first|lia|(split at h<;>lia)
 |succ n j=>
  let#[c,m]:=j
  show#[?_,λx h b=>c x aV b]
  intro x h b H v p
  cases p with
  |cA _ e=>show#[8,e,aI,T.adI,Z,(aiI _).up]
  |gx _ e=>show#[8,e,aI,T.adJ,Z,(aiJ _).up]
  |jS _ e=>show#[8,e,aI,T.adL,Z,(aiK _).up]
  |n0 _ e=>show#[8,e,aI,T.adN,Z,(aiL).up]
  |mJ _ e _=>show#[8,e,aI,T.adQ,Z,aiM aV<|c _ (by simp only[eJ]at h;lia) (by simp only[eJ]at b;lia)]
  |n1 _ e _=>show#[8,e,aI,T.adS,Z,aiN<|c _ (by simp only[eJ]at h;lia) (by simp only[eJ]at b;lia)]
  |@k4 a d t s f r l _ e _ _ _ _=>have h:max (eJ f) (eJ.qf l)+1<=n+1:=h;have q:max (eJ f) (eJ.qf l)+1<=201:=b;show#[8,e,aI,T.adU,Z,aiO (k:=n+3) (by have:=aiH f;lia) b (c f aV aV) λi o y g=>?_];have:=Nq g;show λ{_ _}=>m y aV aV
def xx(a:eJ x<=201):j8 P w b8 K aL fC D 205 x:=(aiR 201).1 x a a
structure Go(D:ej)(G:eQ)(m:aA)(H:aw)(b4:eQ)(aO:aA)(ab:aw):Prop where
 bQ:cO D b4 ab aO
 le:sU G b4 m.b1 aO.b1
 fr:∀b o,H b=Y o->(∀r,dS m.b1 r->G.ad r≠b)->ab b=Y o/\∀r,dS aO.b1 r->b4.ad r≠b
section
variable {G b4 dm ff:eQ}{m aO bU eq:aA}{H ab H1 ay:aw}{r:jr}
theorem Go.hW(M:cO D G H m):Go D G m H G m H:=#[M,sU.hW,λb o z n=>#[z,n]]
theorem Go.bw(a:Go D G m H dm bU H1)(b:Go D dm bU H1 ff eq ay):Go D G m H ff eq ay:=#[b.bQ,a.le.bw b.le,λc o z n=>let ⟨d6,cb⟩:=a.fr c o z n;b.fr c o d6 cb]
theorem Go.lR(M:cO D G H m)(r:jr)(l:dS m.b1 r)(b1:aO.az=m.az/\aO.a9=m.a9/\aO.a5=m.a5/\m.c3<=aO.c3)(i:∀a,a≠r->kD aO a=kD m a)(h:mB D G aO.b1 r (kD aO r) o):Go D G m H G aO (aE H (G.ad r) o):=by
 show#[M.lR r l b1 i h,?_,λb u z n=>#[by rwa[aK<|c5<|n r l],λa g=>n a ?_]]
 .let#[c,f,d,e]:=b1;show#[λq q z=>z,Z,λq q q=>rfl,qY c.symm,qY f.symm,qY d.symm,e]
 .let#[c,f,d,e]:=b1;cases a<;>simp only[dS,aA.b1]at g ⊢<;>lia
theorem Go.Ec(M:cO D G H m)(aC:H p=U):Go D G m H {G with im:=aE G.im p o} m (aE H p o):=
 #[(M.Ec aC).1,(M.Ec (o:=o) aC).2.le,λb u z n=>#[by rwa[aK<|cx z aC],n]]
theorem Go.eS(M:cO D G H m)(x:∀b o,H b=Y o->ab b=Y o):Go D G m H G m ab:=#[M.eS x,sU.hW,λb u z n=>#[x _ _ z,n]]
def Eg(h:∀bt,bt≠r->(bt=.ag i->t.hp=(m.ag i).hp/\t.cp=(m.ag i).cp/\t.ey=(m.ag i).ey)/\(bt=.a6 i->t.a6=(m.ag i).a6)/\(bt=.bI i->t.bI=(m.ag i).bI)):∀bt,bt≠r->kD (m.dU i t) bt=kD m bt:=by
 intro bt n
 let#[f,g,d]:=h bt n
 cases bt with
 |ag j=>
  by_cases e:j=i
  .subst e;let#[a,b,c]:=f Z;show hZ.ag (aF m.ag j t j).hp (aF m.ag j t j).cp (aF m.ag j t j).ey=_;rw[bE,a,b,c];rfl
  .show hZ.ag (aF m.ag i t j).hp (aF m.ag i t j).cp (aF m.ag i t j).ey=_;rw[bC _ _ e];rfl
 |a6 j=>
  show hZ.a6 (aF m.ag i t j).a6=_;by_cases e:j=i
  .subst e;rw[bE,g Z];rfl
  .rw[bC _ _ e];rfl
 |bI j=>
  show hZ.bI (aF m.ag i t j).bI=_;by_cases e:j=i
  .subst e;rw[bE,d Z];rfl
  .rw[bC _ _ e];rfl
 |_=>rfl
def aiU:kD (m.dU i t) (.ag i)=.ag t.hp t.cp t.ey:=by show hZ.ag (aF m.ag i t i).hp _ _=_;rw[bE];show hZ.ag _ (aF m.ag i t i).cp (aF m.ag i t i).ey=_;rw[bE]
def xy(M:cO D G H m)(ak:i<m.az)(b:Bool)(d:Nat)(a:Int)(f:a=d):Go D G m H G (m.dU i {m.ag i with cp:=b,ey:=d}) (aE H (G.ad<|.ag i)<|.b7 (D.c 3) x<|zj G i (m.ag i).hp b a):=
 Go.lR M (.ag i) ak #[Z,Z,Z,bK _] (Eg λg n=>#[λe=>a8 e n,λq=>rfl,λq=>rfl]) (by rw[aiU,f];show#[#[x,Z],M.Nl ak])
def WJ(M:cO D G H m)(st d:Nat)(a b:Int)(ai:a=st)(e:b=d):Go D G m H G {m with fx:=st,d4:=d} (aE H (G.ad .b0)<|.b7 (D.c 4) y<|vn G a m.az b m.c3 m.a9):=
 Go.lR M .b0 trivial #[Z,Z,Z,bK _] (λf n=>by cases f<;>first|rfl|show a8 Z n) #[y,by rw[ai,e]]
def Nu(M:cO D G H m)(l:List Nat)(h:∀i∈l,i<m.az):Go D G m H G {m with b5:=l} (aE H (G.ad .b5)<|.bq<|l.map λi=>.ref<|G.ad<|.ag i):=
 Go.lR M .b5 trivial #[Z,Z,Z,bK _] (λa n=>by cases a<;>first|rfl|show a8 Z n) #[Z,h]
def t6(M:cO D G H m)(ak:i<m.az)(d:f<m.a5)(h:rI D G.im u j)(aC:H p=U):
  ∃ac,aE H p (.cu [u,.ref<|G.ad<|.a0 f]) (G.ad<|.a6 i)=Y (.bq ac)/\z9 ac=(m.ag i).a6.length/\Go D G m H {G with im:=aE G.im p (.cu [u,.ref<|G.ad<|.a0 f])} (m.eh i (j,f)) (aE (aE H p<|.cu [u,.ref<|G.ad<|.a0 f]) (G.ad<|.a6 i)<|.bq<|ac++[.ref p]):=by
 let b:=Go.Ec (o:=.cu [u,.ref<|G.ad<|.a0 f]) M aC
 let#[ac,g,a]:=b.bQ.a6 ak
 let c:=a.tj
 rw[BW]at c
 show#[ac,g,c,b.bw<|Go.lR b.bQ (.a6 i) ak #[Z,Z,Z,bK _] (Eg λk n=>#[λq=>#[Z,Z,Z],λe=>a8 e n,λq=>rfl]) ?_]
 show mB D _ _ (.a6 i) (hZ.a6 (aF m.ag i {m.ag i with a6:=(j,f)::(m.ag i).a6} i).a6) _
 rw[bE]
 show#[9,?_]
 rw[EY]
 show .cB #[#[p,u,Z,bj,h.cI<|js.im (M.Ec aC).2],d] a
def aiV{av:List (Key×V)}(h:(ec av k).isSome=O):(gP av k v).length=z9 av:=by unfold gP;rw[wT,h,aR Z,hR]
def xw.gm(h:xw G N av fr)(s:Nat)(v:oJ)(a:(gP av (d2 ((s:Nat):Int))<|vp G v).length<=65536+ig.ce+ig.a9)(le:N.a9<=ig.a9)(d:∀c,v=.aH c->c<ig.a9)(b:∀x,v=.cA x->g9 x):
  xw G ig (gP av (d2 ((s:Nat):Int))<|vp G v) (λt=>if t=s then Y v else fr t):=by
 show#[λt=>?_,λt c e=>?_,λt x e=>?_,a]
 .rw[SJ];by_cases z:t=s
  .rw[aR (by rw[z]),aR z];rfl
  .rw[aM (λw=>z (by have:=Fo w;lia)),aM z];show h.nG t
 .by_cases z:t=s
  .rw[aR z]at e;show d c<|iX e
  .rw[aM z]at e;show eR (h.lt t c e) le
 .by_cases z:t=s
  .rw[aR z]at e;show b x<|iX e
  .rw[aM z]at e;show h.lb t x e
def WK(h:∀g,g≠f->fr g=m.a0 g):∀bt,bt≠.a0 f->kD {m with a0:=fr} bt=kD m bt:=by
 intro bt n
 cases bt with
 |a0 g=>show hZ.a0 (fr g)=hZ.a0 (m.a0 g);rw[h g λz=>n<|by rw[z]]
 |_=>rfl
def Nv(M:cO D G H m){s:Nat}{v:Int}(b:f<m.a5)(e:(m.a0 f s).isSome=O)(h:g9 v)(L:lI m):
  ∃av,H (G.ad<|.a0 f)=Y (.cY av)/\z9 av<sizeLine/\Go D G m H G (m.hI f s<|.cA v) (aE H (G.ad<|.a0 f)<|.cY<|gP av (d2 ((s:Nat):Int))<|.int v):=by
 let#[av,d,a]:=M.a0 b
 let i:z9 av<=65536+m.c3+m.a9:=a.eM
 have:5000000<sizeLine:=by decide
 show#[av,d,by have:=L.1;have:=L.2;lia,Go.lR M (.a0 f) b #[Z,Z,Z,bK _] (WK λg n=>bC _ _ n) ?_]
 show mB D _ _ (.a0 f) (hZ.a0<|aF m.a0 f _ f) _
 rw[bE]
 show#[9,a.gm s (.cA v) ?_ (bK _) (λc z=>by cases z) (λx z=>by cases z;show h)]
 have:(ec av<|d2 ((s:Nat):Int)).isSome=true:=by rwa[a.nG s,E7]
 rw[aiV this]
 show a.eM
end
namespace Eh
def bN:Ho.eQ×Ho.aA×Nat->dC:=λ(G,m,i)=>dZ [.ref<|G.ad .b0,.ref<|G.ad<|.ag i] λH Q q=>cO D G H m/\i<m.az/\z9 m.b5<=5000/\∀a,Go D G m H G (m.oK i) a->Q .bB a
def W:=dR 22 ["self","task"] (λq=>0) bN
def t:=fj W (W.a,W.b,W.j) W.H W.Q W.E λk l h=>by
 let#[M,ak,i,q]:=h;show#[_,aU (fY (aa 1) oS)<|aP<|cU<|iP cf cv fo jm (bV<|aa 0)<|bo<|aa 1,?_];let#[x,f]:=M.ag ak;show#[9,7,_,9,f,aI,T.n 3 3,fE,?_];let c:=xy (x:=x) M ak O (W.b.ag W.j).ey _ Z;let#[y,hm]:=c.bQ.b0;let e:=c.bQ.b5;let big:65536<sizeLine:=by decide
 show#[9,8,hm,aI,T.n 4 2,Z,.inl #[Z,_,bM.of e],9,7,9,Z,e,by rw[hR];show z9 W.b.b5<_;lia,q _ ?_];let d:=Nu c.bQ (W.b.b5++[W.j]) λj g=>(iV.mp g).elim (λz=>M.Nk j z) λz=>by rw[gX.mp z];show ak
 rw[r5]at d;show c.bw d
end Eh
namespace WL
def bN:Ho.eQ×Ho.aA×Nat->dC:=λ(G,m,i)=>dZ [.ref<|G.ad .b0,.ref<|G.ad<|.ag i] λH Q q=>cO D G H m/\i<m.az/\z9 m.b5<=5000/\(∀p,(m.ag i).hp=Y p->1<=(m.ag p).ey)/\∀a,Go D G m H G (m.nf i) a->Q .bB a
def W:=dR 21 ["self","task","parent"] (λq=>1) bN
def G:=W.a
def m:=W.b
def i:=W.j
def Q:=W.Q
def t:=fj W (G,m,i) W.H Q W.E λo s h=>by
 let#[M,ak,j,r,q]:=h
 show#[_,aU (uW (aa 0) cE yF)<|aU (dr 2 o<|bV<|aa 1)<|aP<|ed (d9 Gw (aa 2) lL) (aU (uW (aa 2) cE R1)<|aP<|ed (d9 lM (bV<|aa 2) cE) (aP<|cU<|c4 aQ (aa 0)<|bo<|aa 2) eP) eP,?_]
 let#[y,hm]:=M.b0
 show#[9,8,hm,aI,T.n 4 4,Z,_,9,Z,7,hm,fE,?_]
 let c:=WJ (y:=y) M m.fx (m.d4+1) _ _ Z Z
 let#[x,l]:=c.bQ.ag ak
 show#[9,8,l,aI,T.n 3 1,Z,?_]
 let a:∀ab,Go D G {m with d4:=m.d4+1} _ G (m.nf i) ab->Q .bB ab:=λab g=>q ab<|c.bw g
 unfold aA.nf at a
 dsimp only at a
 cases aC:(m.ag i).hp with
 |none=>rw[aC]at a;show#[9,Z,9,di<|a _<|Go.hW c.bQ]
 |some p=>
  rw[aC]at a;dsimp only at a;show#[9,Z,9,dw ?_];let pl:=M.Nl ak p aC;let A:=r p aC;let#[z,f]:=c.bQ.ag pl;show#[9,8,f,aI,T.n 3 4,Z,_,9,Z,7,f,fE,?_];let b:=xy (x:=z) c.bQ pl (m.ag p).cp ((m.ag p).ey-1) _ (show(((m.ag p).ey:Nat):Int)-1=(((m.ag p).ey-1:Nat):Int)by lia);let#[v,e]:=b.bQ.ag pl;let k:((aA.dU {m with d4:=m.d4+1} p {m.ag p with cp:=(m.ag p).cp,ey:=(m.ag p).ey-1}).ag p).ey=(m.ag p).ey-1:=by show fG.ey (aF m.ag p _ p)=_;rw[bE]
  rw[k]at e;show#[9,8,e,aI,T.n 3 4,Z,Z,9,?_];rw[show(0:Int)=((0:Nat):Int)from Z,xt];by_cases d:(m.ag p).ey-1=0
  .rw[gv d];rw[aR d]at a;let#[w,u]:=b.bQ.b0;show dw #[9,8,u,aI,T.Hm,Z,9,1,7,#[Eh.t],s,(G,_,p),Z,b.bQ,pl,j,λab g=>a ab<|b.bw g]
  .rw[i9 d];rw[aM d]at a;show di<|a _ b
end WL
def cO.aiW(M:cO D G H m)(aC:H p=Y o)(n:∀r,dS m.b1 r->G.ad r≠p)(ak:G.im p=U):cO D {G with im:=aE G.im p o} H m/\js G {G with im:=aE G.im p o} m.b1 m.b1:=by
 let e:js G {G with im:=aE G.im p o} m.b1 m.b1:=#[λa u z=>by show aE G.im p o a=_;rwa[aK<|cx z ak],Z,λw w=>rfl,bK _,bK _,bK _,bK _];show#[#[λa u z=>?_,λr l=>?_,λr l=>?_,M.hL],e]
 .let z:aE G.im p o a=Y u:=z;by_cases q:a=p
  .rw[q,bj]at z;rwa[q,aC]
  .rw[aK q]at z;show M.im a u z
 .let#[u,c,b]:=M.ob r l;show#[u,c,b.cI e l]
 .show aE G.im p o (G.ad r)=U;rw[aK<|n r l];show M.fr r l
def Go.HV(M:cO D G H m)(e:js G b4 m.b1 aO.b1)(i:∀a o,b4.im a=Y o->ab a=Y o/\(G.im a=Y o\/H a=U/\∀r,dS aO.b1 r->¬dS m.b1 r->b4.ad r≠a))(h:∀b o,H b=Y o->b≠G.ad .b0->ab b=Y o)
  (hm:∃o,ab (G.ad .b0)=Y o/\mB D b4 aO.b1 .b0 (kD aO .b0) o) (t:∀r,r≠.b0->dS m.b1 r->kD aO r=kD m r)
  (f:∀r,dS aO.b1 r->¬dS m.b1 r->(∃o,ab (b4.ad r)=Y o/\mB D b4 aO.b1 r (kD aO r) o)/\H (b4.ad r)=U/\∀bt,dS aO.b1 bt->¬dS m.b1 bt->b4.ad r=b4.ad bt->r=bt):Go D G m H b4 aO ab:=by
 let k:∀r bt,dS m.b1 r->dS aO.b1 bt->¬dS m.b1 bt->G.ad r≠b4.ad bt:=λr bt l g q z=>by let#[u,d,y]:=M.ob r l;rw[z,(f bt g q).2.1]at d;cases d
 show#[#[λa o z=>(i a o z).1,λr l=>?_,λr l=>?_,λr bt l g z=>?_],e.le,λb u z n=>#[h b u z<|c5<|n .b0 trivial,λr l=>?_]]
 .by_cases q:dS m.b1 r
  .by_cases w:r=.b0
   .subst w;rw[e.ad .b0 q];show hm
   .let#[u,d,p]:=M.ob r q;show#[u,by rw[e.ad r q];show h _ _ d λz=>w<|M.hL _ _ q trivial z,by rw[t r w q];show p.cI e q]
  .show(f r l q).1
 .cases z:b4.im (b4.ad r)with
  |none=>rfl
  |some u=>
   obtain w|⟨j,s⟩:=(i _ _ z).2
   .by_cases q:dS m.b1 r
    .rw[e.ad r q,M.fr r q]at w;cases w
    .have:=M.im _ _ w;cases ((f r l q).2.1)▸this
   .by_cases q:dS m.b1 r
    .let#[v,d,y]:=M.ob r q;rw[e.ad r q,d]at j;cases j
    .show a8 Z<|s r l q
 .by_cases q:dS m.b1 r
  .by_cases c:dS m.b1 bt
   .rw[e.ad r q,e.ad bt c]at z;show M.hL r bt q c z
   .show a8 (by rwa[e.ad r q]at z)<|k r bt q g c
  .by_cases c:dS m.b1 bt
   .show a8 (by rw[e.ad bt c]at z;show z.symm)<|k bt r c l q
   .show(f r l q).2.2 bt g c z
 .by_cases q:dS m.b1 r
  .rw[e.ad r q];show n r q
  .show λw=>by rw[<-w,(f r l q).2.1]at z;cases z
def Nw(M:cO D G H m)(a:f<m.a5)(h:H (G.ad<|.a0 f)=Y (.cY av))(d:(gP av (d2 ((s:Nat):Int))<|vp G v).length<=65536+m.c3+m.a9)(j:∀c,v=.aH c->c<m.a9)(e:∀x,v=.cA x->g9 x):
  Go D G m H G (m.hI f s v) (aE H (G.ad<|.a0 f)<|.cY<|gP av (d2 ((s:Nat):Int))<|vp G v):=by
 let#[Ej,b,i]:=M.a0 a
 obtain rfl:av=Ej:=by rw[h]at b;cases b;rfl
 show Go.lR M (.a0 f) a #[Z,Z,Z,bK _] (WK λg n=>bC _ _ n) ?_
 show mB D _ _ (.a0 f) (hZ.a0<|aF m.a0 f _ f) _
 rw[bE]
 show#[9,i.gm s v d (bK _) j e]
def aiX(M:cO D G H m)(a:f<m.a5)(e:H (G.ad<|.a0 f)=Y (.cY av))(h:g9 v):
  Go D G m H G {m.hI f s (.cA v)with c3:=m.c3+1} (aE (aE H (G.ad .b0)<|.b7 (D.c 4) y<|vn G m.fx m.az m.d4 ((m.c3+1:Nat):Int) m.a9) (G.ad<|.a0 f)<|.cY<|gP av (d2 ((s:Nat):Int))<|.int v):=by
 let#[Ej,b,g]:=M.a0 a
 obtain rfl:av=Ej:=by rw[e]at b;cases b;rfl
 let d:Go D G m H G {m with c3:=m.c3+1} (aE H (G.ad .b0)<|.b7 (D.c 4) y<|vn G m.fx m.az m.d4 ((m.c3+1:Nat):Int) m.a9):=
  Go.lR M .b0 trivial #[Z,Z,Z,iT _] (λi n=>by cases i<;>first|rfl|show a8 Z n) #[y,Z]
 show d.bw (Nw d.bQ (v:=.cA v) a ?_ ?_ (λc z=>by cases z) λx z=>by cases z;show h)
 .rw[aK λz=>by cases M.hL (.a0 f) .b0 a trivial z];show e
 .let k:=yL av (d2 ((s:Nat):Int))<|vp G<|.cA v;let j:z9 av<=65536+m.c3+m.a9:=g.eM;show _<=65536+(m.c3+1)+m.a9;lia
def aiY(ad:jr->ao)(n:Nat)(x b a:ao):jr->ao
 |.aH c=>if c=n then x else ad (.aH c)
 |.hC c=>if c=n then b else ad (.hC c)
 |.g8 c=>if c=n then a else ad (.g8 c)
 |r=>ad r
namespace Nx
def bN:Ho.eQ×Ho.aA×Nat×Nat×Int×List (L2.Key×L2.V)->dC:=λ(G,m,f,s,v,av)=>dZ [.ref<|G.ad .b0,.ref<|G.ad<|.a0 f,.int (s:Nat),.int v] λH Q E=>cO D G H m/\f<m.a5/\H (G.ad<|.a0 f)=Y (.cY av)/\g9 v/\lI m/\
  (m.c3=1000000->gd E (-13))/\(m.c3≠1000000->∀a,Go D G m H G {m.hI f s (.cA v)with c3:=m.c3+1} a->a (G.ad<|.a0 f)=Y (.cY<|gP av (d2 ((s:Nat):Int))<|.int v)->Q .bB a)
def W:=dR 24 ["self","frame","slot","number"] (λq=>3) bN
def s:=W.d
def t:=fj W (W.a,W.b,W.c,s,W.e,W.m) W.H W.Q W.E λu g h=>by
 let#[M,d,f,r,L,o,l]:=h;show#[_,aU (ed (d9 lM (bV<|aa 0) ea) (aP<|i4 Z) eP)<|aU (uW (aa 0) cE yF)<|aP<|qN (g5 g) (aa 1) (aa 2)<|aa 3,?_];let#[y,hm]:=M.b0;show#[9,8,hm,aI,T.n 4 5,Z,nH T.ae3 #[Z,9,?_]];rw[show(1000000:Int)=((1000000:Nat):Int)from Z,xt];by_cases z:W.b.c3=1000000
 .rw[gv z];show dw<|DN.iB g<|o z
 .rw[i9 z];show di #[9,8,hm,aI,T.n 4 5,Z,_,9,Z,7,hm,fE,?_];let j:W.a.ad (.a0 W.c)≠W.a.ad .b0:=λz=>by cases M.hL (.a0 W.c) .b0 d trivial z
  let#[Ej,i,q]:=M.a0 d;obtain rfl:W.m=Ej:=by rw[f]at i;cases i;rfl
  let p:z9 W.m<sizeLine:=by
   have:5000000<sizeLine:=by decide
   let v:z9 W.m<=65536+W.b.c3+W.b.a9:=q.eM;have:=L.1;have:=L.2;lia
  show#[9,9,9,_,9,mm.k (k:=d2 ((s:Nat):Int)) ((aK j).trans f) p,l z _ (aiX M d f r) bj]
end Nx
namespace WO
def bN:ao×ao->dC:=λ(x,dx)=>dZ [.ref x] λH Q q=>H x=Y (.b7 (D.c 0) dx [])/\
  ∀e d a,H e=U->H d=U->e≠d->a x=Y (.b7 (D.c 0) dx [("senders",.ref e),("takers",.ref d)])->a e=Y (.cY [])->a d=Y (.cY [])->(∀b o,H b=Y o->b≠x->a b=Y o)->Q .bB a
def W:=dR 0 ["self"] (λq=>0) bN
def x:=W.a
def t:=fj W (x,W.i) W.H W.Q W.E λk l h=>by
 let#[g,q]:=h;show#[_,aU (fY (aa 0) yQ)<|aP<|fY (aa 0) yQ,?_];intro fp e;let c:x≠fp:=cx g e;show#[9,x,_,W.i,9,(aK c).trans g,aI,T.n 0 0,fE,?_];intro eD a;let d:x≠eD:=λz=>by rw[<-z,bj]at a;cases a
 rw[aK<|c5 d]at a;let f:fp≠eD:=λz=>by rw[<-z,bj]at a;cases a
 rw[aK<|c5 f]at a;show#[9,x,_,W.i,9,(aK d).trans bj,aI,T.n 0 1,fE,?_];show q fp eD _ e a f bj ?_ ?_ λb o z j=>?_
 .rw[aK<|c5 c,aK f,aK<|c5 c,bj]
 .rw[aK<|c5 d,bj]
 .rw[aK j,aK<|cx z a,aK j,aK<|cx z e];show z
end WO
namespace WP
def bN:Ho.eQ×Ho.aA×Nat×Nat->dC:=λ(G,m,f,s)=>dZ [.ref<|G.ad .b0,.ref<|G.ad<|.a0 f,.int (s:Nat)] λH Q E=>cO D G H m/\f<m.a5/\lI m/\
  (m.a9=1000000->gd E (-13))/\(m.a9≠1000000->∀b a,Go D G m H b {m.hI f s (.aH m.a9)with a9:=m.a9+1,aH:=aF m.aH m.a9 #[[],[]]} a->Q .bB a)
def W:=dR 25 ["self","frame","slot"] (λq=>3) bN
def G:=W.a
def m:=W.b
def f:=W.c
def s:=W.k
def H:=W.H
def t:=fj W (G,m,f,s) H W.Q W.E λaG N h=>by
 let#[M,u,L,bn,bx]:=h;show#[_,aU (ed (d9 lM (bV<|aa 0) ea) (aP<|i4 Z) eP)<|aU (uW (aa 0) cE yF)<|aP<|qN (g5 N) (aa 1) (aa 2)<|pR aQ ea,?_];let#[y,hm]:=M.b0;show#[9,8,hm,aI,T.n 4 6,Z,nH T.ae4 #[Z,9,?_]];rw[show(1000000:Int)=((1000000:Nat):Int)from Z,xt];by_cases z:m.a9=1000000
 .rw[gv z];show dw<|DN.iB N<|bn z
 .rw[i9 z];show di #[9,8,hm,aI,T.n 4 6,Z,_,9,Z,7,hm,fE,?_];let#[av,he,jE]:=M.a0 u;let cb:G.ad (.a0 f)≠G.ad .b0:=λz=>by cases M.hL (.a0 f) .b0 u trivial z
  show cm (T.c 0).2 ?_;show .rA T.adt #[WO.t] N.bH λx dx au hd ne=>#[(x,dx),Z,bj,λfp eD ay I R HY aq ar bp ei=>#[Z,?_]];let q:H x=none:=fO au;let P:H fp=none:=fO<|fO<|fO I;let X:H eD=none:=fO<|fO<|fO R;let HZ:x≠fp:=λz=>by rw[<-z,bj]at I;cases I
  let H0:x≠eD:=λz=>by rw[<-z,bj]at R;cases R
  let K:∀b o,H b=Y o->b≠G.ad .b0->ay b=Y o:=λb o g nb=>by show ei b o ?_<|cx g q;rwa[aK<|cx g q,aK<|cx g<|fO hd,aK nb]
  let Ny:ay (G.ad .b0)=Y (.b7 (D.c 4) y<|vn G m.fx m.az m.d4 m.c3 ((m.a9+1:Nat):Int)):=by show ei _ _ ?_<|cx hm q;rw[aK<|cx hm q,aK<|cx hm<|fO hd,bj];rfl
  let' e:eQ:={G with ad:=aiY G.ad m.a9 x fp eD}
  let' S:aA:={m with a9:=m.a9+1,aH:=aF m.aH m.a9 #[[],[]]}
  let i:e.ad (.aH m.a9)=x:=aR Z;let j:e.ad (.hC m.a9)=fp:=aR Z;let p:e.ad (.g8 m.a9)=eD:=aR Z;let ad:∀r,dS m.b1 r->e.ad r=G.ad r:=λr l=>by
   cases r with
   |aH c=>show aM<|eg l
   |hC c=>show aM<|eg l
   |g8 c=>show aM<|eg l
   |_=>rfl
  let le:js G e m.b1 S.b1:=#[λ_ _ z=>z,Z,ad,bK _,iT _,bK _,bK _];let F:∀r,dS S.b1 r->¬dS m.b1 r->r=.aH m.a9\/r=.hC m.a9\/r=.g8 m.a9:=λr l d=>by
   cases r with
   |aH c=>have l:c<m.a9+1:=l;have d:¬c<m.a9:=d;show .inl (congrArg jr.aH<|show c=m.a9 by lia)
   |hC c=>have l:c<m.a9+1:=l;have d:¬c<m.a9:=d;show .inr (.inl<|congrArg jr.hC<|show c=m.a9 by lia)
   |g8 c=>have l:c<m.a9+1:=l;have d:¬c<m.a9:=d;show .inr (.inr<|congrArg jr.g8<|show c=m.a9 by lia)
   |_=>show a8 l d
  let ch:aF m.aH m.a9 (#[[],[]]:FK) m.a9=#[[],[]]:=bE ..;let g1:Go D G m H e S ay:=by
   show Go.HV M le (λa o z=>#[K a o (M.im a o z) (λw=>by rw[w,M.fr .b0 trivial]at z;cases z),.inl z]) K #[_,Ny,y,?_] (λr n l=>?_) λr l d=>?_
   .rfl
   .cases r with
    |b0=>show a8 Z n
    |hC c=>have:c<m.a9:=l;show hZ.hC (aF m.aH m.a9 _ c).ep=_;rw[bC _ _ aV];rfl
    |g8 c=>have:c<m.a9:=l;show hZ.g8 (aF m.aH m.a9 _ c).dn=_;rw[bC _ _ aV];rfl
    |_=>rfl
   .obtain rfl|rfl|rfl:=F r l d
    .show#[#[_,by rw[i];show aq,dx,by rw[j,p]],by rwa[i],λB A C z=>?_];obtain rfl|rfl|rfl:=F B A C
     .rfl
     .rw[i,j]at z;show a8 z HZ
     .rw[i,p]at z;show a8 z H0
    .show#[#[_,by rw[j];show ar,[],Z,?_],by rwa[j],λB A C z=>?_]
     .show dE _ [] (aF m.aH m.a9 _ m.a9).ep;rw[ch];show .dg
     obtain rfl|rfl|rfl:=F B A C
     .rw[i,j]at z;show a8 z.symm HZ
     .rfl
     .rw[j,p]at z;show a8 z HY
    .show#[#[_,by rw[p];show bp,[],Z,?_],by rwa[p],λB A C z=>?_]
     .show dE _ [] (aF m.aH m.a9 _ m.a9).dn;rw[ch];show .dg
     obtain rfl|rfl|rfl:=F B A C
     .rw[i,p]at z;show a8 z.symm H0
     .rw[j,p]at z;show a8 z.symm HY
     .rfl
  let cC:z9 av<=65536+m.c3+m.a9:=jE.eM;let big:5000000<sizeLine:=by decide
  let H2:ay (G.ad<|.a0 f)=Y (.cY av):=K _ _ he cb;let c1:=L.1;let dN:=L.2;show#[9,9,_,9,mm.k (k:=d2 ((s:Nat):Int)) H2 aV,?_];let g2:=Nw g1.bQ (s:=s) (v:=.aH m.a9) u (by rw[ad (.a0 f) u];show H2) (by let I:=yL av (d2 ((s:Nat):Int))<|vp e<|.aH m.a9;show _<=65536+m.c3+(m.a9+1);lia) (λc g=>by cases g;show k2 _) (λv g=>by cases g)
  let ev:vp e (.aH m.a9)=.ref x:=by show V.ref (e.ad<|.aH m.a9)=_;rw[i]
  rw[ad (.a0 f) u,ev]at g2;show bx z _ _<|g1.bw g2
end WP
def Nz(ad:jr->ao)(n:Nat)(x b a:ao):jr->ao
 |.ag c=>if c=n then x else ad (.ag c)
 |.a6 c=>if c=n then b else ad (.a6 c)
 |.bI c=>if c=n then a else ad (.bI c)
 |r=>ad r
noncomputable def xz(a:Nat->fG)(n:Nat)(po:Option Nat)(f:Nat)(l:List cJ):Nat->fG:=λk=>
 if k<n then a k else match l[k-n]? with
  |some x=>#[[(.cq x,f)],O,po,0,[]]
  |none=>a k
def gh(m:aA)(po:Option Nat)(f:Nat)(l:List cJ):aA:={m with az:=m.az+z9 l,b5:=m.b5++(gK (z9 l)).map (λk=>m.az+k),ag:=xz m.ag m.az po f l}
def Bw(m:aA)(po:Option Nat)(f:Nat)(x:cJ):aA:={m with az:=m.az+1,ag:=aF m.ag m.az #[[(.cq x,f)],O,po,0,[]]}
def ai1(m:aA)(po:Option Nat)(f:Nat):gh m po f []=m:=by
 have:xz m.ag m.az po f []=m.ag:=by
  funext k
  unfold xz;split<;>rfl
 unfold gh;rw[this];simp
def ai2{m:aA}{po:Option Nat}{f k:Nat}{l:List cJ}{x:cJ}(h:l[k]?=Y x):{Bw (gh m po f<|l.take k) po f x with b5:=(gh m po f<|l.take k).b5++[(gh m po f<|l.take k).az]}=gh m po f (l.take<|k+1):=by
 let d:=(jP.mp h).1;let c:(l.take k).length=k:=by rw[mG];lia
 let a:(l.take<|k+1).length=k+1:=by rw[mG];lia
 let b:aF (xz m.ag m.az po f<|l.take k) (m.az+k) #[[(.cq x,f)],O,po,0,[]]=xz m.ag m.az po f (l.take<|k+1):=by
  funext j
  unfold aF xz;by_cases z:j=m.az+k
  .subst z;rw[aR Z,aM aV,show m.az+k-m.az=k by lia,EW aV,h]
  .rw[aM z];by_cases w:j<m.az
   .rw[aR w,aR w]
   .rw[aM w,aM w];by_cases v:j-m.az<k
    .rw[EW v,EW aV]
    .rw[qa aV,qa aV]
 unfold Bw gh;rw[c,a,b,Pa,r5,m9];rfl
def jq.pC:∀{c:List V}{m:List cJ}{i:Nat}{v:V},jq D bu H c m->c[i]?=Y v->∃x,m[i]?=Y x/\da D bu H v x:=by
 intro c m i v h e
 induction c generalizing m i with
 |nil=>simp at e
 |cons _ _ d=>
  cases h with
  |cB a b=>
   cases i with
   |zero=>simp at e;subst e;show#[9,a]
   |succ i=>simpa using d b (by simpa using e)
def jq.eM:∀{a:List V}{m:List cJ},jq D bu H a m->z9 a=z9 m:=by
 intro a m h
 induction a generalizing m with
 |nil=>cases h;rfl
 |cons _ _ c=>
  cases h with
  |cB _ b=>simp[c b]
def ai3(M:cO D G H m)(P:f<m.a5)(aC:∀p,po=Y p->p<m.az)(au:da D hD G.im v x)
  (W:H h7=U) (Q:H t=U) (fm:H l=U) (f4:H q=U) (K:h7≠l) (R:h7≠q) (I:l≠q) (F:t≠h7) (E:t≠l) (C:t≠q)
  (T:ay h7=Y (.b7 (D.c 3) dx [("number",.int ((m.az+1:Nat):Int)),("parent",vo G po),("things",.ref l),("ready",.cC O),("waits_for",.int 0),("takes_from",.ref q)])) (S:ay t=Y (.cu [v,.ref<|G.ad<|.a0 f])) (X:ay l=Y (.bq [.ref t])) (dj:ay q=Y (.bq []))
  (hm:ay (G.ad .b0)=Y (.b7 (D.c 4) y<|vn G m.fx ((m.az+1:Nat):Int) m.d4 m.c3 m.a9)) (L:∀b o,H b=Y o->b≠G.ad .b0->ay b=Y o):
  Go D G m H #[aE G.im t<|.cu [v,.ref<|G.ad<|.a0 f],Nz G.ad m.az h7 l q,G.ef] (Bw m po f x) ay:=by
 let' d:eQ:=#[aE G.im t<|.cu [v,.ref<|G.ad<|.a0 f],Nz G.ad m.az h7 l q,G.ef]
 let k:d.ad (.ag m.az)=h7:=aR Z
 let i:d.ad (.a6 m.az)=l:=aR Z
 let h:d.ad (.bI m.az)=q:=aR Z
 let ad:∀r,dS m.b1 r->d.ad r=G.ad r:=λr l=>by
  cases r with
  |ag c=>show aM<|eg l
  |a6 c=>show aM<|eg l
  |bI c=>show aM<|eg l
  |_=>rfl
 let N:∀a o,G.im a=Y o->d.im a=Y o:=λa o z=>(aK<|cx z<|M.HU Q).trans z
 let le:js G d m.b1 (Bw m po f x).b1:=#[N,Z,ad,iT _,bK _,bK _,bK _]
 let u:∀r,dS (Bw m po f x).b1 r->¬dS m.b1 r->r=.ag m.az\/r=.a6 m.az\/r=.bI m.az:=λr l g=>by
  cases r with
  |ag c=>have l:c<m.az+1:=l;have g:¬c<m.az:=g;show .inl (congrArg jr.ag<|show c=m.az by lia)
  |a6 c=>have l:c<m.az+1:=l;have g:¬c<m.az:=g;show .inr (.inl<|congrArg jr.a6<|show c=m.az by lia)
  |bI c=>have l:c<m.az+1:=l;have g:¬c<m.az:=g;show .inr (.inr<|congrArg jr.bI<|show c=m.az by lia)
  |_=>show a8 l g
 let a3:aF m.ag m.az (#[[(.cq x,f)],O,po,0,[]]:fG) m.az=#[[(.cq x,f)],O,po,0,[]]:=bE ..
 show Go.HV (b4:=d) M le (λa o z=>?_) L #[_,hm,y,Z] (λr n l=>?_) λr l g=>?_
 .let z:aE G.im t (.cu [v,.ref<|G.ad<|.a0 f]) a=Y o:=z;by_cases w:a=t
  .rw[w,bj]at z;rw[w];show#[by rwa[S],.inr #[Q,λr l g=>?_]];obtain rfl|rfl|rfl:=u r l g
   .rw[k];show c5 F
   .rw[i];show c5 E
   .rw[h];show c5 C
  .rw[aK w]at z;show#[L a o (M.im a o z) (λw=>by rw[w,M.fr .b0 trivial]at z;cases z),.inl z]
 .cases r with
  |b0=>show a8 Z n
  |ag c=>have:c<m.az:=l;show hZ.ag (aF m.ag m.az _ c).hp (aF m.ag m.az _ c).cp (aF m.ag m.az _ c).ey=_;rw[bC _ _ aV];rfl
  |a6 c=>have:c<m.az:=l;show hZ.a6 (aF m.ag m.az _ c).a6=_;rw[bC _ _ aV];rfl
  |bI c=>have:c<m.az:=l;show hZ.bI (aF m.ag m.az _ c).bI=_;rw[bC _ _ aV];rfl
  |_=>rfl
 .let aa:vo d po=vo G po:=by
   cases po with
   |none=>rfl
   |some p=>show congrArg V.ref<|ad (.ag p)<|aC p Z
  obtain rfl|rfl|rfl:=u r l g
  .show#[#[_,by rwa[k],?_],by rwa[k],λB A s z=>?_]
   .show mB D d _ (.ag m.az) (hZ.ag (aF m.ag m.az _ m.az).hp (aF m.ag m.az _ m.az).cp (aF m.ag m.az _ m.az).ey) _;rw[a3];show#[#[dx,?_],λj e=>pj<|aC j e];unfold zj;rw[i,h,aa];rfl
   obtain rfl|rfl|rfl:=u B A s
   .rfl
   .rw[k,i]at z;show a8 z K
   .rw[k,h]at z;show a8 z R
  .show#[#[_,by rwa[i],?_],by rw[i];show fm,λB A s z=>?_]
   .show mB D d _ (.a6 m.az) (hZ.a6 (aF m.ag m.az _ m.az).a6) _;rw[a3];show#[9,.cB #[#[t,v,Z,by show aE G.im t _ t=_;rw[bj,ad (.a0 f) P],da.dt (λa o _ z=>#[trivial,N a o z]) au],P] .dg]
   obtain rfl|rfl|rfl:=u B A s
   .rw[k,i]at z;show a8 z.symm K
   .rfl
   .rw[i,h]at z;show a8 z I
  .show#[#[_,by rw[h];show dj,?_],by rw[h];show f4,λB A s z=>?_]
   .show mB D d _ (.bI m.az) (hZ.bI (aF m.ag m.az _ m.az).bI) _;rw[a3];show#[Z,λc hc=>by cases hc]
   obtain rfl|rfl|rfl:=u B A s
   .rw[k,h]at z;show a8 z.symm R
   .rw[i,h]at z;show a8 z.symm I
   .rfl
namespace WR
def bN:ao×ao×L2.V×L2.V×L2.V×L2.V->dC:=λ(x,dx,d,g,e,f)=>dZ [.ref x,d,g,e,f] λH Q w=>H x=Y (.b7 (D.c 3) dx [])/\
  ∀t l q a,H t=U->H l=U->H q=U->t≠l->t≠q->l≠q->a x=Y (.b7 (D.c 3) dx [("number",d),("parent",g),("things",.ref l),("ready",.cC O),("waits_for",.int 0),("takes_from",.ref q)])->a t=Y (.cu [e,f])->a l=Y (.bq [.ref t])->a q=Y (.bq [])->(∀b o,H b=Y o->b≠x->a b=Y o)->Q .bB a
def W:=dR 17 ["self","number","parent","statement","frame"] (λq=>0) bN
def x:=W.a
def dx:=W.b
def t:=fj W (x,dx,W.c,W.d,W.e,W.m) W.H W.Q W.E λB C h=>by
 let#[A,q]:=h;show#[_,aU (fY (aa 0)<|aa 1)<|aU (fY (aa 0)<|aa 2)<|aU (fY (aa 0)<|oa<|bo<|ll<|cH (aa 3)<|aa 4)<|aU (fY (aa 0) oS)<|aU (fY (aa 0) cE)<|aP<|fY (aa 0)<|oa nx,?_];show#[9,9,x,_,dx,9,A,aI,T.n 3 0,cn,?_];show#[9,9,x,_,dx,9,bj,aI,T.n 3 1,cn,?_];rw[io];show#[9,9,cn,λt j=>#[by show 1<=sizeLine;decide,λl a=>?_]];let f:x≠t:=λz=>by rw[<-z,bj]at j;cases j
 let r:x≠l:=λz=>by rw[<-z,aK f,bj]at a;cases a
 let ft:t≠l:=λz=>by rw[<-z,bj]at a;cases a
 show#[9,x,_,dx,9,(aK r).trans<|(aK f).trans bj,aI,T.n 3 2,cn,?_];show#[9,x,_,dx,9,bj,aI,T.n 3 3,fE,?_];rw[io];show#[9,x,_,dx,9,bj,aI,T.n 3 4,fE,?_];rw[io];show#[cn,λp aC=>?_];let s:x≠p:=λz=>by rw[<-z,bj]at aC;cases aC
 let g:=fO aC;let w:l≠p:=λz=>by rw[<-z,bj]at g;cases g
 let k:=fO g;let y:t≠p:=λz=>by rw[<-z,bj]at k;cases k
 show#[9,x,_,dx,9,(aK s).trans bj,aI,T.n 3 5,fE,?_];let u:=fO j;let v:=fO<|fO a;let vl:=fO<|fO k;show q t l p _ u v vl ft y w bj ?_ ?_ ?_ λb o z i=>?_
 .rw[aK<|c5 f,aK y,aK<|c5 f,aK ft,bj]
 .rw[aK<|c5 r,aK w,aK<|c5 r,bj]
 .rw[aK<|c5 s,bj]
 .rw[aK i,aK<|cx z vl,aK i,aK<|cx z v,aK<|cx z u,aK i];show z
end WR
namespace NA
def bN:eQ×aA×Option Nat×ao×List V×List cJ×Nat->dC:=λ(G,m,po,a,b,l,f)=>dZ [.ref<|G.ad .b0,vo G po,.ref a,.ref<|G.ad<|.a0 f] λH Q E=>cO D G H m/\f<m.a5/\(∀p,po=Y p->p<m.az)/\H a=Y (.bq b)/\(∀r,dS m.b1 r->G.ad r≠a)/\jq D hD G.im b l/\z9 m.b5<=5000/\
  (4096<m.az+z9 l->gd E (-13))/\(¬4096<m.az+z9 l->∀d c,Go D G m H d (gh m po f l) c->Q .bB c)
def W:=dR 23 ["self","parent","statements","frame","statement"] (λq=>3) bN
def G:=W.a
def m:=W.b
def po:=W.c
def l:=W.f
def f:=W.n
def t:=fj W (G,m,po,W.d,W.e,l,f) W.H W.Q W.E λaG af h=>by
 let#[M,hf,aC,NB,S,au,m6,bn,bx]:=h;generalize po=po at *;show#[_,aU (ed (d9 tA (iO mW (bV<|aa 0)<|j5 mY Z lr mD<|bo<|aa 2) ea) (aP<|i4 Z) eP)<|aP<|qs i2 Z (uV<|aa 2) (o6 4 aG)<|aU (uW (aa 0) cE yF)<|aP<|cU<|iP cf cv fo jm (bV<|aa 0)<|bo<|cP aQ<|fX (bV<|aa 0)<|fX (aa 1)<|cH (aa 4)<|aa 3,?_];let#[y,hm]:=M.b0;let ln:=au.eM;show#[9,8,hm,aI,T.n 4 3,Z,9,W.d,9,.inl<|bM.of NB,_,9,Z,nH T.ae2 #[_,9,Z,9,iR (λz=>(DN.iB af<|bn (by have:=kc z;rw[ln]at this;lia))) λz=>?_]]
 .let le:¬4096<m.az+z9 l:=λw=>z (gv (by rw[ln];lia));let big:65536<sizeLine:=by decide
  show#[9,W.d,Z,#[_,bM.of NB],?_];show yD (λk I H1=>∃r e,I=[Y<|.ref<|G.ad .b0,Y<|vo G po,Y<|.ref W.d,Y<|.ref<|G.ad<|.a0 f,e]/\Go D G m W.H r (gh m po f<|l.take k) H1) #[G,U,Z,by rw[List.take_zero,ai1];show Go.hW M] (λk I H1 _ #[r,e,_,g]=>bM.of (g.fr _ _ NB S).1) (λk v I H1 bk #[r,e,A,g]=>?_) λI H1 #[r,e,A,g]=>?_
  .subst A;let#[x,aD,eY]:=au.pC bk;let pc:=(jP.mp aD).1;let ft:(l.take k).length=k:=by rw[mG];lia
   let u:=g.le.ad .b0 trivial (by intro i z;cases z);let ap:vo r po=vo G po:=by
    cases po with
    |none=>rfl
    |some p=>show congrArg V.ref (g.le.ad (.ag p) (aC p Z) (by intro i z;cases z))
   let#[mz,s]:=g.bQ.b0;rw[u]at s;show#[9,8,s,aI,T.n 4 3,Z,_,9,Z,7,s,fE,?_];let kK:=g.bQ.b5;let WT:r.ad .b5≠G.ad .b0:=λz=>by rw[<-u]at z;cases g.bQ.hL .b5 .b0 trivial trivial z
   show#[9,8,bj,aI,T.n 4 2,Z,.inl #[Z,_,bM.of<|(aK WT).trans kK],?_];show cm (T.c 3).2 ?_;show#[9,8,bj,aI,T.n 4 3,Z,9,9,9,.rA T.adw #[WR.t] af.bH λh7 dx t8 NC ai8=>#[(h7,dx,_,_,_,_),Z,bj,λt vm DG P bz hl L R aja X A ar bp dj ei=>#[Z,?_]]];let B:=fO t8;let WU:=fO NC;let N:t≠h7:=λz=>by rw[z,bj]at bz;cases bz
   let ajd:h7≠vm:=λz=>by rw[<-z,bj]at hl;cases hl
   let aje:h7≠DG:=λz=>by rw[<-z,bj]at L;cases L
   let ir:∀b o,H1 b=Y o->b≠r.ad .b0->P b=Y o:=λb o F nb=>by show ei b o ?_<|cx F B;rwa[aK<|cx F B,aK<|cx F WU,aK (by rw[<-u];show nb)]
   let Ny:P (r.ad .b0)=Y (.b7 (D.c 4) mz<|vn r (gh m po f<|l.take k).fx (((gh m po f<|l.take k).az+1:Nat):Int) (gh m po f<|l.take k).d4 (gh m po f<|l.take k).c3 (gh m po f<|l.take k).a9):=by rw[u];show ei _ _ ?_<|cx s B;rw[aK<|cx s B,aK<|cx s WU,bj];rfl
   let g2:=ai3 g.bQ (x:=x) (v:=v) (h7:=h7) (dx:=dx) (t:=t) (l:=vm) (q:=DG) (y:=mz) (eR hf g.le.a5) (λp e=>eR (aC p e) g.le.az) (da.dt (λa o _ z=>#[trivial,g.le.im a o z]) eY) B (fO<|fO<|fO bz) (fO<|fO<|fO hl) (fO<|fO<|fO L) ajd aje X N R aja (by rwa[ap]) (by rw[(g.le.ad (.a0 f) hf (by intro i z;cases z))];show ar) bp dj Ny ir;let K:(gh m po f<|l.take k).b5.length=z9 m.b5+k:=by show(m.b5++(gK (l.take k).length).map _).length=_;rw[ju,hR,Ji,ft]
   let WV:=ir _ _ kK (by rw[u];show WT);show#[7,9,Z,WV,by rw[hR,K];lia,?_];let g3:=Nu g2.bQ ((gh m po f<|l.take k).b5++[(gh m po f<|l.take k).az]) λj aW=>(iV.mp aW).elim (λz=>pj<|g.bQ.Nk j z) λz=>by rw[gX.mp z];show k2 _
   let kL:=g2.bQ.b5;let Wd:(Bw (gh m po f<|l.take k) po f x).b5=(gh m po f<|l.take k).b5:=rfl;rw[Wd]at kL;let HN:P (r.ad .b5)=_:=kL;rw[WV]at HN;rw[r5,<- (hs.bq.inj<|iX HN)]at g3;let C:=g.bw<|g2.bw g3;rw[ai2 aD]at C;let ND:Nz r.ad (gh m po f<|l.take k).az h7 vm DG (.ag (gh m po f<|l.take k).az)=h7:=aR Z;rw[mH,B1]at C;dsimp only at C;rw[ND]at C;show#[_,9,C]
  .subst A;rw[ln,E2]at g;show bx le r _ g
end NA
def WW(i:Int):(ux<|toString i).cps.toList=h2 i:=by
 rw[PyProof.Rows.signs_ofString]
 unfold h2
 cases i with
 |ofNat n=>rw[aM<|show ¬Int.ofNat n<0 from Int.not_lt.mpr<|Jx n];show(Nat.repr n).toList.map _=_;rw[OH];rfl
 |negSucc n=>rw[aR<|Int.negSucc_lt_zero n];show("-"++Nat.repr (n+1)).toList.map _=_;rw[String.toList_append,r5,OH];rfl
def ajg(h:g9 i):(h2 i).length<=4302:=by
 have:(Nat.toDigits 10 i.natAbs).length<=4300:=by let c:=PySem.W.KT.len_num (n:=(i.natAbs:Int)) (Jx _) (by have:=h.1;have:=h.2;lia);let b:=PySem.W.KIN.signs_num i.natAbs;let a:=congrArg Jq b;rw[hR,zQ]at a;let d:(ux<|toString (i.natAbs:Int)).length=(ux<|toString (i.natAbs:Int)).cps.size:=rfl;lia
 unfold h2;split
 .rw[gi,hR];lia
 .rw[hR];lia
namespace WX
def bN:Ho.eQ×Ho.aA×Int->dC:=λ(G,m,v)=>dZ [.ref<|G.ad .b0,.int v] λH Q E=>cO D G H m/\g9 v/\z9 m.cg<=1048576/\
  (1048576<z9 m.cg+(h2 v++[10]).length->gd E (-13))/\(¬1048576<z9 m.cg+(h2 v++[10]).length->∀a,Go D G m H G {m with cg:=m.cg++(h2 v++[10])} a->Q .bB a)
def W:=dR 26 ["self","number","codes","sign"] (λq=>3) bN
def G:=W.a
def m:=W.b
def v:=W.j
def H:=W.H
def t:=fj W (G,m,v) H W.Q W.E λp A h=>by
 let#[M,l,P,C,u]:=h;show#[_,(aU (Ub Z Z (i:=2) p Z Z (SE Z Z Z eH) (Lo<|GD ZT Z (T.lJ _ bg) ah2<|bo<|aa 1) (own:=[("sign",3)]) (show wR ["self","number","codes","sign"] (hY<|st 26) _ _ from#[Z,eH,eH,eH,eH]) (λV V V V V V=>C3 (i:=3) p Z<|uy Z) (λV V V V V V V=>Ld) λV V V V V V=>(j5 KH Z Mv Nf<|bo<|aa 3))<|aU (cU<|iP cf cv fo jm (aa 2)<|bo ea)<|aU (ed (d9 tA (iO mW (j5 mY Z lr mD<|bo<|bV<|aa 0)<|j5 mY Z lr mD<|bo<|aa 2) ea) (aP<|i4 Z) eP)<|aP<|cU<|iP Cd PH PySem.F.type_list_extend aaF (bV<|aa 0)<|bo<|aa 2),?_];let#[y,hm]:=M.b0;let big:5000000<sizeLine:=by decide
 let dl:=ajg l;show#[9,v,Z,?_,9,λd a=>?_]
 .by_cases z:v.natAbs=0
  .rw[z];decide
  .show(Nat.log2_lt z).mpr (eR (show v.natAbs<2 ^ 32 by have:=l.1;have:=l.2;lia)<|Oz cn cn)
 show Wj (λj f=>f=aE H d (.bq<|(d8<|h2 v).take j)) Z (λj c f L e=>?_) λf e=>?_
 .subst e;show#[Z,?_];simp only[GJ,if_true];let I:(d8<|h2 v)[j]?=Y (.int (c:Nat)):=tZ (by rw[<-WW];simpa using L);show#[9,9,Z,_,bj,?_,?_]
  .have:((d8<|h2 v).take j).length<=(h2 v).length:=by rw[mG,ie];show OF ..
   lia
  .rw[io,BX,I];rfl
 .subst e;let s:(d8<|h2 v).take (ux<|toString v).cps.size=d8 (h2 v):=by rw[OY];rw[ie,<-WW,zQ];show bK _
  rw[s];let k:G.ad .b0≠d:=cx hm a;let K:G.ad .cg≠d:=cx M.cg a;show#[9,.inl #[Z,_,bM.of bj],nH T.ae7 #[7,9,Z,bj,by rw[ie];lia,?_]];rw[io];let B:d8 (h2 v)++[.int 10]=d8 (h2 v++[10]):=by unfold d8;rw[r5];rfl
  rw[B];let r:aE H d (.bq<|d8<|h2 v++[10]) (G.ad .b0)=_:=(aK k).trans hm;let g:aE H d (.bq<|d8<|h2 v++[10]) (G.ad .cg)=_:=(aK K).trans M.cg;show#[9,8,r,aI,T.n 4 7,Z,_,9,.inl<|bM.of g,9,_,9,.inl<|bM.of bj,_,9,Z,nH T.ae5 #[_,9,Z,9,iR (λz=>?_) λz=>?_]]
  .show DN.iB A (C (by have:=kc z;rw[ie,ie]at this;lia))
  .let le:¬1048576<z9 m.cg+(h2 v++[10]).length:=λw=>z (gv (by rw[ie,ie];lia));let q:Go D G m H G m (aE H d<|.bq<|d8<|h2 v++[10]):=Go.eS M λb o z=>by rwa[aK<|cx z a]
   show#[9,8,r,aI,T.n 4 7,Z,.inl #[Z,_,bM.of g],9,7,_,9,Z,g,bj,by rw[ie,ie];lia,?_];show u le _<|q.bw ?_;let x:d8 m.cg++d8 (h2 v++[10])=d8 (m.cg++(h2 v++[10])):=r5.symm;rw[x];show Go.lR q.bQ .cg trivial #[Z,Z,Z,bK _] (λN n=>by cases N<;>first|rfl|show a8 Z n) Z
end WX
def zl:((d2 ((a+1:Nat):Int):Key)=d2 ((b+1:Nat):Int))↔a=b:=#[λh=>by have:=Fo h;lia,λh=>by rw[h]]
def NF(h:dE (sT D G N) av l):(ec av<|d2 ((j+1:Nat):Int)).isSome=l.any (λt=>t.1==j):=by
 induction h with
 |dg=>rfl
 |@cB a b l m x _ c=>
  by_cases e:b.1=j
  .rw[ml (by rwa[x.k,zl])];simp[e]
  .rw[iv (by rwa[x.k,zl]),c];simp[e]
def aji(h:dE (xv D G N) av l):(ec av<|d2 ((j+1:Nat):Int)).isSome=l.any (λt=>t.1==j):=by
 induction h with
 |dg=>rfl
 |@cB a b l m x _ c=>
  by_cases e:b.1=j
  .rw[ml (by rwa[x.k,zl])];simp[e]
  .rw[iv (by rwa[x.k,zl]),c];simp[e]
def ajj(h:dE (sT D G N) av l):dE (sT D G N) (nD av<|d2 ((j+1:Nat):Int)) (l.filter λt=>t.1 != j):=by
 induction h with
 |dg=>show .dg
 |@cB a b l m x _ c=>
  by_cases e:b.1=j
  .rw[Lx (by rwa[x.k,zl]),List.filter_cons_of_neg<|by simp[e]];show c
  .rw[Ly (by rwa[x.k,zl]),List.filter_cons_of_pos<|by simp[e]];show .cB x c
def ajk(h:dE (xv D G N) av l)(n:∀t∈l,t.1≠j):nD av (d2 ((j+1:Nat):Int))=av:=by
 induction h with
 |dg=>rfl
 |@cB a b l m x _ c=>rw[Ly (by rw[x.k,zl];show n b<|fD ..),c λt d=>n t<|e9 _ d]
def dE.eM{P:α->β->Prop}{l:List α}{m:List β}(h:dE P l m):z9 l=z9 m:=by
 induction h with
 |dg=>rfl
 |cB _ _ a=>simp[a]
def WY(M:cO D G H m)(e:c<m.a9)(h1:∀d,(ch d).ep=(m.aH d).ep)(a:∀d,d≠c->(ch d).dn=(m.aH d).dn)(b:dE (sT D G m.b1) av (ch c).dn):Go D G m H G {m with aH:=ch} (aE H (G.ad<|.g8 c)<|.cY av):=by
 show Go.lR M (.g8 c) e #[Z,Z,Z,bK _] (λr n=>?_) #[av,Z,b]
 cases r with
 |hC d=>show congrArg hZ.hC<|h1 d
 |g8 d=>show congrArg hZ.g8<|a d λz=>n<|congrArg jr.g8 z
 |_=>rfl
def WZ(M:cO D G H m)(e:c<m.a9)(h1:∀d,(ch d).dn=(m.aH d).dn)(a:∀d,d≠c->(ch d).ep=(m.aH d).ep)(b:dE (xv D G m.b1) av (ch c).ep):Go D G m H G {m with aH:=ch} (aE H (G.ad<|.hC c)<|.cY av):=by
 show Go.lR M (.hC c) e #[Z,Z,Z,bK _] (λr n=>?_) #[av,Z,b]
 cases r with
 |g8 d=>show congrArg hZ.g8<|h1 d
 |hC d=>show congrArg hZ.hC<|a d λz=>n<|congrArg jr.hC z
 |_=>rfl
def H3(ad:jr->ao)(j:Nat)(p:ao):jr->ao
 |.bI c=>if c=j then p else ad (.bI c)
 |r=>ad r
def ajl(M:cO D G H m)(h:j<m.az)(aC:H p=U):
  Go D G m H {G with ad:=H3 G.ad j p} (m.dU j {m.ag j with bI:=[]}) (aE (aE H p<|.bq []) (G.ad<|.ag j)<|.b7 (D.c 3) x [("number",.int ((j+1:Nat):Int)),("parent",vo G (m.ag j).hp),("things",.ref<|G.ad<|.a6 j),("ready",.cC (m.ag j).cp),("waits_for",.int (m.ag j).ey),("takes_from",.ref p)]):=by
 let' f:eQ:={G with ad:=H3 G.ad j p}
 let g:f.ad (.bI j)=p:=aR Z
 let ad:∀r,r≠.bI j->f.ad r=G.ad r:=λr n=>by
  cases r with
  |bI c=>show aM λz=>n<|congrArg jr.bI z
  |_=>rfl
 let t:∀r,dS m.b1 r->G.ad r≠p:=λr l=>M.g6 aC l
 let B:∀r,r≠.bI j->kD (m.dU j {m.ag j with bI:=[]}) r=kD m r:=Eg λbt n=>#[λW=>#[Z,Z,Z],λW=>rfl,λe=>a8 e n]
 let E:kD (m.dU j {m.ag j with bI:=[]}) (.bI j)=.bI []:=by show hZ.bI (aF m.ag j _ j).bI=_;rw[bE]
 show#[#[λa o z=>?_,λr l=>?_,λr l=>?_,λr bt l A z=>?_],#[λW W z=>z,Z,λr l n=>ad r<|n j,bK _,bK _,bK _,bK _],λb u z n=>#[?_,λr l=>?_]]
 .let z:G.im a=Y o:=z;rw[aK (λw=>by rw[w,M.fr (.ag j) h]at z;cases z),aK<|cx (M.im a o z) aC];show M.im a o z
 .let l:dS m.b1 r:=l;by_cases e:r=.bI j
  .subst e;show#[.bq [],?_,?_]
   .show aE _ _ _ (f.ad<|.bI j)=_;rw[g,aK<|c5<|t (.ag j) h,bj]
   .rw[E];show#[Z,λc F=>by cases F]
  .show ∃o,aE _ _ _ (f.ad r)=_/\_;rw[ad r e,B r e];by_cases w:r=.ag j
   .subst w;show#[_,bj,#[x,?_],M.Nl h];unfold zj;rw[show({G with ad:=H3 G.ad j p}:eQ).ad (.bI j)=p from g];cases (m.ag j).hp<;>rfl
   .let#[u,C,d]:=M.ob r l
    show#[u,by rwa[aK λz=>w<|M.hL r (.ag j) l h z,aK<|t r l],?_]
    cases r with
    |ag c=>let#[#[y,q],b]:=d;show#[#[y,?_],b];rw[q];unfold zj;rw[show({G with ad:=H3 G.ad j p}:eQ).ad (.bI c)=G.ad (.bI c)from ad _ λz=>w (by cases z;rfl)];cases (m.ag c).hp<;>rfl
    |b0=>show d
    |b5=>show d
    |cg=>show d
    |a6 c=>let#[ac,q,a]:=d;show#[ac,q,a.hK λW W W z=>#[z.ob,z.lt]]
    |bI c=>show d
    |aH c=>show d
    |hC c=>let#[ac,q,a]:=d;show#[ac,q,a.hK λW W W z=>#[z.k,z.ob,z.lt,z.lb]]
    |g8 c=>let#[ac,q,a]:=d;show#[ac,q,a.hK λW W W z=>#[z.k,z.ob,z.lt]]
    |a0 c=>
     let#[ac,q,a]:=d
     show#[ac,q,#[λs=>?_,a.lt,a.lb,a.eM]]
     rw[a.nG s]
     cases m.a0 c s with
     |none=>rfl
     |some v=>cases v<;>rfl
 .let l:dS m.b1 r:=l;show G.im (f.ad r)=U;by_cases e:r=.bI j
  .rw[e,g];show M.HU aC
  .rw[ad r e];show M.fr r l
 .let l:dS m.b1 r:=l;let A:dS m.b1 bt:=A;let z:f.ad r=f.ad bt:=z;by_cases e:r=.bI j
  .by_cases i:bt=.bI j
   .rw[e,i]
   .rw[e,g,ad bt i]at z;show a8 z.symm<|t bt A
  .by_cases i:bt=.bI j
   .rw[i,g,ad r e]at z;show a8 z<|t r l
   .rw[ad r e,ad bt i]at z;show M.hL r bt l A z
 .rw[aK<|c5<|n (.ag j) h,aK<|cx z aC];show z
 .let l:dS m.b1 r:=l;show f.ad r≠b;by_cases e:r=.bI j
  .rw[e,g];show c5<|cx z aC
  .rw[ad r e];show n r l
namespace NG
def bN:ao×List (Key×V)->dC:=λ(d,av)=>dZ [.ref d] λH Q q=>H d=Y (.cY av)/\(av=[]->Q .bB H)/\∀k v r,av=(k,v)::r->Q v H
def W:=dR 3 ["waiting","task_number"] (λq=>0) bN
def d:=W.a
def av:=W.i
def H:=W.H
def t:=fj W (d,av) H W.Q W.E λm q h=>by
 let#[g,s,l]:=h
 generalize av=av at*
 show#[_,aU (abi<|qs i2 Z (abz<|aa 0) (o6 1 m)<|aP<|cS<|sK (g5 q) (aa 0)<|aa 1)<|aP<|cS lL,?_]
 let a:∀b,aE (aE H d<|.fH b<|.cY av) d (.cY av)=H:=λb=>by rw[io];show TA g
 show#[d,_,g,trivial,λb=>#[9,d,b,av,Z,bj,?_]]
 cases av with
 |nil=>show#[λi n e H1=>i=0/\H1=aE H d (.fH b<|.cY []),#[0,Z,Z],λi n e H1 #[f,c]=>.inl #[#[by rw[c];show bj,hQ _],by rw[c];show bj,?_]];rw[c,a];show s Z
 |cons p r=>let#[k,v]:=p;show#[λi n e H1=>i=0/\e=[Y<|.ref d,U]/\H1=aE H d (.fH b<|.cY ((k,v)::r)),#[0,Z,Z,Z],λi n e H1 #[f,c,j]=>.inr #[#[by rw[j];show bj,by rw[f];show Nat.zero_lt_succ _],λV V=>False,λV V z=>z.elim,λx B y=>?_]];let#[u,A,C,o,w]:=y;subst f c u j w;cases o;show#[9,9,d,v,Z,.inl #[_,k,.inr #[b,bj],Z,(ml (p:=(k,v)) Z).symm],bj,?_];rw[a];show l k v r Z
end NG
structure W0(m:aA)(j:Nat):Prop where
 aG:(m.ag j).bI.Nodup
 i5:∀c∈(m.ag j).bI,(m.aH c).dn.any (λt=>t.1==j)=O
def rK(m:aA)(j:Nat)(l:List Nat):Nat->FK:=λc=>if c∈l then {m.aH c with dn:=(m.aH c).dn.filter λt=>t.1 != j}else m.aH c
def W1(m:aA)(j:Nat)(l:List Nat)(c:Nat):(rK m j l c).ep=(m.aH c).ep:=by unfold rK;split<;>rfl
namespace W2
def bN:Ho.eQ×Ho.aA×Nat->dC:=λ(G,m,j)=>dZ [.ref<|G.ad<|.ag j] λH Q q=>cO D G H m/\j<m.az/\W0 m j/\∀b a,Go D G m H b (m.Cv j) a->Q .bB a
def W:=dR 7 ["task","channel"] (λq=>0) bN
def G:=W.a
def m:=W.b
def j:=W.j
def t:=fj W (G,m,j) W.H W.Q W.E λaG af h=>by
 let#[M,a,A,q]:=h;show#[_,aU (qs i2 Z (uV<|bV<|aa 0) (o6 1 aG)<|aP<|cU<|Ln (bV<|aa 1) (bV<|aa 0) #[Z,Z,Z,Z])<|aP<|fY (aa 0)<|oa nx,?_];let#[x,L]:=M.ag a;let#[N,F]:=M.bI a;show#[9,8,L,aI,T.n 3 5,Z,9,#[_,bM.of N],?_];let X:rK m j []=m.aH:=rfl;show yD (xs:=(m.ag j).bI.map λc=>.ref<|G.ad<|.aH c) (λk b H1=>∃e,b=[Y<|.ref<|G.ad<|.ag j,e]/\Go D G m W.H G {m with aH:=rK m j ((m.ag j).bI.take k)} H1) #[U,Z,Go.hW M] (λk b H1 _ #[e,_,g]=>bM.of (g.bQ.bI a).1) (λk v b H1 C #[e,o,g]=>?_) λb H1 #[e,o,g]=>?_
 .subst o;rw[r4]at C;let#[c,l,rfl]:=iW.mp C;let u:c∈(m.ag j).bI:=mF l;let b1:=F c u;let pc:=(jP.mp l).1;let r:(m.ag j).bI.take (k+1)=(m.ag j).bI.take k++[c]:=by rw[BX,l];rfl
  let R:c∉(m.ag j).bI.take k:=by let aG:=A.aG;rw[<-Jd (k+1) (m.ag j).bI,r,m9]at aG;show λz=>(vT.mp aG).2.2 c z c bg Z
  let#[y,K]:=g.bQ.aH (c:=c) b1;let#[av,B,P]:=g.bQ.g8 (c:=c) b1;let I:rK m j ((m.ag j).bI.take k) c=m.aH c:=aM R;let w:dE (sT D G m.b1) av (m.aH c).dn:=by have:dE (sT D G m.b1) av (rK m j ((m.ag j).bI.take k) c).dn:=P;rwa[I]at this
  let#[S,V]:=B3.mp<|(NF (j:=j) w).trans<|A.i5 c u;let#[s,f]:=g.bQ.ag (i:=j) a;show#[9,8,K,aI,T.n 0 1,Z,9,.inl #[_,.inl B],9,8,f,aI,T.n 3 0,Z,av,d2 ((j+1:Nat):Int),S,B,Z,V,#[9,g.bw ?_]];show WY (m:={m with aH:=rK m j ((m.ag j).bI.take k)}) g.bQ b1 (λd=>by show _=(rK m j _ d).ep;rw[W1,W1]) (λd n=>?_) ?_
  .show(rK m j _ d).dn=(rK m j _ d).dn;unfold rK;rw[r];simp only[iV,gX,n,or_false]
  .have:rK m j ((m.ag j).bI.take<|k+1) c={m.aH c with dn:=(m.aH c).dn.filter λt=>t.1 != j}:=aR (by rw[r];simp);rw[this];show ajj w
 .subst o;rw[hR,E2]at g;let#[s,f]:=g.bQ.ag (i:=j) a;show#[by show 0<=sizeLine;decide,λp aC=>#[9,7,_,9,(aK<|cx f aC).trans f,aI,T.n 3 5,fE,?_]];show q _ _<|g.bw<|ajl g.bQ a (x:=s) aC
end W2
namespace W4
def bN:ao×ao×L2.V×L2.V->dC:=λ(x,dx,a,b)=>dZ [.ref x,a,b] λH Q q=>H x=Y (.b7 (D.c 1) dx [])/\Q .bB (aE H x<|.b7 (D.c 1) dx [("task",a),("number",b)])
def W:=dR 1 ["self","task","number"] (λq=>0) bN
def t:=fj W (W.a,W.b,W.c,W.k) W.H W.Q W.E λe f h=>by let#[d,q]:=h;show#[_,aU (fY (aa 0)<|aa 1)<|aP<|fY (aa 0)<|aa 2,?_];show#[9,9,W.a,_,W.b,9,d,aI,T.n 1 0,fE,?_];show#[9,9,W.a,_,W.b,9,bj,aI,T.n 1 1,fE,?_];rwa[io]
end W4
namespace W5
def bN:ao×ao×L2.V×L2.V×L2.V×L2.V->dC:=λ(x,dx,a,b,c,d)=>dZ [.ref x,a,b,c,d] λH Q q=>H x=Y (.b7 (D.c 2) dx [])/\Q .bB (aE H x<|.b7 (D.c 2) dx [("task",a),("frame",b),("slot",c),("statement",d)])
def W:=dR 2 ["self","task","frame","slot","statement"] (λq=>0) bN
def x:=W.a
def dx:=W.b
def t:=fj W (x,dx,W.c,W.d,W.e,W.m) W.H W.Q W.E λb f h=>by let#[a,q]:=h;show#[_,aU (fY (aa 0)<|aa 1)<|aU (fY (aa 0)<|aa 2)<|aU (fY (aa 0)<|aa 3)<|aP<|fY (aa 0)<|aa 4,?_];show#[9,9,x,_,dx,9,a,aI,T.n 2 0,fE,?_];show#[9,9,x,_,dx,9,bj,aI,T.n 2 1,fE,?_];rw[io];show#[9,9,x,_,dx,9,bj,aI,T.n 2 2,fE,?_];rw[io];show#[9,9,x,_,dx,9,bj,aI,T.n 2 3,fE,?_];rwa[io]
end W5
def W6(M:cO D G H m)(c:H x=U)(e:H dx=U)(g:dx≠x):Go D G m H {G with im:=aE G.im x (.b7 C dx bb)} m (dJ H x dx C bb):=by
 let f:∀b o,H b=Y o->dJ H x dx C bb b=Y o:=λb o z=>by unfold dJ;rwa[aK<|cx z c,aK<|cx z e]
 let d:Go D G m H G m (dJ H x dx C bb):=Go.eS M f;let a:=cO.aiW (o:=.b7 C dx bb) (p:=x) d.bQ bj (λr l=>M.g6 c l)<|M.HU c;show d.bw #[a.1,a.2.le,λb o z n=>#[z,n]]
def rI.of(h:da D (λq=>True) im v x):rI D im v (.cq x):=h
def da.ajn(h:da D bu H v x):∃a,v=.ref a:=by cases h<;>show#[9]
structure NH(m:aA)(i c:Nat):Prop where
 g6:∀e∈(m.aH c).ep,e.1≠i
 ls:(m.aH c).ep.length<=5000
 a3:∀j f s st r,(m.aH c).dn=(j,f,s,st)::r->W0 m j/\(m.a0 f s).isSome=O/\(m.ag j).a6.length<=5000
namespace W7
def bN:eQ×aA×Nat×Nat×Int->dC:=λ(G,m,i,c,v)=>dZ [.ref<|G.ad .b0,.ref<|G.ad<|.ag i,.ref<|G.ad<|.aH c,.int v] λH Q q=>cO D G H m/\i<m.az/\c<m.a9/\g9 v/\z9 m.b5<=5000/\lI m/\NH m i c/\∀b a,Go D G m H b (m.h5 i c v) a->Q .bB a
def W:=dR 4 ["machine","task","channel","number","taker"] (λq=>2) bN
def G:=W.a
def m:=W.b
def i:=W.c
def c:=W.d
def v:=W.l
def t:=fj W (G,m,i,c,v) W.H W.Q W.E λaG I h=>by
 let#[M,ak,V,bk,m6,L,p1,q]:=h;show#[_,aU (dr 4 aG<|cP aQ<|bo<|bV<|aa 2)<|aU (ed (d9 su (aa 4) lL) (aU (qN (g5 I) (bV<|aa 2) (bV<|aa 1)<|cP aQ<|cH (aa 1)<|aa 3)<|aU (fY (aa 1) oS)<|aP<|Kt) eP)<|aU (cU<|cP aQ<|bo<|bV<|aa 4)<|aU (qN (g5 I) (bV<|aa 4) (bV<|aa 4)<|aa 3)<|aU (ed (d9 Gw (bV<|aa 4) lL) (aP<|cU<|iP cf cv fo jm (bV<|bV<|aa 4)<|bo<|ll<|cH (bV<|aa 4)<|bV<|aa 4) eP)<|aP<|cU<|c4 aQ (aa 0)<|bo<|bV<|aa 4,?_];let#[y,md]:=M.aH V;let#[kt,NI,A]:=M.g8 V;let big:5000000<sizeLine:=by decide
 show cm (T.t 3 Z) ?_;show#[9,8,md,aI,T.n 0 1,Z,dk (NG.t) I.bH #[(_,kt),Z,NI,λz=>?_,λdW v1 cW z=>?_]]
 .subst z;show#[9,Z,9,dw ?_];let N:(m.aH c).dn=[]:=by cases h:(m.aH c).dn with
   |nil=>rfl
   |cons a b=>cases h▸A
  unfold aA.h5 at q;rw[N]at q;dsimp only at q;show cm (T.c 1).2 ?_;show#[9,9,.rA T.adu #[W4.t] I.bH λx dx au hd ne=>#[(x,dx,_,_),Z,bj,Z,?_]];rw[io];let l:=W6 (C:=(D.c 1)) (bb:=[("task",.ref<|G.ad<|.ag i),("number",.int v)]) M au hd ne;let#[Ei,NJ]:=l.bQ.aH V;let#[e7,El,as]:=l.bQ.hC V;let#[cc,hB]:=l.bQ.ag ak;let Bx:ec e7 (d2 ((i+1:Nat):Int))=none:=by
   have:=aji (j:=i) as
   cases h:ec e7 (d2 ((i+1:Nat):Int))with
   |none=>rfl
   |some _=>rw[h]at this;let#[e,he,w]:=E1.mp this.symm;show a8 (by simpa using w)<|p1.g6 e he
  let X:Go D _ _ _ _ _ _:=WZ (c:=c) (av:=e7++[(d2 ((i+1:Nat):Int),.ref x)]) (ch:=aF m.aH c {m.aH c with ep:=(m.aH c).ep++[(i,v)]}) l.bQ V (λd=>by
   by_cases e:d=c
   .rw[e,bE]
   .rw[bC _ _ e]) (λd n=>by rw[bC _ _ n]) (by
   rw[bE];show as.D4 #[Z,#[x,dx,Z,bj],ak,bk])
  let r:=l.bw X;let#[jg,H4]:=r.bQ.ag ak;let gA:=r.bw<|xy (x:=jg) r.bQ ak J (m.ag i).ey _ Z;show#[9,8,NJ,aI,T.n 0 0,Z,9,8,hB,aI,T.n 3 0,Z,_,9,mm.k (k:=d2 ((i+1:Nat):Int)) El (by have:=as.eM;have:=p1.ls;lia),?_];rw[SK _ Bx];show#[9,7,_,9,H4,aI,T.n 3 3,fE,q _ _ gA]
 .subst z
  cases N:(m.aH c).dn with
  |nil=>cases N▸A
  |cons e re=>
   let#[j,f,s,st]:=e
   rw[N]at A
   cases A with
   |cB dd iw=>
    let#[ajo,ajp,amv]:=p1.a3 j f s st re N
    let#[F,wz]:=dd.lt
    let#[a,fV,m5,bf,S,B]:=dd.ob
    dsimp only at bf S B F wz
    subst bf
    unfold aA.h5 at q
    rw[N]at q
    dsimp only at q
    show#[9,Z,9,di ?_]
    show cm (T.t 7 Z) ?_
    show#[9,8,M.im _ _ S,aI,T.n 2 0,Z,dk (W2.t) I.bH #[(G,m,j),Z,M,F,ajo,λP H1 l=>?_]]
    let W8:=l.bQ.im _ _<|l.le.im _ _ S
    let vt:P.ad (.a0 f)=G.ad (.a0 f):=l.le.ad (.a0 f) wz (by intro i z;cases z)
    let NK:P.ad (.ag j)=G.ad (.ag j):=l.le.ad (.ag j) F (by intro i z;cases z)
    let am:P.ad .b0=G.ad .b0:=l.le.ad .b0 trivial (by intro i z;cases z)
    let#[av,iQ,pc,X]:=Nv (s:=s) (v:=v) l.bQ (f:=f) wz ajp bk L
    rw[vt]at iQ X
    show#[9,9,8,W8,aI,T.n 2 1,Z,9,8,W8,aI,T.n 2 2,Z,_,9,mm.k (k:=d2 ((s:Nat):Int)) iQ pc,?_]
    let r:=l.bw X
    let zm:=X.bQ.im _ _<|l.le.im _ _ S
    show#[9,8,zm,aI,T.n 2 3,Z,Z,9,?_]
    cases st with
    |none=>have B:m5=.bB:=B;subst B;show di ?_;let#[Ei,R]:=r.bQ.b0;rw[am]at R;show#[9,8,R,aI,T.Hm,Z,9,8,zm,aI,T.n 2 0,Z,1,7,#[Eh.t],I.bH,(P,_,j),by show _=E5 _ _;rw[am,NK],r.bQ,eR F r.le.az,m6,λab g=>q _ _<|r.bw g]
    |some xs=>
     let B:da D (λ_=>True) G.im m5 xs:=B;let#[ajq,rfl]:=B.ajn;show dw ?_;let#[oN,H4]:=r.bQ.ag (i:=j) F;rw[NK]at H4;let#[vs,oy,_]:=r.bQ.a6 (i:=j) F;show#[9,8,zm,aI,T.n 2 0,Z,8,H4,aI,T.n 3 2,Z,.inl #[Z,_,bM.of oy],9,8,zm,aI,T.n 2 3,Z,9,8,zm,aI,T.n 2 1,Z,by show 2<=sizeLine;decide,λp aC=>?_];let#[ac,iG,lA,gA]:=t6 (i:=j) (f:=f) (u:=.ref ajq) (j:=.cq xs) r.bQ F wz (da.dt (λa o _ z=>#[trivial,r.le.im a o z]) B) aC;rw[vt]at iG gA;let lv:z9 ac=(m.ag j).a6.length:=by rw[lA];show(fG.a6<|aF m.ag j _ j).length=_;rw[bE]
     show#[7,9,Z,iG,aV,?_];let K:=r.bw gA;let#[Ei,R]:=K.bQ.b0;let W9:∀im:aw,({P with im:=im}:eQ).ad .b0=G.ad .b0:=λ_=>am;let ajr:∀im:aw,({P with im:=im}:eQ).ad (.ag j)=G.ad (.ag j):=λ_=>NK;rw[W9]at R;let ajs:=K.bQ.im _ _<|K.le.im _ _ S;show#[9,8,R,aI,T.Hm,Z,9,8,ajs,aI,T.n 2 0,Z,1,7,#[Eh.t],I.bH,(_,_,j),by show _=E5 _ _;rw[W9,ajr],K.bQ,eR F K.le.az,m6,λab g=>q _ _<|K.bw g]
end W7
def H5(m:aA)(c:Nat):Prop:=∀j v r,(m.aH c).ep=(j,v)::r->∀e∈r,e.1≠j
namespace NL
def bN:Ho.eQ×Ho.aA×Nat×Nat×Nat->dC:=λ(G,m,c,f,s)=>dZ [.ref<|G.ad .b0,.ref<|G.ad<|.aH c,.ref<|G.ad<|.a0 f,.int (s:Nat)] λH Q q=>cO D G H m/\f<m.a5/\c<m.a9/\z9 m.b5<=5000/\lI m/\H5 m c/\(m.a0 f s).isSome=O/\
  (m.hJ c f s=U->Q (.cC J) H)/\∀b,m.hJ c f s=Y b->∀a,Go D G m H G b a->Q (.cC O) a
def W:=dR 5 ["machine","channel","frame","slot","sender"] (λq=>2) bN
def m:=W.b
def c:=W.c
def f:=W.d
def s:=W.l
def t:=fj W (W.a,m,c,f,s) W.H W.Q W.E λaG A h=>by
 let#[M,hf,B,P,L,p1,bb,V,i]:=h;show#[_,aU (dr 4 aG<|cP aQ<|bo<|bV<|aa 1)<|aU (ed (d9 su (aa 4) lL) (aP<|cS oS) eP)<|aU (cU<|Ln (bV<|aa 1) (bV<|bV<|aa 4) #[Z,Z,Z,Z])<|aU (qN (g5 A) (aa 2) (aa 3)<|bV<|aa 4)<|aU (cU<|c4 aQ (aa 0)<|bo<|bV<|aa 4)<|aP<|cS oS,?_];let#[y,F]:=M.aH B;let#[S,r,as]:=M.hC B;show cm (T.t 3 Z) ?_;show#[9,8,F,aI,T.n 0 0,Z,dk (NG.t) A.bH #[(_,S),Z,r,λz=>?_,λdW v1 cW z=>?_]]
 .subst z
  show#[9,Z,9,dw<|V ?_]
  unfold aA.hJ
  cases l:(m.aH c).ep with
  |nil=>rfl
  |cons a b=>cases l▸as
 .subst z
  unfold aA.hJ at i
  cases l:(m.aH c).ep with
  |nil=>cases l▸as
  |cons e K=>
   let#[j,v]:=e
   let u:=p1 j v K l
   rw[l]at as i
   dsimp only at i
   let i:=i _ Z
   cases as with
   |cB o C=>
    let N:j<m.az:=o.lt;let bk:g9 v:=o.lb;let#[a,fV,I,p]:=o.ob;let G:dW=_:=o.k;dsimp only at I p G;subst I G;show#[9,Z,9,di ?_];let#[x,bz]:=M.ag N;show#[9,8,F,aI,T.n 0 0,Z,9,.inl #[_,.inl r],9,8,M.im _ _ p,aI,T.n 1 0,Z,8,bz,aI,T.n 3 0,Z,_,d2 ((j+1:Nat):Int),_,r,Z,ml Z,?_];rw[Lx Z,ajk C u];let w:Go D _ _ _ _ _ _:=WZ (c:=c) (av:=cW) (ch:=aF m.aH c {m.aH c with ep:=K}) M B (λd=>by
     by_cases e:d=c
     .rw[e,bE]
     .rw[bC _ _ e]) (λd n=>by rw[bC _ _ n]) (by rwa[bE])
    let#[av,R,pc,X]:=Nv (s:=s) (v:=v) w.bQ (f:=f) hf bb bk L;show#[9,8,w.bQ.im _ _ p,aI,T.n 1 1,Z,9,9,_,9,mm.k (k:=d2 ((s:Nat):Int)) R pc,?_];let q:=w.bw X;let#[Ei,pU]:=q.bQ.b0;show#[9,8,pU,aI,T.Hm,Z,9,8,q.bQ.im _ _ p,aI,T.n 1 0,Z,1,7,#[Eh.t],A.bH,(W.a,_,j),Z,q.bQ,N,P,λab g=>i _<|q.bw g]
end NL
namespace NM
def bN:eQ×aA×Nat×Nat×Nat×Nat×V×Option cJ->dC:=λ(G,m,i,c,f,s,a,st)=>dZ [.ref<|G.ad<|.ag i,.ref<|G.ad<|.aH c,.ref<|G.ad<|.a0 f,.int (s:Nat),a] λH Q q=>cO D G H m/\i<m.az/\f<m.a5/\c<m.a9/\WD D G.im a st/\(m.aH c).dn.length<=1000000/\(m.ag i).bI.length<=1000000/\
  ∀d b,Go D G m H d (m.jc i c f s st) b->Q .bB b
def W:=dR 6 ["task","channel","frame","slot","statement"] (λq=>2) bN
def G:=W.a
def m:=W.b
def i:=W.c
def c:=W.d
def f:=W.e
def s:=W.f
def st:=W.o
def t:=fj W (G,m,i,c,f,s,W.g,st) W.H W.Q W.E λaG A h=>by
 let#[M,ak,hf,b,ai,ft,pc,q]:=h;generalize st=st at *;show#[_,aU (fY (aa 0) oS)<|aP<|ed (wA<|Lk (g5 A) (bV<|aa 0)<|bV<|aa 1) (aU (qN (g5 A) (bV<|aa 1) (bV<|aa 0)<|cP aQ<|fX (aa 0)<|fX (aa 2)<|cH (aa 3)<|aa 4)<|aP<|cU<|iP cf cv fo jm (bV<|aa 0)<|bo<|aa 1) eP,?_];let#[x,S]:=M.ag ak;let big:5000000<sizeLine:=by decide
 show#[9,7,_,9,S,aI,T.n 3 3,fE,?_];let p:=xy (x:=x) M ak J (m.ag i).ey _ Z;let#[gr,By]:=p.bQ.ag ak;let#[y,R]:=p.bQ.aH b;let#[kt,P,v]:=p.bQ.g8 b;unfold aA.jc at q;dsimp only at q;let dd:=NF (j:=i) v;show#[9,8,By,aI,T.n 3 0,Z,9,8,R,aI,T.n 0 1,Z,_,9,g4.k (k:=d2 ((i+1:Nat):Int)) P,?_];rw[dd];by_cases z:((m.fK i).aH c).dn.any (λt=>t.1==i)=O
 .rw[aR z]at q;let w:(m.aH c).dn.any (λt=>t.1==i)=true:=z;show#[9,?_];rw[show(((aA.dU m i {m.ag i with cp:=J,ey:=(m.ag i).ey}).aH c).dn.any λt=>t.1==i)=O from w];show di<|q _ _ p
 .rw[aM z]at q;let w:(m.aH c).dn.any (λt=>t.1==i)=false:=B5.mpr z;show#[9,?_];rw[show(((aA.dU m i {m.ag i with cp:=J,ey:=(m.ag i).ey}).aH c).dn.any λt=>t.1==i)=J from w];show dw ?_;show cm (T.c 2).2 ?_;show#[9,9,9,9,.rA T.adv #[W5.t] A.bH λa N au F ne=>#[(a,N,_,_,_,_),Z,bj,Z,?_]];rw[io];let l:=W6 (C:=(D.c 2)) (bb:=[("task",.ref<|G.ad<|.ag i),("frame",.ref<|G.ad<|.a0 f),("slot",.int (s:Nat)),("statement",W.g)]) p.bQ au F ne;let#[fA,hB]:=l.bQ.ag ak;let#[Ei,NJ]:=l.bQ.aH b;let#[r,X,B]:=l.bQ.g8 b;let Bx:ec r (d2 ((i+1:Nat):Int))=none:=by
   let K:=NF (j:=i) B
   cases h:ec r (d2 ((i+1:Nat):Int))with
   |none=>rfl
   |some _=>rw[h]at K;show a8 (K.symm.trans Z) z
  let g3:Go D _ _ _ _ _ _:=WY (c:=c) (av:=r++[(d2 ((i+1:Nat):Int),.ref a)]) (ch:=aF m.aH c {m.aH c with dn:=(m.aH c).dn++[(i,f,s,st)]}) l.bQ b (λd=>by
   by_cases e:d=c
   .rw[e,bE];rfl
   .rw[bC _ _ e];rfl) (λd n=>by rw[bC _ _ n];rfl) (by
   rw[bE]
   show dE.D4 B #[Z,#[a,N,W.g,Z,bj,?_],ak,hf]
   cases st with
   |none=>show ai
   |some xs=>show da.dt (λa o _ z=>#[trivial,l.le.im a o z]) ai)
  let u:=p.bw<|l.bw g3;let#[n6,V]:=u.bQ.ag ak;let#[L,k7]:=u.bQ.bI ak;show#[9,8,NJ,aI,T.n 0 1,Z,9,8,hB,aI,T.n 3 0,Z,_,9,mm.k (k:=d2 ((i+1:Nat):Int)) X (by have:=B.eM;have:z9 r=(m.aH c).dn.length:=this;lia),?_];rw[SK _ Bx];show#[9,8,V,aI,T.n 3 5,Z,.inl #[Z,_,bM.of L],9,7,9,Z,L,?_,?_]
  .rw[hR];show(fG.bI<|aF m.ag i _ i).length<_;rw[bE];show(m.ag i).bI.length<_;lia
  .let ts:((m.fK i).ag i).bI=(m.ag i).bI:=by show fG.bI (aF m.ag i _ i)=_;rw[bE]
   let I:Go D _ ((m.fK i).n3 c {(m.fK i).aH c with dn:=((m.fK i).aH c).dn++[(i,f,s,st)]}) _ _ _ _:=Go.lR (aO:=((m.fK i).n3 c {(m.fK i).aH c with dn:=((m.fK i).aH c).dn++[(i,f,s,st)]}).dU i {(m.fK i).ag i with bI:=((m.fK i).ag i).bI++[c]}) u.bQ (.bI i) ak #[Z,Z,Z,bK _] (o:=.bq<|(((m.fK i).ag i).bI++[c]).map λc=>.ref<|G.ad<|.aH c) (Eg λbt n=>#[λ_=>#[Z,Z,Z],λ_=>rfl,λe=>a8 e n]) (by show mB D _ _ _ (hZ.bI (aF (m.fK i).ag i _ i).bI) _;rw[bE];show#[Z,λd F=>(iV.mp F).elim (λz=>k7 d z) λz=>by rwa[gX.mp z]])
   rw[r5]at I;show q _ _<|u.bw I
end NM
def m7(D:ej)(G:eQ)(m:aA)(H:aw)(Q:ck)(E:dG):Except Int aA->Prop
 |.error e=>gd E e
 |.ok c=>∀b a,Go D G m H b c a->Q .bB a
structure vu(m:aA)(i f:Nat):Prop where
 ak:i<m.az
 hf:f<m.a5
 L:lI m
 b5:z9 m.b5<=5000
 cg:z9 m.cg<=1048576
 ip:(m.ag i).a6.length<=5000
def qU(m:aA)(f:Nat)(x:ba):Prop:=eJ x<=201/\pe (m.cA f) x
def NN(m:aA)(i f c y:Nat):Prop:=(m.a0 f y).isSome=O/\∃k,m.a0 f c=Y (.aH k)/\H5 m k/\(m.aH k).dn.length<=5000
def xA(m:aA)(i f:Nat):cJ->Prop
 |.r7 s e=>(m.a0 f s).isSome=O/\qU m f e
 |.h5 c e=>qU m f e/\∃k,m.a0 f c=Y (.aH k)/\NH m i k
 |.du c y=>NN m i f c y/\(m.ag i).bI.length<=5000
 |.l4 e=>qU m f e
 |.hH g as=>∀a∈as,qU m f a/\∀s,a=.jS s->∃k,m.a0 f s=Y (.aH k)
 |.l5 c _ _=>qU m f c
 |.h6 c _=>qU m f c
 |.k5 l=>(m.ag i).bI.length<=5000/\∀b∈l,qU m f b.1/\∀c y,b.2.1=.du (Y c) (Y y)->NN m i f c y
 |_=>True
inductive p2(D:ej)(ps:List kI)(x:cJ)(ac:List V)(H:aw)(Q:ck)(E:dG):Prop
 |mk (G:eQ) (m:aA) (i:Nat) (f:Nat) (v:V) (_:ac=[v,.ref<|G.ad .b0,.ref<|G.ad<|.ag i,.ref<|G.ad<|.a0 f]) (_:cO D G H m) (_:da D hD G.im v x) (_:vu m i f) (_:xA m i f x) (_:m7 D G m H Q E (aA.l6 ps m i f x)):p2 D ps x ac H Q E
set_option tactic.hygienic true in
def cO.t9(M:cO D G H m)(c:f<m.a5):Bu H (G.ad<|.a0 f) (m.cA f):=by
 let#[av,e,b]:=M.a0 c;let a:∀s n,m.cA f s=Y n->m.a0 f s=Y (.cA n):=λs n h=>by
  unfold aA.cA at h;split at h
  .rename_i v e;cases h;show e
  .cases h
 show#[#[av,e,λs n h=>by rw[b.nG s,a s n h];rfl],λs n h=>b.lb s n<|a s n h]
def aju(M:cO D G H m)(a:f<m.a5)(ok:qU m f x)(h:m7 D G m H Q E ((m.ev f x).bind k))(q:∀v,g9 v->m7 D G m H Q E (k v)->xB (.int v) H):nM xB E H (ew (m.cA f) x):=by
 unfold aA.ev at h
 cases e:ew (m.cA f) x with
 |error b=>rwa[e]at h
 |ok v=>rw[e]at h;show q v (zk (M.t9 a).lb ok.1 e) h
def H6(M:cO D G H m)(a:f<m.a5)(ok:qU m f x)(h:m7 D G m H Q E ((m.ev f x).map k))(q:∀v,g9 v->m7 D G m H Q E (.ok<|k v)->xB (.int v) H):nM xB E H (ew (m.cA f) x):=by
 unfold aA.ev at h
 cases e:ew (m.cA f) x with
 |error b=>rwa[e]at h
 |ok v=>rw[e]at h;show q v (zk (M.t9 a).lb ok.1 e) h
def cO.lG(M:cO D G H m)(b:f<m.a5)(h:m.a0 f c=Y (.aH k)):∃av,H (G.ad<|.a0 f)=Y (.cY av)/\ec av (d2 ((c:Nat):Int))=Y (.ref<|G.ad<|.aH k)/\k<m.a9/\m.hU f c=k:=by let#[av,e,a]:=M.a0 b;show#[av,e,by rw[a.nG c,h];rfl,a.lt _ _ h,by unfold aA.hU;rw[h]]
def dh.up(M:cO D G H m)(h:dh D hD G.im v x):dh D hD H v x:=dh.dt (λa o q z=>#[trivial,M.im a o z]) h
def ajv:bX 1 93 (p2 D ps .d3):=by show ek 93 ["self","machine","task","frame"] λd A bc a H ac Q E b e h=>?_;let#[G,m,i,f,v,rfl,M,c,B,g,q]:=h;show#[_,aP<|Kr,q _ _<|Go.hW M]
def ajw:bX 1 94 (p2 D ps .oH):=by show ek 94 ["self","machine","task","frame"] λe A bc b H ac Q E c g h=>?_;let#[G,m,i,f,v,rfl,M,d,B,j,q]:=h;show#[_,aP<|fY (aa 2) oS,?_];let#[x,a]:=M.ag B.ak;show#[9,7,_,9,a,aI,T.n 3 3,fE,q _ _<|xy (x:=x) M B.ak J (m.ag i).ey _ Z]
def ajx:bX 4 95 (p2 D ps .qe):=by show ek 95 ["self","machine","task","frame"] λe A bc b H ac Q E c a h=>?_;let#[G,m,i,f,v,rfl,M,d,B,g,q]:=h;show#[_,aP<|i4 Z,xd.iB a q]
def ajy:bX 206 97 (p2 D ps<|.r7 s x):=by
 show ek 97 ["self","machine","task","frame"] λp A bc o H ac Q E r c h=>?_
 let#[G,m,i,f,v,rfl,M,e,B,b,q]:=h
 show#[_,aP<|qN (g5 c) (aa 3) (bV<|aa 0)<|c4 aQ (bV<|aa 0)<|bo<|aa 3,?_]
 cases e with
 |r7 _ a d=>have a:=M.im _ _ a;show#[9,8,a,aI,T.n 22 1,Z,j9 (xx b.2.1) (dh.up M d) c Z (M.t9 B.hf) b.2.2<|H6 M B.hf b.2 q λv l q=>?_];let#[av,hf,j,g]:=Nv M B.hf b.1 l B.L;show#[9,9,8,a,aI,T.n 22 0,Z,_,9,mm.k (k:=d2 ((s:Nat):Int)) hf j,q _ _ g]
def ajz:bX 206 99 (p2 D ps<|.h5 s x):=by
 show ek 99 ["self","machine","task","frame"] λw A bc u H ac Q E y b h=>?_
 let#[G,m,i,f,v,rfl,M,o,B,j,q]:=h
 show#[_,aP<|cU<|cP aQ<|fX (aa 1)<|fX (aa 2)<|cH (sK (g5 b) (aa 3)<|bV<|aa 0)<|c4 aQ (bV<|aa 0)<|bo<|aa 3,?_]
 cases o with
 |h5 _ a d=>have a:=M.im _ _ a;let#[ok,c,p,l]:=j;let#[av,hf,e,cl,g]:=M.lG B.hf p;show cm (T.t 4 Z) ?_;show#[9,9,9,9,8,a,aI,T.n 23 0,Z,_,9,by have:=g4.k (k:=d2 ((s:Nat):Int)) hf;rwa[e]at this,9,8,a,aI,T.n 23 1,Z,j9 (xx ok.1) (dh.up M d) b Z (M.t9 B.hf) ok.2<|H6 M B.hf ok q λv r q=>?_];rw[g]at q;show dk (W7.t) b.bH #[(G,m,i,c,v),Z,M,B.ak,cl,r,B.b5,B.L,l,q]
def ajA:bX 4 101 (p2 D ps<|.du c y):=by
 show ek 101 ["self","machine","task","frame","channel"] λx A bc w H ac Q E p b h=>?_
 let#[G,m,i,f,v,rfl,M,r,B,l,q]:=h
 show#[_,aU (dr 4 p<|sK (g5 b) (aa 3)<|bV<|aa 0)<|aP<|ed (qq<|iz<|cP aQ<|fX (aa 1)<|fX (aa 4)<|cH (aa 3)<|bV<|aa 0) (aP<|cU<|cP aQ<|fX (aa 2)<|fX (aa 4)<|fX (aa 3)<|cH (bV<|aa 0) lL) eP,?_]
 cases r with
 |du _ a=>
  let a:=M.im _ _ a;let#[#[s,d,u,o,ft],a3]:=l;let#[av,hf,e,cl,j]:=M.lG B.hf u;unfold aA.l6 at q;dsimp only at q;rw[j]at q;show#[9,9,8,a,aI,T.n 24 0,Z,_,9,by have:=g4.k (k:=d2 ((c:Nat):Int)) hf;rwa[e]at this,?_];show cm (T.t 5 Z) ?_;show#[9,9,9,9,8,a,aI,T.n 24 1,Z,dk (NL.t) b.bH #[(G,m,d,f,y),Z,M,B.hf,cl,B.b5,B.L,o,s,λz=>?_,λF z C g=>?_]]
  .rw[z]at q;show#[9,dw ?_];show cm (T.t 6 Z) ?_;show#[9,9,9,9,8,a,aI,T.n 24 1,Z,dk (NM.t) b.bH #[(G,m,i,d,f,y,.bB,U),Z,M,B.ak,B.hf,cl,Z,aV,aV,q]]
  .rw[z]at q;show#[9,di<|q _ _ g]
def ajB:bX 206 103 (p2 D ps<|.l4 x):=by
 show ek 103 ["self","machine","task","frame"] λl A bc k H ac Q E p c h=>?_
 let#[G,m,i,f,v,rfl,M,e,B,b,q]:=h
 show#[_,aP<|cU<|c4 aQ (aa 1)<|bo<|c4 aQ (bV<|aa 0)<|bo<|aa 3,?_]
 cases e with
 |l4 _ a d=>
  let a:=M.im _ _ a;let#[y,hm]:=M.b0;show#[9,8,hm,aI,T.adB,Z,9,8,a,aI,T.n 25 0,Z,j9 (xx b.1) (dh.up M d) c Z (M.t9 B.hf) b.2<|aju M B.hf b q λv j q=>?_];show#[4,7,#[WX.t],c.bH,(G,m,v),Z,M,j,B.cg,λz=>?_,λz o g=>?_]
  .rw[aR z]at q;show q
  .rw[aM z]at q;show q _ _ g
def ajC:bX 206 108 (p2 D ps<|.l5 c a b):=by
 show ek 108 ["self","machine","task","frame"] λF A bc C H ac Q E K w h=>?_
 let#[G,m,i,f,v,rfl,M,t,B,k,q]:=h
 show#[_,aP<|ed (d9 pM (c4 aQ (bV<|aa 0)<|bo<|aa 3) cE) (aP<|cU<|iP cf cv fo jm (bV<|aa 2)<|bo<|ll<|cH (bV<|aa 0)<|aa 3)<|aP<|cU<|iP cf cv fo jm (bV<|aa 2)<|bo<|ll<|cH (bV<|aa 0)<|aa 3,?_]
 cases t with
 |l5 _ d r s u=>
  let d:=M.im _ _ d
  let#[x,o]:=M.ag B.ak
  let#[I,l,W]:=M.a6 B.ak
  let big:5000000<sizeLine:=by decide
  let ip:=B.ip
  show#[9,8,d,aI,T.n 27 0,Z,j9 (xx k.1) (dh.up M r) w Z (M.t9 B.hf) k.2<|H6 M B.hf k q λv L q=>?_]
  show#[Z,9,iR (λz=>?_) λz=>?_]
  rotate_left
  .let z:v=0:=by simpa using z
   rw[aM<|by simpa using z]at q;show#[9,8,o,aI,T.n 3 2,Z,.inl #[Z,_,bM.of l],9,8,d,aI,T.n 27 2,Z,9,by show 2<=sizeLine;decide,λp aC=>?_];let#[ac,e,y,g]:=t6 (i:=i) (f:=f) (j:=.cq b) M B.ak B.hf u aC;show#[7,9,Z,e,aV,q _ _ g]
  .let z:v≠0:=by simpa using z
   rw[aR z]at q;show#[9,8,o,aI,T.n 3 2,Z,.inl #[Z,_,bM.of l],9,8,d,aI,T.n 27 1,Z,9,by show 2<=sizeLine;decide,λp aC=>?_];let#[ac,e,y,g]:=t6 (i:=i) (f:=f) (j:=.cq a) M B.ak B.hf s aC;show#[7,9,Z,e,aV,q _ _ g]
namespace Xa
def bN:List kI×ba×cJ×eQ×aA×Nat×Nat×V->dC:=λ(ps,c,a,G,m,i,f,v)=>dZ [v,.ref<|G.ad .b0,.ref<|G.ad<|.ag i,.ref<|G.ad<|.a0 f] λH Q E=>cO D G H m/\da D hD G.im v (.h6 c a)/\vu m i f/\xA m i f (.h6 c a)/\m7 D G m H Q E (aA.l6 ps m i f<|.h6 c a)
def W:=dR 110 ["self","machine","task","frame"] (λq=>205) bN
def a:=W.c
def i:=W.f
def f:=W.g
def v:=W.o
set_option tactic.hygienic true in
def t:=ee W (W.a,W.b,a,W.d,W.e,i,f,v) W.H W.Q W.E λaG L h=>by
 let#[M,s,B,k,q]:=h
 generalize v=v at*
 show#[_,aP<|ed (d9 pM (c4 aQ (bV<|aa 0)<|bo<|aa 3) cE) (aU (cU<|iP cf cv fo jm (bV<|aa 2)<|bo<|ll<|cH (aa 0)<|aa 3)<|aP<|cU<|iP cf cv fo jm (bV<|aa 2)<|bo<|ll<|cH (bV<|aa 0)<|aa 3) eP,?_]
 let l:=s
 cases s with
 |h6 _ r u K=>
  let y:=M.im _ _ r;let#[x,D]:=M.ag B.ak;let#[V,w,_]:=M.a6 B.ak;let big:5000000<sizeLine:=by decide
  let ip:=B.ip;show#[9,8,y,aI,T.n 28 0,Z,j9 (xx k.1) (dh.up M u) L Z (M.t9 B.hf) k.2<|H6 M B.hf k q λv bk q=>?_];show#[Z,9,iR (λz=>?_) λz=>?_]
  .let z:v≠0:=by simpa using z
   rw[aR z]at q;show#[9,8,D,aI,T.n 3 2,Z,.inl #[Z,_,bM.of w],9,9,by show 2<=sizeLine;decide,λp aC=>?_];let#[ac,F,lA,g]:=t6 (i:=i) (f:=f) (j:=.cq<|.h6 W.b a) M B.ak B.hf l aC;show#[7,9,Z,F,aV,?_];let#[R,N]:=g.bQ.ag (i:=i) B.ak;let#[G,c,_]:=g.bQ.a6 (i:=i) B.ak;show#[9,8,N,aI,T.n 3 2,Z,.inl #[Z,_,bM.of c],9,8,g.bQ.im _ _<|g.le.im _ _ r,aI,T.n 28 1,Z,9,by show 2<=sizeLine;decide,λS I=>?_];let#[X,m,C,A]:=t6 (i:=i) (f:=f) (j:=.cq a) g.bQ B.ak B.hf (da.dt (λa o _ z=>#[trivial,g.le.im a o z]) K) I;let P:((W.e.eh i (.cq<|.h6 W.b a,f)).ag i).a6.length=(W.e.ag i).a6.length+1:=by show(fG.a6<|aF W.e.ag i _ i).length=_;rw[bE];rfl
   show#[7,9,Z,m,aV,q _ _<|g.bw A]
  .let z:v=0:=by simpa using z
   rw[aM<|by simpa using z]at q;show q _ _<|Go.hW M
end Xa
def ajG:bX 206 110 (p2 D ps<|.h6 c a):=Xa.t.i5 λ_ _ _ _ #[k,m,g,i,j,e,l,d,h,f,b]=>#[(ps,c,a,k,m,g,i,j),Z,e,l,d,h,f,b]
def ajH:bX 1 112 (p2 D ps<|.oI l):=by
 show ek 112 ["self","machine","task","frame"] λo A bc k H ac Q E t u h=>?_
 let#[G,m,i,f,v,rfl,M,e,B,s,q]:=h
 show#[_,aP<|cU<|iP cf cv fo jm (bV<|aa 2)<|bo<|ll<|cH (bV<|aa 0)<|aa 3,?_]
 cases e with
 |oI _ a mx=>
  let a:=M.im _ _ a;let#[x,c]:=M.ag B.ak;let#[r,b,z]:=M.a6 B.ak;let big:5000000<sizeLine:=by decide
  let ip:=B.ip;show#[9,8,c,aI,T.n 3 2,Z,.inl #[Z,_,bM.of b],9,8,a,aI,T.n 29 0,Z,9,by show 2<=sizeLine;decide,λp aC=>?_];let#[ac,d,w,g]:=t6 (i:=i) (f:=f) (j:=.fw l) M B.ak B.hf mx aC;show#[7,9,Z,d,aV,q _ _ g]
def ajI(ak:i<m.az):(gh m (Y i) f l).dU i {(gh m (Y i) f l).ag i with ey:=z9 l,cp:=J}={m with az:=m.az+z9 l,b5:=m.b5++(gK (z9 l)).map (λk=>m.az+k),ag:=aF (aA.uF m.ag m.az i f l) i {m.ag i with ey:=z9 l,cp:=J}}:=by let e:(gh m (Y i) f l).ag i=m.ag i:=aR ak;rw[e];rfl
namespace Xb
def bN:List kI×List cJ×eQ×aA×Nat×Nat×V->dC:=λ(ps,l,G,m,i,f,v)=>dZ [v,.ref<|G.ad .b0,.ref<|G.ad<|.ag i,.ref<|G.ad<|.a0 f] λH Q E=>cO D G H m/\da D hD G.im v (.gl l)/\vu m i f/\xA m i f (.gl l)/\m7 D G m H Q E (aA.l6 ps m i f<|.gl l)
def W:=dR 114 ["self","machine","task","frame"] (λq=>4) bN
def l:=W.b
def m:=W.d
def i:=W.e
def f:=W.f
def t:=ee W (W.a,l,W.c,m,i,f,W.n) W.H W.Q W.E λaG X h=>by
 let#[M,S,B,pr,q]:=h
 generalize W.n=W.n at*
 generalize l=l at*
 show#[_,aP<|ed (iz<|bV<|aa 0) (aU (cU<|c4 aQ (aa 1)<|fX (aa 2)<|cH (bV<|aa 0)<|aa 3)<|aU (fY (aa 2)<|j5 mY Z lr mD<|bo<|bV<|aa 0)<|aP<|fY (aa 2) oS) eP,?_]
 cases S with
 |@gl a d zn lv _ d6 D cc s u=>
  let C:=M.im _ _ D
  let G:=M.im _ _ s
  let#[y,hm]:=M.b0
  let A:=u.eM
  unfold aA.l6 at q
  dsimp only at q
  show#[9,8,C,aI,T.n 30 0,Z,_,.inl #[_,bM.of G,Z],?_]
  cases lv with
  |nil=>cases u;show di<|q _ _<|Go.hW M
  |cons v0 N=>
   let v:l≠[]:=λz=>by rw[z]at A;cases A
   rw[aM v]at q;let nl:∀r,dS m.b1 r->W.c.ad r≠zn:=λr En z=>by have:=M.fr r En;rw[z,s]at this;cases this
   show dw #[9,8,hm,aI,T.Uf,Z,9,9,8,C,aI,T.n 30 0,Z,9,4,7,#[NA.t],X,(W.c,m,Y i,zn,_,l,f),Z,M,B.hf,λp e=>by cases e;show B.ak,G,nl,u,B.b5,λz=>?_,λz K H1 g=>?_]
   .rw[aR z]at q;show q
   .rw[aM z]at q;let k:i<(gh m (Y i) f l).az:=eR B.ak g.le.az;let#[x,F]:=g.bQ.ag k;let o:K.ad (.ag i)=W.c.ad (.ag i):=g.le.ad (.ag i) B.ak (by intro i z;cases z);let V:=g.bQ.im _ _<|g.le.im _ _ D;let fQ:=g.bQ.im _ _<|g.le.im _ _ s;rw[o]at F;show#[9,8,V,aI,T.n 30 0,Z,_,9,.inl<|bM.of fQ,9,7,_,9,F,aI,T.n 3 4,fE,?_];let b:=xy (x:=x) g.bQ k ((gh m (Y i) f l).ag i).cp (z9 l) (((v0::N).length:Nat):Int) (by rw[A]);rw[o]at b;let#[R,I]:=b.bQ.ag (i:=i) k;rw[o]at I;let L:=xy (x:=R) b.bQ (i:=i) k J (z9 l) _ Z;rw[o]at L;show#[9,7,_,9,I,aI,T.n 3 3,fE,?_];let w:=g.bw<|b.bw L;rw[<-ajI B.ak]at q;show q K _ ?_;let kM:((gh m (Y i) f l).dU i {(gh m (Y i) f l).ag i with cp:=((gh m (Y i) f l).ag i).cp,ey:=z9 l}).dU i {((gh m (Y i) f l).dU i {(gh m (Y i) f l).ag i with cp:=((gh m (Y i) f l).ag i).cp,ey:=z9 l}).ag i with cp:=J,ey:=z9 l}=(gh m (Y i) f l).dU i {(gh m (Y i) f l).ag i with ey:=z9 l,cp:=J}:=by unfold aA.dU;dsimp only;rw[bE];congr 1;funext j;unfold aF;split<;>rfl
    rw[kM]at w;let P:((gh m (Y i) f l).dU i {(gh m (Y i) f l).ag i with cp:=((gh m (Y i) f l).ag i).cp,ey:=z9 l}).ag i={(gh m (Y i) f l).ag i with cp:=((gh m (Y i) f l).ag i).cp,ey:=z9 l}:=bE ..;rw[P]at w ⊢;show w
end Xb
def ajK:bX 5 114 (p2 D ps<|.gl l):=Xb.t.i5 λ_ _ _ _ #[i,k,d,g,h,e,j,b,f,c,a]=>#[(ps,l,i,k,d,g,h),Z,e,j,b,f,c,a]
def NP:Mg K D:=pG.aft
def Eo:ba->Bool
 |.jS _=>O
 |_=>J
def dh.va(I:Mg K D)(h:dh D hD H v x):∃a C d bb,v=.ref a/\H a=Y (.b7 C d bb)/\u9 K C (D.c 9) (Eo x):=by
 cases h with
 |cA _ e=>show#[7,_,9,e,I.cA]
 |gx _ e=>show#[7,_,9,e,I.gx]
 |jS _ e=>show#[7,_,9,e,I.aH]
 |n0 _ e=>show#[7,_,9,e,I.afq]
 |mJ _ e=>show#[7,_,9,e,I.mJ]
 |n1 _ e=>show#[7,_,9,e,I.afr]
 |k4 _ e=>show#[7,_,9,e,I.afs]
def NQ(G:eQ)(m:aA)(f:Nat)(H:aw)(Q:ck)(E:dG):ba->Prop
 |.jS s=>∃k,m.a0 f s=Y (.aH k)/\Q (.ref<|G.ad<|.aH k) H
 |_=>gd E<|-11
def NQ.no(h:NQ G m f H Q E x)(n:Eo x=J):gd E (-11):=by cases x<;>first|show h|cases n
def Xc(ad:jr->ao)(n:Nat)(p:ao):jr->ao
 |.a0 c=>if c=n then p else ad (.a0 c)
 |r=>ad r
def Xd(M:cO D G H m)(aC:H p=U):Go D G m H {G with ad:=Xc G.ad m.a5 p} {m with a5:=m.a5+1,a0:=aF m.a0 m.a5 λw=>U} (aE H p<|.cY []):=by
 let' d:eQ:={G with ad:=Xc G.ad m.a5 p}
 let' g:aA:={m with a5:=m.a5+1,a0:=aF m.a0 m.a5 λw=>U}
 let i:d.ad (.a0 m.a5)=p:=aR Z;let ad:∀r,dS m.b1 r->d.ad r=G.ad r:=λr l=>by
  cases r with
  |a0 c=>show aM<|eg l
  |_=>rfl
 let le:js G d m.b1 g.b1:=#[λw w z=>z,Z,ad,bK _,bK _,iT _,bK _];let h:∀r,dS g.b1 r->¬dS m.b1 r->r=.a0 m.a5:=λr l e=>by
  cases r with
  |a0 c=>have l:c<m.a5+1:=l;have e:¬c<m.a5:=e;show congrArg jr.a0 (show c=m.a5 by lia)
  |_=>show a8 l e
 let f:∀b o,H b=Y o->aE H p (.cY []) b=Y o:=λb o z=>by rwa[aK<|cx z aC]
 let#[o,k,j]:=M.ob .b0 trivial;show Go.HV (b4:=d) (aO:=g) M le (λa o z=>#[f a o<|M.im a o z,.inl z]) (λb o z w=>f b o z) #[o,f _ _ k,j] (λr n l=>?_) λr l e=>?_
 .cases r with
  |a0 c=>have:c<m.a5:=l;show hZ.a0 (aF m.a0 m.a5 _ c)=_;rw[bC _ _ aV];rfl
  |_=>rfl
 .obtain rfl:=h r l e;show#[#[_,by rw[i];show bj,?_],by rw[i];show aC,λt u q w=>(h t u q).symm];show mB D d _ (.a0 m.a5) (hZ.a0<|aF m.a0 m.a5 _ m.a5) _;rw[bE];show#[[],Z,λs=>rfl,λs c z=>(by cases z),λs v z=>(by cases z),hQ _]
def ajL{xs ys:List V}{g:mU}{dv:hu}{vc:nt}{σ:L2.St}{H:aw}(Pv:Nat->L2.St->aw->Prop)(s:Pv 0 σ H)(v:∀i σ H,Pv i σ H->bM K H a xs/\bM K H b ys)
  (ai:∀i x y σ H T C,xs[i]?=Y x->ys[i]?=Y y->Pv i σ H->H T=U->H C=U->T≠C->g (.ref C) σ (aE (aE H T<|.cu [x,y]) C<|.cu [.int (i:Nat),.ref T]) λh j=>dv {vc with cM:=Pv<|i+1,fI:=Pv<|i+1,kn:=vc.cM} h j)
  (n:∀i σ H,i<=z9 xs->i<=z9 ys->(z9 xs<=i\/z9 ys<=i)->Pv i σ H->vc.cM σ H):
  ∃W:Nat->Nat->L2.St->aw->Prop,(∃m,W 0 m σ H)/\∀i m σ H,W i m σ H->
   ((DB K a b).stop i H/\vc.cM σ H)\/((DB K a b).go i H/\∃N:L2.St->aw->Prop,(∀f c,N f c->∃aO,aO<m/\W (i+1) aO f c)/\∀x c,(DB K a b).tr i H x c->g x σ c λh j=>dv {vc with cM:=N,fI:=N,kn:=vc.cM} h j):=by
 show#[λi m σ H=>m=z9 xs-i/\i<=z9 xs/\i<=z9 ys/\Pv i σ H,#[z9 xs,bg,hQ _,hQ _,s],?_]
 rintro i m σ H ⟨rfl,ak,z,p⟩
 let#[e,d]:=v i σ H p
 by_cases r:i<z9 xs/\i<z9 ys
 .let#[l,k]:=r;show .inr #[#[xs,ys,xs[i],ys[i],e,d,by simp[l],by simp[k]],Pv<|i+1,λf c o=>#[z9 xs-(i+1),aV,Z,l,k,o],λx c y=>?_];let#[T,C,x,y,rfl,u,A,w,rfl,t,q]:=y;show ai i x y σ H T C (t xs e) (q ys d) p u A w
 .show .inl #[#[xs,ys,e,d,aV],n i σ H ak z aV p]
namespace Xe
def bN:eQ×aA×Nat×V×ba->dC:=λ(G,m,f,v,x)=>dZ [v,.ref<|G.ad<|.a0 f] λH Q E=>cO D G H m/\f<m.a5/\dh D hD H v x/\NQ G m f H Q E x
def W:=dR 106 ["argument","frame"] (λq=>3) bN
def t:=fj W (W.a,W.b,W.c,W.d,W.l) W.H W.Q W.E λs i h=>by
 let#[M,m,g,q]:=h
 generalize W.d=W.d at*
 generalize W.l=W.l at*
 show#[_,aU (ed (qq<|iz<|j5 agm Z (T.lJ _ bg) agn<|cH (aa 0) ea) (aP<|i4 Z) eP)<|aP<|cS<|sK (g5 i) (aa 1)<|bV<|aa 0,?_]
 let#[a,C,d,bb,rfl,o,wk]:=g.va NP
 show#[9,UT (T.c 9).2.aL #[7,_,9,.b7 o wk.cl wk.ax NP.aJ NP.n7 wk.hm,wk.wk,?_]]
 cases f:Eo W.l with
 |false=>show#[9,dw<|xd.iB i<|q.no f]
 |true=>
  cases g with
  |@jS _ _ j _ e=>let#[c,f,q]:=q;let#[av,p,r,cl,u]:=M.lG m f;show#[9,di #[9,9,8,e,aI,T.n 9 0,Z,_,9,by have:=g4.k (k:=d2 ((j:Nat):Int)) p;rwa[r]at this,q]]
  |_=>cases f
end Xe
def rM(D:ej)(G:eQ)(ps:List kI):Prop:=∃av,G.im G.ef=Y (.cY av)/\dE (qQ D hD G.im) av ps
theorem rM.cI{G b4:eQ}{N b:t4}{ps:List kI}(h:rM D G ps)(l:sU G b4 N b):rM D b4 ps:=by let#[av,e,a]:=h;show#[av,by rw[l.ef];show l.im _ _ e,a.hK λw w w z=>z.cI λa o w q=>#[trivial,l.im a o q]]
inductive nN(D:ej)(ps:List kI)(x:cJ)(ac:List V)(H:aw)(Q:ck)(E:dG):Prop
 |mk (G:eQ) (m:aA) (i:Nat) (f:Nat) (v:V) (_:ac=[v,.ref<|G.ad .b0,.ref<|G.ad<|.ag i,.ref<|G.ad<|.a0 f]) (_:cO D G H m) (_:da D hD G.im v x) (_:vu m i f) (_:xA m i f x) (_:rM D G ps) (_:m7 D G m H Q E (aA.l6 ps m i f x)):nN D ps x ac H Q E
def jp.pC:∀{c:List V}{m:List ba}{i:Nat}{v:V},jp D bu H c m->c[i]?=Y v->∃x,m[i]?=Y x/\dh D bu H v x:=by
 intro c m i v h e
 induction c generalizing m i with
 |nil=>simp at e
 |cons _ _ d=>
  cases h with
  |cB a b=>
   cases i with
   |zero=>simp at e;subst e;show#[9,a]
   |succ i=>simpa using d b (by simpa using e)
def jp.eM:∀{a:List V}{m:List ba},jp D bu H a m->z9 a=z9 m:=by
 intro a m h
 induction a generalizing m with
 |nil=>cases h;rfl
 |cons _ _ c=>
  cases h with
  |cB _ b=>simp[c b]
def Xf{G:eQ}{m:aA}{H:aw}{f:Nat}{a:ck}{E:dG}{x:ba}{R:Except Int aA->Prop}(M:cO D G H m)(c:f<m.a5)(ok:qU m f x)(d:∀e,R (.error e)->gd E e){k:Int->Except Int aA}(h:R ((m.ev f x).bind k))(q:∀v,g9 v->R (k v)->a (.int v) H):nM a E H (ew (m.cA f) x):=by
 unfold aA.ev at h
 cases e:ew (m.cA f) x with
 |error b=>rw[e]at h;show d _ h
 |ok v=>rw[e]at h;show q v (zk (M.t9 c).lb ok.1 e) h
def nO(m:aA)(c:Nat)(fr:jw):aA:={m with c3:=c,a5:=m.a5+1,a0:=aF m.a0 m.a5 fr}
def NR(h:f<m.a5):(nO m c fr).a0 f=m.a0 f:=bC _ _<|eg h
def Xg{m:aA}{c f:Nat}{fr:jw}{x:ba}(h:f<m.a5)(ok:qU m f x):qU (nO m c fr) f x:=by
 let e:(nO m c fr).cA f=m.cA f:=by
  funext s
  unfold aA.cA;rw[NR h]
 show#[ok.1,by rw[e];show ok.2]
def ajM{m:aA}{c f:Nat}{fr:jw}{x:ba}(h:f<m.a5):(nO m c fr).ev f x=m.ev f x:=by
 let e:(nO m c fr).cA f=m.cA f:=by
  funext s
  unfold aA.cA;rw[NR h]
 unfold aA.ev;rw[e]
def hq(m:aA)(i f:Nat)(a:List Bool)(as:List ba)(body:cJ)(k c:Nat)(fr:jw):Except Int aA:=
 (aA.ih {m with c3:=c} f k (a.drop k) (as.drop k) fr).bind λr=>if z9 a≠z9 as then .error (-11)else .ok ({r.1 with a5:=r.1.a5+1,a0:=aF r.1.a0 r.1.a5 r.2}.eh i (.cq body,r.1.a5))
def ub{l:List α}{k:Nat}{a:α}(h:l[k]?=Y a):l.drop k=a::l.drop (k+1):=by let b:=(jP.mp h).1;rw[ur b];rw[pq b]at h;rw[iX h]
def ajN{i f:Nat}{b:List Bool}{as:List ba}{body:cJ}{k c:Nat}{fr:jw}{a:ba}(h1:b[k]?=Y J)(d:as[k]?=Y a):
  hq m i f b as body k c fr=(m.ev f a).bind λv=>if c=1000000 then .error (-13)else hq m i f b as body (k+1) (c+1) λt=>if t=k then Y (.cA v)else fr t:=by
 unfold hq
 rw[ub h1,ub d]
 show((m.ev f a).bind _).bind _=_
 cases m.ev f a with
 |error e=>rfl
 |ok v=>show zT (if c=1000000 then _ else _) _=if c=1000000 then _ else _;split<;>rfl
def ajO{i f:Nat}{a:List Bool}{as:List ba}{body:cJ}{k c s qy:Nat}{fr:jw}(h1:a[k]?=Y O)(b:as[k]?=Y (.jS s))(d:m.a0 f s=Y (.aH qy)):
  hq m i f a as body k c fr=hq m i f a as body (k+1) c λt=>if t=k then Y (.aH qy)else fr t:=by
 unfold hq
 rw[ub h1,ub b]
 show zT (match m.a0 f s with|some v=>_|none=>_) _=_
 rw[d]
def ajP{i f:Nat}{b:List Bool}{as:List ba}{body:cJ}{k c:Nat}{fr:jw}{a:ba}(h1:b[k]?=Y O)(e:as[k]?=Y a)(d:Eo a=J):hq m i f b as body k c fr=.error (-11):=by unfold hq;rw[ub h1,ub e];cases a<;>first|rfl|cases d
def ajQ(h:z9 e<=k\/z9 as<=k):hq m i f e as body k c fr=if z9 e≠z9 as then .error (-11)else .ok ((nO m c fr).eh i (.cq body,m.a5)):=by
 have:aA.ih {m with c3:=c} f k (e.drop k) (as.drop k) fr=.ok ({m with c3:=c},fr):=by
  obtain h|h:=h
  .rw[Jb h];unfold aA.ih;rfl
  .rw[Jb h]
   cases e.drop k with
   |nil=>unfold aA.ih;rfl
   |cons a b=>cases a<;>(unfold aA.ih;rfl)
 unfold hq;rw[this];rfl
namespace Xh
def bN:List kI×br×List ba×eQ×aA×Nat×Nat×V->dC:=λ(ps,g,as,G,m,i,f,v)=>dZ [v,.ref<|G.ad .b0,.ref<|G.ad<|.ag i,.ref<|G.ad<|.a0 f] λH Q E=>cO D G H m/\da D hD G.im v (.hH g as)/\vu m i f/\xA m i f (.hH g as)/\rM D G ps/\m7 D G m H Q E (aA.l6 ps m i f<|.hH g as)
def W:=dR 105 ["self","machine","task","frame","process","inner_frame","place","pair"] (λq=>205) bN
def as:=W.c
def G:=W.d
def m:=W.e
def i:=W.f
def f:=W.g
def v:=W.o
def H:=W.H
def E:=W.E
def t:=ee W (W.a,W.b,as,G,m,i,f,v) H W.Q E λX N h=>by
 let#[M,eY,B,pr,#[av,zo,H7],q]:=h
 show#[_,aU (dr 4 X<|Lm (g5 N) (bV<|aa 1) (bV<|aa 0) #[Z,Z,Z,Z])<|aU (ed (d9 su (aa 4) lL) (aP<|i4 Z) eP)<|aU (dr 5 X yQ)<|aU (qs i2 Z (acX Z (T.lJ _ bg) Z (T.lJ _ bg)<|cH (bV<|aa 4)<|bV<|aa 0) (Rr Z<|Gm (o6 6 X)<|Gm (o6 7 X) Rp)<|aP<|ed (d9 lM (iA (aa 7) cE) ea) (aP<|cU<|c4 aQ (aa 1)<|fX (aa 5)<|cH (aa 6)<|c4 aQ (iA (aa 7) cE)<|bo<|aa 3)<|aP<|qN (g5 N) (aa 5) (aa 6)<|cP aQ<|cH (iA (aa 7) cE)<|aa 3)<|aU (ed (d9 pM (j5 mY Z lr mD<|bo<|bV<|aa 4)<|j5 mY Z lr mD<|bo<|bV<|aa 0) (aP<|i4 Z) eP)<|aP<|cU<|iP cf cv fo jm (bV<|aa 2)<|bo<|ll<|cH (bV<|aa 4)<|aa 5,?_]
 generalize ev:v=v0 at eY
 cases eY with
 |@hH a d zn _ iu _ d6 aq cc ar G5=>
  let ua:=M.im _ _ aq
  let#[y,hm]:=M.b0
  show#[9,8,hm,aI,T.n 4 0,Z,9,.inl #[_,.inl<|M.im _ _ zo],9,8,ua,aI,T.n 26 0,Z,_,g4.k (k:=cT<|cZ W.b)<|M.im _ _ zo,?_]
  let#[f6,ajR]:=qQ.ya H7 W.b
  unfold aA.l6 at q
  dsimp only at q
  cases vw:W.a.find? λp=>p.lE==W.b with
  |none=>rw[vw]at q;rw[f6 vw];show#[9,Z,9,dw<|xd.iB N.bH q]
  |some p=>
   rw[vw]at q;let#[C,bk,H8]:=ajR p vw;rw[bk];let#[nB,ef,pl,jZ,cD,_,bf,_,kk,iN]:=H8.ob;rw[cD];show#[9,Z,9,di ?_];intro jL ajS;let q:m7 D G m H W.Q E (hq m i f p.gn as p.jb 0 m.c3 λ_=>U):=q;let P:=Xd M ajS;let ajT:=P.bQ.im _ _ bf;show#[9,8,ajT,aI,T.n 35 0,Z,9,8,P.bQ.im _ _ aq,aI,T.n 26 1,Z,pl,zn,_,9,bM.of<|P.bQ.im _ _ kk,bM.of<|P.bQ.im _ _ ar,?_];let amy:5000000<sizeLine:=by decide
   let ln:=G5.eM;let pc:z9 p.gn<=65536:=H8.eM;show ajL (xs:=p.gn.map λk=>.str<|iS k) (ys:=iu) (λk σ H1=>∃l c fr C fp eD,σ=[Y<|.ref a,Y<|.ref<|G.ad .b0,Y<|.ref<|G.ad<|.ag i,Y<|.ref<|G.ad<|.a0 f,Y<|.ref nB,Y<|.ref jL,fp,eD]/\Go D G m H l (nO m c fr) H1/\l.ad (.a0 m.a5)=jL/\H1 jL=Y (.cY C)/\z9 C<=k/\c<=1000000/\m.c3<=c/\m7 D G m H W.Q E (hq m i f p.gn as p.jb k c fr))
    #[_,m.c3,_,[],U,U,Z,P,aR Z,bj,bK _,B.L.1,bK _,q] (λk σ H1 #[l,c,fr,C,fp,eD,_,g,_]=>#[bM.of<|g.bQ.im _ _<|g.le.im _ _ kk,bM.of<|g.bQ.im _ _<|g.le.im _ _ ar]) (λk x y σ H1 t u au dI #[l,c,fr,C,fp,eD,bp,g,I,aS,eu,cl,mc,q] bz bY gE=>?_) (λk σ H1 dW e2 zf #[l,c,fr,C,fp,eD,bp,g,I,aS,eu,cl,mc,q]=>?_)
   .subst bp
    rw[r4]at au
    let#[F,H9,rfl]:=iW.mp au
    let#[x,t8,ex]:=G5.pC dI
    let Xi:x∈as:=mF t8
    let Bx:k<z9 p.gn:=(jP.mp H9).1
    let Bz:f<(nO m c fr).a5:=pj B.hf
    let Ep:∀b o,H1 b=Y o->aE (aE H1 t<|.cu [.str<|iS F,y]) u (.cu [.int (k:Nat),.ref t]) b=Y o:=λb o z=>by rwa[aK<|cx z bY,aK<|cx z bz]
    let A:=g.bw<|Go.eS g.bQ Ep
    let am:l.ad .b0=G.ad .b0:=A.le.ad .b0 trivial (by intro i z;cases z)
    let vt:l.ad (.a0 f)=G.ad (.a0 f):=A.le.ad (.a0 f) B.hf (by intro i z;cases z)
    let jY:aE (aE H1 t<|.cu [.str<|iS F,y]) u (.cu [.int (k:Nat),.ref t]) t=Y (.cu [.str<|iS F,y]):=by rw[aK gE,bj]
    show#[u,9,gb.of bj,Z,_,9,_,9,Z,?_]
    let nq:∀{Er:ck}{j:Int}{z:V},uX [.str<|iS F,y] j=Y z->Er z (aE (aE H1 t<|.cu [.str<|iS F,y]) u<|.cu [.int (k:Nat),.ref t])->KZ K (.ref t) (.int j) (aE (aE H1 t<|.cu [.str<|iS F,y]) u<|.cu [.int (k:Nat),.ref t]) Er:=λe q=>.inr<|.inl #[t,7,9,Z,gb.of jY,e,q]
    let Xj:dh D hD (aE (aE H1 t<|.cu [.str<|iS F,y]) u<|.cu [.int (k:Nat),.ref t]) y x:=dh.dt (λa o _ z=>#[trivial,A.bQ.im a o<|A.le.im a o z]) ex
    let NS:aE (aE H1 t<|.cu [.str<|iS F,y]) u (.cu [.int (k:Nat),.ref t]) jL=Y (.cY C):=Ep _ _ aS
    let ajU:(z9 C:Nat)<sizeLine:=by lia
    show#[9,nq (z:=.str<|iS F) Z<|oj T.AY #[Z,9,?_]]
    let NT:=(pr x Xi).1
    cases F with
    |false=>
     rw[ajN H9 t8]at q;let#[mz,nK]:=A.bQ.b0;rw[am]at nK;show dw #[9,8,nK,aI,T.Ug,Z,9,9,9,nq (z:=y) Z<|j9 (xx NT.1) Xj N Z (by have:=A.bQ.t9 Bz;rwa[vt]at this) (Xg B.hf NT).2<|Xf A.bQ Bz (Xg B.hf NT) (R:=m7 D G m H W.Q E) (λ_ z=>z) (by rwa[ajM B.hf]) λv bk q=>?_];show#[4,7,#[Nx.t],N.bH,(l,nO m c fr,m.a5,k,v,C),by show _=E5 _ _;rw[am,I],A.bQ,k2 _,by rw[I];show NS,bk,#[cl,B.L.2],λz=>?_,λz bT S bO=>?_]
     .let z:c=1000000:=z;rwa[aR z]at q
     .let z:c≠1000000:=z;rw[aM z]at q;rw[I]at bO;let em:({(nO m c fr).hI m.a5 k (.cA v)with c3:=(nO m c fr).c3+1}:aA)=nO m (c+1) λt=>if t=k then Y (.cA v)else fr t:=by unfold aA.hI nO;dsimp only;rw[bE];congr 1;funext j;unfold aF;split<;>rfl
      rw[em]at S;show#[l,c+1,7,_,9,A.bw S,I,bO,?_,aV,aV,q];have:=yL C (d2 ((k:Nat):Int))<|.int v;lia
    |true=>
     show di ?_
     show cm (T.t 106 Z) ?_
     show#[9,nq (z:=y) Z #[9,dk (Xe.t) N.bH #[(l,nO m c fr,f,y,x),by show _=[y,V.ref<|l.ad<|.a0 f];rw[vt],A.bQ,Bz,Xj,?_]]]
     cases NU:Eo x with
     |false=>rw[ajP H9 t8 NU]at q;let q:gd E (-11):=q;cases x<;>first|show q|cases NU
     |true=>
      cases x with
      |jS c2=>
       let#[qy,An]:=(pr _ Xi).2 c2 Z;rw[ajO H9 t8 An]at q;show#[qy,by rw[NR B.hf];show An,?_];show#[9,9,_,9,mm.k (k:=d2 ((k:Nat):Int)) NS ajU,?_];let ajV:qy<m.a9:=(M.lG B.hf An).choose_spec.2.2.1;let lH:=yL C (d2 ((k:Nat):Int))<|vp l<|.aH qy;let S:=Nw A.bQ (f:=m.a5) (s:=k) (v:=.aH qy) (av:=C) (k2 _) (by rw[I];show NS) (by show _<=65536+c+m.a9;lia) (λlC e=>by cases e;show ajV) (λv e=>by cases e);let em:(nO m c fr).hI m.a5 k (.aH qy)=nO m c λt=>if t=k then Y (.aH qy)else fr t:=by unfold aA.hI nO;dsimp only;rw[bE];congr 1;funext j;unfold aF;split<;>rfl
       rw[em,I]at S;show#[l,c,7,_,9,A.bw S,I,bj,dK lH<|IN eu,cl,mc,q]
      |_=>cases NU
   .subst bp;rw[ajQ (by rw[hR]at zf;rw[<-ln];show zf)]at q;let Xk:=g.bQ.im _ _<|g.le.im _ _ bf;let ajW:=g.bQ.im _ _<|g.le.im _ _ kk;let ajX:=g.bQ.im _ _<|g.le.im _ _ aq;let ajY:=g.bQ.im _ _<|g.le.im _ _ ar;show#[9,8,Xk,aI,T.n 35 0,Z,_,9,.inl<|bM.of ajW,9,8,ajX,aI,T.n 26 1,Z,_,9,.inl<|bM.of ajY,Z,9,iR (λz=>?_) λz=>?_]
    .let z:z9 p.gn≠z9 as:=by intro w;rw[hR,ln,w]at z;simp at z
     rw[aR z]at q;show xd.iB N.bH q
    .let z:¬z9 p.gn≠z9 as:=by
      rw[hR,ln]at z;let z:(z9 p.gn:Int)=z9 as:=by simpa using z
      lia
     rw[aM z]at q;let vv:l.ad (.ag i)=G.ad (.ag i):=g.le.ad (.ag i) B.ak (by intro i z;cases z);let#[gr,By]:=g.bQ.ag (i:=i) B.ak;let#[vs,oy,_]:=g.bQ.a6 (i:=i) B.ak;rw[vv]at By;show#[9,8,By,aI,T.n 3 2,Z,.inl #[Z,_,bM.of oy],9,8,Xk,aI,T.n 35 1,Z,9,by show 2<=sizeLine;decide,λr ajZ=>?_];let#[ac,iG,lA,gA]:=t6 (i:=i) (f:=m.a5) (j:=.cq p.jb) g.bQ B.ak (k2 _) (da.dt (λa o _ z=>#[trivial,g.le.im a o z]) iN) ajZ;rw[I]at iG gA;let ip:=B.ip;let lA:z9 ac=(m.ag i).a6.length:=lA;show#[7,9,Z,iG,aV,q _ _<|g.bw gA]
end Xh
def aj0{g:br}{as:List ba}:bX 206 105 (nN D ps<|.hH g as):=Xh.t.i5 λ_ _ _ _ #[k,m,d,i,j,e,l,b,f,c,a,h]=>#[(ps,g,as,k,m,d,i,j),Z,e,l,b,f,c,a,h]
def aj1{c9:jl}{E:dG}{c:bl}{d:aw}{sc:iH}{ce:Env}{b:List ao}{ba:aB->bl->Prop}{m x y:Str}{i j:Nat}{p g l pos:Pos}{pl:Sem Bool}
  (S:nz c9 ((X.i0 c d sc ce b).gN ba) E) (P:bS ((X.i0 c d sc ce b).gN ba) (.Name x p) (hM i)) (A:bS ((X.i0 c d sc ce b).gN ba) (.Name y g) (hM j))
  (n:eN [.Name y g] ((X.i0 c d sc ce b).gN ba).env=(J,eval (.Name y g) ((X.i0 c d sc ce b).gN ba).env)::eN [] ((X.i0 c d sc ce b).gN ba).env:=by rfl) (B:(jN pos<|eN [] ((X.i0 c d sc ce b).gN ba).env).any (·.1)=false:=by rfl)
  (z:eval (.Call (.Attribute (.Name x p) m l) [.Name y g] [] pos) ((X.i0 c d sc ce b).gN ba).env=(do
   let o <-eval (.Name x p) ((X.i0 c d sc ce b).gN ba).env
   vF l.atName
   let (f,first) <-vG [o] (uh o m pl)
   vE pos f first (jN pos<|eN [.Name y g] ((X.i0 c d sc ce b).gN ba).env) (rV pos<|rT [] ((X.i0 c d sc ce b).gN ba).env)):=by rfl):
  bS ((X.i0 c d sc ce b).gN ba) (.Call (.Attribute (.Name x p) m l) [.Name y g] [] pos) (qI X c9 E m (hM i)<|lk (hM j) kP):=λK s M H Q I h=>by
 let#[v,e,a,C,dx,bb,f,L,w,G,N,r,D,u,k,ps,t,F,R,q]:=h
 show c4 S P (fX A nx n) n B z K s M H Q I #[v,e,a,C,dx,bb,f,L,w,G,N,r,D,u,k,ps,t,#[F.ok],R,q]
def aj2{X:b9}{d:bl}{e:aw}{sc:iH}{ce:Env}{c:List ao}{ba:aB->bl->Prop}{a:Expr}{f:TE}(h:bS ((X.i0 d e sc ce c).gN ba) a f)(i:∀b,xO a ((X.i0 d e sc ce c).gN ba).env b=(do let v <-b;vF a.pos;vG [v] (truthy v))):
  lg ((X.i0 d e sc ce c).gN ba) a (λσ H Q=>f σ H λx g=>∃k,wL X.K x g k/\Q k g):=RL h i
inductive ud(D:ej)(H:aw):V->ba×hG×cJ->Prop where
 |d3 {a d:ao}{el ac:V}{c:ba}{x:cJ}:H a=Y (.b7 (D.c 33) d [("condition",el),("statement",ac)])->dh D hD H el c->da D hD H ac x->ud D H (.ref a) (c,.d3,x)
 |du {a d:ao}{el ac:V}{c:ba}{x:cJ}{eO eo:Option Nat}:H a=Y (.b7 (D.c 34) d [("condition",el),("statement",ac),("channel",tT eO),("cell",tT eo)])->dh D hD H el c->da D hD H ac x->ud D H (.ref a) (c,.du eO eo,x)
def iE.pC:∀{f:List V}{m:List (ba×hG×cJ)}{i:Nat}{v:V},iE D hD H f m->f[i]?=Y v->∃b,m[i]?=Y b/\ud D H v b:=by
 intro f m i v h e
 induction f generalizing m i with
 |nil=>simp at e
 |cons _ _ g=>
  cases h with
  |d3 _ a b c d=>
   cases i with
   |zero=>simp at e;subst e;show#[9,.d3 a b c]
   |succ i=>simpa using g d (by simpa using e)
  |du _ a b c d=>
   cases i with
   |zero=>simp at e;subst e;show#[9,.du a b c]
   |succ i=>simpa using g d (by simpa using e)
def iE.eM(h:iE D hD H e m):z9 e=z9 m:=by apply iE.rec (motive_1:=λq q q=>True) (motive_2:=λq q q=>True) (motive_3:=λq q q=>True) (motive_4:=λq q q=>True) (motive_5:=λe m q=>z9 e=z9 m) (t:=h)<;>intros<;>first|trivial|rfl|show congrArg (·+1) ‹_›
def ud.cI(h:ud D H v b)(k:∀a o,H a=Y o->ab a=Y o):ud D ab v b:=by
 cases h with
 |d3 e a b=>show .d3 (k _ _ e) (dh.dt (λa o q z=>#[trivial,k a o z]) a)<|da.dt (λa o q z=>#[trivial,k a o z]) b
 |du e a b=>show .du (k _ _ e) (dh.dt (λa o q z=>#[trivial,k a o z]) a)<|da.dt (λa o q z=>#[trivial,k a o z]) b
def aj3(H:aw)(Q:ck)(E:dG):hG->Prop
 |.du (Y _) (Y _)=>Q .bB H
 |.d3=>Q .bB H
 |_=>gd E<|-11
def aj4:bX 206 118 (λac H Q E=>∃v d fr,ac=[v,.ref d]/\ud D H v b/\eJ b.1<=201/\Bu H d fr/\pe fr b.1/\nM (λu f=>∃n,u=.int n/\Q (.cC<|decide<|n≠0) f) E H (ew fr b.1)):=by
 show ek 118 ["self","frame"] λt A bc r H ac Q E s j h=>?_
 let#[v,d,fr,rfl,m,g,i,k,q]:=h
 show#[_,aP<|cS<|C8 pM (c4 aQ (bV<|aa 0)<|bo<|aa 1) cE<|Aw _,?_]
 let a:∀{p:V},dh D hD H p b.1->nM (λu f=>RC u (.int 0) f Q) E H (ew fr b.1):=λw=>by
  cases e:ew fr b.1 with
  |error _=>rwa[e]at q
  |ok n=>rw[e]at q;let#[n,o,q]:=q;cases o;show#[Z,?_];rwa[t2,<-decide_not]
 cases m with
 |d3 e c l=>show#[9,8,e,aI,T.n 33 0,Z,j9 (xx g) c j Z i k<|a c]
 |du e c l=>show#[9,8,e,aI,T.n 34 0,Z,j9 (xx g) c j Z i k<|a c]
namespace Xl
def bN:L2.V->dC:=λv=>dZ [v] λH Q E=>Q .bB H
def W:=dR 119 ["self"] (λq=>0) bN
def t:=fj W W.x W.H W.Q W.E λa b h=>by let q:=h;show#[_,aP<|Kr,q]
end Xl
def aj5:bX 4 122 (λac H Q E=>∃a d i j f b,ac=[.ref a]/\H a=Y (.b7 (D.c 34) d [("condition",i),("statement",j),("channel",tT f),("cell",tT b)])/\aj3 H Q E (.du f b)):=by
 show ek 122 ["self"] λm A bc k H ac Q E l g h=>?_
 let#[a,d,i,j,f,b,rfl,e,q]:=h
 show#[_,aP<|ed (me.pt<|Ar (d9 su (bV<|aa 0) lL)<|Ap<|d9 su (bV<|aa 0) lL) (aP<|i4 Z) eP,?_]
 cases f with
 |none=>show#[9,8,e,aI,T.n 34 2,Z,Z,9,dw<|dw<|xd.iB g q]
 |some c=>
  cases b with
  |none=>show#[9,8,e,aI,T.n 34 2,Z,Z,9,di #[9,8,e,aI,T.n 34 3,Z,Z,9,dw<|xd.iB g q]]
  |some y=>show#[9,8,e,aI,T.n 34 2,Z,Z,9,di #[9,8,e,aI,T.n 34 3,Z,Z,9,di q]]
namespace Xm
def bN:L2.V×L2.V×L2.V->dC:=λ(v,u,z)=>dZ [v,u,z] λH Q E=>Q (.cC O) H
def W:=dR 120 ["self","machine","frame"] (λq=>0) bN
def t:=fj W (W.a,W.b,W.j) W.H W.Q W.E λc d h=>by let q:=h;show#[_,aP<|cS oS,q]
end Xm
namespace Xn
def bN:eQ×aA×Nat×ao×ao×V×V×Nat×Nat×Nat->dC:=λ(G,m,f,a,d,g,h,c,y,k)=>dZ [.ref a,.ref<|G.ad .b0,.ref<|G.ad<|.a0 f] λH Q q=>H a=Y (.b7 (D.c 34) d [("condition",g),("statement",h),("channel",.int (c:Nat)),("cell",.int (y:Nat))])/\cO D G H m/\f<m.a5/\m.a0 f c=Y (.aH k)/\z9 m.b5<=5000/\lI m/\H5 m k/\(m.a0 f y).isSome=O/\
  (m.hJ k f y=U->Q (.cC J) H)/\∀e,m.hJ k f y=Y e->∀b,Go D G m H G e b->Q (.cC O) b
def W:=dR 123 ["self","machine","frame"] (λq=>3) bN
def c:=W.h
def y:=W.x.2.2.2.2.2.2.2.2.1
def k:=W.x.2.2.2.2.2.2.2.2.2
def t:=fj W (W.a,W.b,W.c,W.d,W.e,W.f,W.g,c,y,k) W.H W.Q W.E λv j h=>by let#[e,M,i,u,l,L,m,q,r,o]:=h;show#[_,aP<|cS<|cP aQ<|fX (aa 1)<|fX (sK (g5 j) (aa 2)<|bV<|aa 0)<|cH (aa 2)<|bV<|aa 0,?_];let#[av,p,s,cl,w]:=M.lG i u;show cm (T.t 5 Z) ?_;show#[9,9,9,8,e,aI,T.n 34 2,Z,_,9,(by have:=g4.k (k:=d2 ((c:Nat):Int)) p;rwa[s]at this),9,9,8,e,aI,T.n 34 3,Z,dk (NL.t) j.bH #[(W.a,W.b,k,W.c,y),Z,M,i,cl,l,L,m,q,r,o]]
end Xn
abbrev vy:=ba×hG×cJ
def NV(m:aA)(i f:Nat)(r:List vy):Except Int aA:=match m.hV f r with
 |some (a,x)=>.ok<|a.eh i (.cq x,f)
 |none=>.ok<|(m.fK i).kf i f r
def xC(m:aA)(i f:Nat)(r:List vy):Except Int aA:=if aA.jT r=J then .error (-11)else NV m i f r
def BA(m:aA)(i f:Nat)(l cK:List vy):Except Int aA:=((m.px f l).map (cK++·)).bind<|xC m i f
def aj6:BA m i f (b::l) cK=(m.ev f b.1).bind λv=>BA m i f l<|if v≠0 then cK++[b]else cK:=by
 unfold BA
 show((zT (m.ev f b.1) _).map _).bind _=_
 cases m.ev f b.1 with
 |error e=>rfl
 |ok v=>
  cases m.px f l with
  |error e=>rfl
  |ok r=>
   show xC m i f (cK++if v≠0 then b::r else r)=xC m i f ((if v≠0 then cK++[b]else cK)++r);by_cases z:v≠0
   .rw[aR z,aR z,m9];rfl
   .rw[aM z,aM z]
def aj7:BA m i f [] cK=xC m i f cK:=by show xC m i f (cK++[])=_;rw[uv]
theorem NW:∀{r:List vy},aA.jT r=O->∀b∈r,∀d a,b.2.1=.du d a->(∃c,d=Y c)/\∃y,a=Y y
 |[],_,b,ae,_,_,_=>by cases ae
 |(g,.d3,f)::l,h,b,ae,d,a,e=>by
  obtain rfl|ae:=eG.mp ae
  .cases e
  .show NW (r:=l) (by simpa [aA.jT] using h) b ae d a e
 |(g,.du U y,f)::l,h,b,ae,d,a,e=>by simp[aA.jT]at h
 |(g,.du (Y c) U,f)::l,h,b,ae,d,a,e=>by simp[aA.jT]at h
 |(g,.du (Y c)<|Y y,f)::l,h,b,ae,d,a,e=>by
  obtain rfl|ae:=eG.mp ae
  .cases e;show#[#[9],9]
  .show NW (by simpa [aA.jT] using h) b ae d a e
theorem Ib{m:aA}{f:Nat}:∀{r:List vy},m.hV f r=U->∀b∈r,b.2.1≠.d3
 |[],_,b,ae=>by cases ae
 |(d,.d3,a)::l,h,b,ae=>by simp[aA.hV]at h
 |(d,.du U y,a)::l,h,b,ae=>by
  obtain rfl|ae:=eG.mp ae
  .show λz=>by cases z
  .show Ib (r:=l) (by simpa [aA.hV] using h) b ae
 |(d,.du (Y c) U,a)::l,h,b,ae=>by
  obtain rfl|ae:=eG.mp ae
  .show λz=>by cases z
  .show Ib (by simpa [aA.hV] using h) b ae
 |(d,.du (Y c)<|Y y,a)::l,h,b,ae=>by
  obtain rfl|ae:=eG.mp ae
  .show λz=>by cases z
  .show Ib (m:=m) (f:=f) ?_ b ae;unfold aA.hV at h;split at h
   .cases h
   .show h
set_option tactic.hygienic true in
def Xo{m aO:aA}{c f s i:Nat}(h:m.hJ c f s=Y aO):(aO.ag i).a6=(m.ag i).a6:=by
 unfold aA.hJ at h;split at h
 .cases h
 .rename_i j v r e;cases h;show fG.a6 (aF m.ag j _ i)=_;by_cases z:i=j
  .rw[z,bE];rfl
  .rw[bC _ _ z]
def aj8(m:aA)(i c f s:Nat)(st:Option cJ):(m.jc i c f s st).a0=m.a0:=by unfold aA.jc;dsimp only;split<;>rfl
def aj9(m:aA)(i c f s:Nat)(st:Option cJ)(d:Nat):((m.jc i c f s st).aH d).dn.length<=(m.aH d).dn.length+1:=by
 unfold aA.jc;dsimp only;split
 .show iT _
 .show((aF m.aH c _ d)).dn.length<=_;by_cases e:d=c
  .rw[e,bE,ju];show bK _
  .rw[bC _ _ e];show iT _
def aka(m:aA)(i c f s:Nat)(st:Option cJ):((m.jc i c f s st).ag i).bI.length<=(m.ag i).bI.length+1:=by
 unfold aA.jc;dsimp only;let h:((m.fK i).ag i).bI=(m.ag i).bI:=by show fG.bI (aF m.ag i _ i)=_;rw[bE]
 split
 .rw[h];show iT _
 .show(fG.bI<|aF _ i _ i).length<=_;rw[bE,h,ju];show bK _
def dE.NX{R:α->β->Prop}:∀{l:List α}{m:List β}{i:Nat}{a:α},dE R l m->l[i]?=Y a->∃b,m[i]?=Y b/\R a b:=by
 intro l m i a h e
 induction l generalizing m i with
 |nil=>simp at e
 |cons _ _ c=>
  cases h with
  |cB x y=>
   cases i with
   |zero=>simp at e;subst e;show#[9,x]
   |succ i=>simpa using c y (by simpa using e)
def ud.jx(h:ud D H v b):∃a C dx bb,v=.ref a/\H a=Y (.b7 C dx bb)/\ku K C/\c6 K C "counts" (D.f 118)/\bb.lookup ("counts":Str)=none:=by
 cases h with
 |d3 e _ _=>show#[7,_,9,e,aI,T.aeT,Z]
 |du e _ _=>show#[7,_,9,e,aI,T.aeX,Z]
namespace Xp
def bN:List kI×List vy×eQ×aA×Nat×Nat×V->dC:=λ(ps,l,G,m,i,f,v)=>dZ [v,.ref<|G.ad .b0,.ref<|G.ad<|.ag i,.ref<|G.ad<|.a0 f] λH Q E=>cO D G H m/\da D hD G.im v (.k5 l)/\vu m i f/\xA m i f (.k5 l)/\m7 D G m H Q E (aA.l6 ps m i f<|.k5 l)
def W:=dR 116 ["self","machine","task","frame","branches","branch"] (λq=>206) bN
def l:=W.b
def G:=W.c
def m:=W.d
def i:=W.e
def f:=W.f
def v:=W.n
def H:=W.H
def t:=ee W (W.a,l,G,m,i,f,v) H W.Q W.E λaG af h=>by
 let#[M,S,B,pr,q]:=h
 show#[_,(aU (Ub Z Z (i:=4) aG Z Z (SE Z Z Z eH) (uV<|bV<|aa 0) (own:=[("branch",5)]) (show wR ["self","machine","task","frame","branches","branch"] (hY<|st 116) _ _ from#[Z,eH,eH,eH,eH]) (λ_ _ _ _ _ _=>C3 (i:=5) aG Z<|uy Z) (λ_ _ _ _ _ _ AV=>aaW<|aj2 (aj1 AV (aa 5)<|aa 3) λ_=>rfl) λ_ _ _ _ _ _=>(aa 5))<|aU (qs i2 Z (uV<|aa 4) (o6 5 aG)<|aP<|cU<|jo aQ<|aa 5)<|aU (qs i2 Z (uV<|aa 4) (o6 5 aG)<|aP<|ed (iz<|c4 aQ (aa 5)<|cH (aa 1)<|aa 3) (aU (cU<|iP cf cv fo jm (bV<|aa 2)<|bo<|ll<|cH (bV<|aa 5)<|aa 3)<|aP<|Kt) eP)<|aU (fY (aa 2) oS)<|aP<|qs i2 Z (uV<|aa 4) (o6 5 aG)<|aP<|cU<|cP aQ<|fX (aa 2)<|fX (sK (g5 af) (aa 3)<|bV<|aa 5)<|fX (aa 3)<|cH (bV<|aa 5)<|bV<|aa 5),?_]
 generalize ev:v=v0 at S
 cases S with
 |@k5 a d zn lv _ d6 I cc N cC vm=>
  let ua:=M.im _ _ I;let Em:=M.im _ _ N;let big:5000000<sizeLine:=by decide
  let ln:=cC.eM;let A:aA.l6 W.a m i f (.k5 l)=BA m i f l []:=by show(m.px f l).bind _=((m.px f l).map _).bind _;cases m.px f l<;>rfl
  rw[A]at q;show#[9,8,ua,aI,T.n 31 0,Z,zn,Z,#[_,bM.of Em],λlp D2=>?_];let ei:∀u b o,H b=Y o->aE H lp (.bq u) b=Y o:=λu b o z=>by rwa[aK<|cx z D2]
  show SG (K:=K) (a:=zn) (xs:=lv) (g:=sl 5) (eF:=hM 5) (tt:=λC H1 xB=>qI (rC 116 W) (eV P w b8) W.E "counts" (hM 5) (lk (hM 3) kP) C H1 λx ab=>∃jy,wL K x ab jy/\xB jy ab) (λk H1=>∃u cK,H1=aE H lp (.bq u)/\dE (ud D G.im) u cK/\z9 u<=k/\(∀b∈cK,b∈l)/\m7 D G m H W.Q W.E (BA m i f (l.drop k) cK)) #[[],[],Z,.dg,bK _,λb ae=>(by cases ae),q] (λk H1 _ #[u,cK,e,_]=>by rw[e];show bM.of<|ei _ _ _ Em) (λk v H1 bk #[u,cK,e,zp,al,am,q]=>?_) λH1 #[u,r,e,zp,al,am,q]=>?_
  .subst e;let#[b,ae,ue]:=cC.pC bk;let bm:=mF ae;let pc:=(jP.mp bk).1;rw[ub ae,aj6]at q;let X:=Go.eS M<|ei u;let#[ok,_]:=pr.2 b bm;show#[Z,?_];let Ic:=ue.cI λa o z=>ei u a o<|M.im a o z;let#[zq,akb,bd,tQ,rfl,A,akc,n8,z6]:=Ic.jx;show#[9,zq,akb,bd,tQ,9,A,akc,n8,z6,9,206,7,#[aj4 (b:=b)],af,7,9,Ic,ok.1,X.bQ.t9 B.hf,ok.2,Xf X.bQ B.hf ok (R:=m7 D G m H W.Q W.E) (λ_ z=>z) q λko RO q=>#[ko,Z,9,?_]];by_cases z:ko≠0
   .rw[aR z]at q;rw[gv z];show dw #[9,u,bj,aV,u++[.ref zq],cK++[b],io,dE.D4 zp ue,?_,λc hc=>?_,q]
    .rw[ju];show IN al
    .obtain w|w:=iV.mp hc
     .show am c w
     .rw[gX.mp w];show bm
   .rw[aM z]at q;rw[i9 z];show di #[u,cK,Z,zp,IM al,am,q]
  .subst e;rw[ln,sZ,aj7]at q;let X:=Go.eS M<|ei u;let m6:=zp.eM;show#[9,lp,Z,#[_,bM.of bj],?_];show yD (K:=K) (a:=lp) (xs:=u) (λk C H1=>∃e,C=[Y<|.ref a,Y<|.ref<|G.ad .b0,Y<|.ref<|G.ad<|.ag i,Y<|.ref<|G.ad<|.a0 f,Y<|.ref lp,e]/\H1=aE H lp (.bq u)/\aA.jT r=aA.jT (r.drop k)) #[U,Z,Z,Z] (λk C H1 _ #[e,_,N,_]=>by rw[N];show bM.of bj) (λk v C H1 bk #[e,I,N,eu]=>?_) (λC H1 #[e,I,N,eu]=>?_)
   .subst I N
    let#[b,ae,ue]:=zp.NX bk
    rw[ub ae]at eu
    let Ic:=ue.cI λa o z=>ei u a o<|M.im a o z
    cases Ic with
    |d3 A ex S=>show#[9,8,A,aI,T.aeU,Z,1,7,#[Xl.t],af.bH,9,9,Z,eu]
    |@du zq bd el ac c x eO eo A ex S=>
     show#[9,8,A,aI,T.aeY,Z,4,7,#[aj5],af.bH,7,7,eO,eo,Z,A,?_]
     cases eO with
     |none=>have eu:aA.jT r=false:=eu;unfold xC at q;rwa[aR eu]at q
     |some c=>
      cases eo with
      |none=>have eu:aA.jT r=false:=eu;unfold xC at q;rwa[aR eu]at q
      |some y=>show#[9,Z,eu]
   .subst I N;rw[m6,sZ]at eu;unfold xC at q;rw[aM (by rw[eu];decide)]at q;let Xq:=NW eu;show#[9,lp,Z,#[_,bM.of bj],?_];show yD (K:=K) (a:=lp) (xs:=u) (λk C H1=>∃e,C=[Y<|.ref a,Y<|.ref<|G.ad .b0,Y<|.ref<|G.ad<|.ag i,Y<|.ref<|G.ad<|.a0 f,Y<|.ref lp,e]/\H1=aE H lp (.bq u)/\m.hV f r=m.hV f (r.drop k)) #[9,Z,Z] (λk C H1 _ #[e,_,N,_]=>by rw[N];show bM.of bj) (λk v C H1 bk #[e,I,N,fd]=>?_) (λC H1 #[e,I,N,fd]=>?_)
    .subst I N
     let#[b,ae,ue]:=zp.NX bk
     let bm:=mF ae
     rw[ub ae]at fd
     let push:∀{s:aA}{ay:aw}{NY:aw->Prop}{Ie:V}{x:cJ},Go D G m H G s ay->da D hD G.im Ie x->(s.ag i).a6.length<=5001->(∀b4 ab,Go D G m H b4 (s.eh i (.cq x,f)) ab->NY ab)->∀p,ay p=U->∃ac,aE ay p (.cu [Ie,.ref<|G.ad<|.a0 f]) (G.ad<|.a6 i)=Y (.bq ac)/\z9 ac<sizeLine/\NY (aE (aE ay p<|.cu [Ie,.ref<|G.ad<|.a0 f]) (G.ad<|.a6 i)<|.bq<|ac++[.ref p]):=λ{s ay NY Ie x} g S ft Es p aC=>by let#[ac,iG,lA,gA]:=t6 (i:=i) (f:=f) (j:=.cq x) g.bQ (eR B.ak g.le.az) (eR B.hf g.le.a5) S aC;show#[ac,iG,aV,Es _ _<|g.bw gA]
     let#[dp,bz]:=X.bQ.ag B.ak
     let#[vs,oy,_]:=X.bQ.a6 B.ak
     let amz:=B.ip
     unfold NV at q
     cases ue with
     |@d3 zq bd el ac c x A ex S=>rw[fd]at q;let vz:=X.bQ.im _ _ A;show#[9,8,vz,aI,T.aeV,Z,9,9,1,7,#[Xm.t],af.bH,(_,_,_),Z,9,dw ?_];show#[9,8,bz,aI,T.n 3 2,Z,.inl #[Z,_,bM.of oy],9,8,vz,aI,T.n 33 1,Z,9,by show 2<=sizeLine;decide,λp aC=>?_];let#[NO,iG,lA,Es]:=push X S aV q p aC;show#[7,9,Z,iG,lA,Es]
     |@du zq bd el ac c x eO eo A ex S=>
      let#[#[cw,rfl],mz,rfl]:=Xq _ bm eO eo Z;let#[sw,dW,Ig,sn,ft]:=(pr.2 _<|am _ bm).2 cw mz Z;let ca:m.hU f cw=dW:=by unfold aA.hU;rw[Ig]
      let fd:m.hV f r=match m.hJ (m.hU f cw) f mz with|some aO=>Y (aO,x)|none=>m.hV f<|r.drop<|k+1:=fd
      rw[ca]at fd;let vz:=X.bQ.im _ _ A;show#[9,8,vz,aI,T.aeZ,Z,9,9,4,7,#[Xn.t],af.bH,(G,m,f,zq,bd,el,ac,cw,mz,dW),Z,vz,X.bQ,B.hf,Ig,B.b5,B.L,sn,sw,λz=>?_,λaO z ab F=>?_]
      .rw[z]at fd;show#[9,di #[9,Z,fd]]
      .rw[z]at fd;rw[fd]at q;let g1:=X.bw F;let#[amA,By]:=g1.bQ.ag (i:=i)<|eR B.ak g1.le.az;let#[amB,akd,_]:=g1.bQ.a6 (i:=i)<|eR B.ak g1.le.az;show#[9,dw #[9,8,By,aI,T.n 3 2,Z,.inl #[Z,_,bM.of akd],9,8,g1.bQ.im _ _ A,aI,T.n 34 1,Z,9,by show 2<=sizeLine;decide,λp aC=>?_]];let#[NO,iG,lA,Es]:=push g1 S (by rw[Xo z];lia) q p aC;show#[7,9,Z,iG,lA,Es]
    .subst I N;rw[m6,sZ]at fd;unfold NV at q;rw[fd]at q;let#[dp,bz]:=X.bQ.ag B.ak;let g1:=X.bw<|xy (x:=dp) X.bQ B.ak J (m.ag i).ey _ Z;let NZ:∀r,dS m.b1 r->G.ad r≠lp:=λr l=>M.g6 D2 l;show#[9,7,_,9,bz,aI,T.n 3 3,fE,?_];show#[9,lp,Z,#[_,bM.of<|(aK<|c5<|NZ (.ag i) B.ak).trans bj],?_];show yD (K:=K) (a:=lp) (xs:=u) (λk C H1=>∃e dm s,C=[Y<|.ref a,Y<|.ref<|G.ad .b0,Y<|.ref<|G.ad<|.ag i,Y<|.ref<|G.ad<|.a0 f,Y<|.ref lp,e]/\Go D G m H dm s H1/\H1 lp=Y (.bq u)/\(∀r,dS s.b1 r->dm.ad r≠lp)/\(m.fK i).kf i f r=s.kf i f (r.drop k)/\s.a0=m.a0/\(∀c,(s.aH c).dn.length<=(m.aH c).dn.length+k)/\(s.ag i).bI.length<=(m.ag i).bI.length+k)
      #[_,G,m.fK i,Z,g1,(aK<|c5<|NZ (.ag i) B.ak).trans bj,NZ,Z,Z,λc=>bK _,?_] (λk C H1 _ #[e,dm,s,_,F,Ih,_]=>bM.of Ih) (λk v C H1 bk #[e,dm,s,I,F,Ih,vj,xD,fr,ft,pc]=>?_) (λC H1 #[e,dm,s,I,F,Ih,vj,xD,fr,ft,pc]=>?_)
     .show(fG.bI<|aF m.ag i _ i).length<=_;rw[bE];show bK _
     .subst I
      let#[b,ae,ue]:=zp.NX bk
      let bm:=mF ae
      let Bx:=(jP.mp bk).1
      rw[ub ae]at xD
      cases ue with
      |d3 A ex S=>show a8 Z<|(Ib fd) _ bm
      |@du zq bd el ac c x eO eo A ex S=>
       let#[#[cw,rfl],mz,rfl]:=Xq _ bm eO eo Z;let#[sw,dW,Ig,sn,amC]:=(pr.2 _<|am _ bm).2 cw mz Z;let ake:s.a0 f cw=Y (.aH dW):=by rw[fr];show Ig
       let Bz:f<s.a5:=eR B.hf F.le.a5;let sW:i<s.az:=eR B.ak F.le.az;let vt:=F.le.ad (.a0 f) B.hf (by intro i z;cases z);let#[av,iQ,cV,cl,ca]:=F.bQ.lG Bz ake;rw[vt]at iQ;let vz:=F.bQ.im _ _<|F.le.im _ _ A;let xD:(m.fK i).kf i f r=(s.jc i (s.hU f cw) f mz<|Y x).kf i f (r.drop<|k+1):=xD;rw[ca]at xD;let t1:=ft dW;let pt:=pr.1;show cm (T.t 6 Z) ?_;show#[9,9,9,8,vz,aI,T.n 34 2,Z,_,9,(by have:=g4.k (k:=d2 ((cw:Nat):Int)) iQ;rwa[cV]at this),9,9,8,vz,aI,T.n 34 3,Z,9,8,vz,aI,T.n 34 1,Z,dk (NM.t) af.bH #[(dm,s,i,dW,f,mz,ac,Y x),by show _=[V.ref<|dm.ad<|.ag i,_,V.ref<|dm.ad<|.a0 f,_,_];rw[(F.le.ad (.ag i) B.ak (by intro i z;cases z)),vt];rfl,F.bQ,sW,Bz,cl,da.dt (λa o _ z=>#[trivial,F.le.im a o z]) S,aV,aV,λff ay g2=>?_]];let#[o8,akf]:=g2.fr lp _ Ih vj;show#[_,ff,9,F.bw g2,o8,akf,xD,(aj8 ..).trans fr,λc=>?_,?_]
       .have:=aj9 s i dW f mz (Y x) c;have:=ft c;lia
       .have:=aka s i dW f mz<|Y x;lia
     .subst I;rw[m6,sZ]at xD;rw[xD]at q;show q _ _ F
end Xp
def akg{l:List vy}:bX 207 116 (p2 D ps<|.k5 l):=Xp.t.i5 λ_ _ _ _ #[i,k,d,g,h,e,j,b,f,c,a]=>#[(ps,l,i,k,d,g,h),Z,e,j,b,f,c,a]
def nN.rO:∀ac H Q E,nN D ps x ac H Q E->p2 D ps x ac H Q E:=λ_ _ _ _ #[G,m,i,f,v,a,b,c,d,e,_,q]=>#[G,m,i,f,v,a,b,c,d,e,q]
def N0(h:da D hD H v x):∃a C d bb f,v=.ref a/\H a=Y (.b7 C d bb)/\ku K C/\(c6 K C "begin" f/\bb.lookup ("begin":Str)=U)/\(c6 K C "come_to" (D.f 91)/\bb.lookup ("come_to":Str)=U)/\(c6 K C "come_to_in_list" (D.f 92)/\bb.lookup ("come_to_in_list":Str)=U)/\kR P w b8 K aL fC 207 f ["self","machine","task","frame"] (nN D ps x):=by
 cases h with
 |d3 _ e=>show#[8,e,aI,#[T.ad7,Z],#[T.ad5,Z],#[T.ad6,Z],((ajv).up (k:=207) cn).hK nN.rO]
 |oH _ e=>show#[8,e,aI,#[T.aea,Z],#[T.ad8,Z],#[T.ad9,Z],((ajw).up (k:=207) cn).hK nN.rO]
 |qe _ e=>show#[8,e,aI,#[T.aef,Z],#[T.aed,Z],#[T.aee,Z],((ajx).up (k:=207) cn).hK nN.rO]
 |r7 _ e _=>show#[8,e,aI,#[T.aei,Z],#[T.aeg,Z],#[T.aeh,Z],((ajy).up (k:=207) cn).hK nN.rO]
 |h5 _ e _=>show#[8,e,aI,#[T.aem,Z],#[T.aek,Z],#[T.ael,Z],((ajz).up (k:=207) cn).hK nN.rO]
 |du _ e=>show#[8,e,aI,#[T.aeq,Z],#[T.aeo,Z],#[T.aep,Z],((ajA).up (k:=207) cn).hK nN.rO]
 |l4 _ e _=>show#[8,e,aI,#[T.aeu,Z],#[T.aes,Z],#[T.aet,Z],((ajB).up (k:=207) cn).hK nN.rO]
 |hH _ e _ _ _=>show#[8,e,aI,#[T.aey,Z],#[T.aew,Z],#[T.aex,Z],((aj0).up (k:=207) cn).hK λz z z z q=>q]
 |l5 _ e _ _ _=>show#[8,e,aI,#[T.aeC,Z],#[T.aeA,Z],#[T.aeB,Z],((ajC).up (k:=207) cn).hK nN.rO]
 |h6 _ e _ _=>show#[8,e,aI,#[T.aeF,Z],#[T.aeD,Z],#[T.aeE,Z],((ajG).up (k:=207) cn).hK nN.rO]
 |oI _ e _=>show#[8,e,aI,#[T.aeJ,Z],#[T.aeH,Z],#[T.aeI,Z],((ajH).up (k:=207) cn).hK nN.rO]
 |gl _ e _ _ _=>show#[8,e,aI,#[T.aeN,Z],#[T.aeL,Z],#[T.aeM,Z],((ajK).up (k:=207) cn).hK nN.rO]
 |k5 _ e _ _ _ _=>show#[8,e,aI,#[T.aeR,Z],#[T.aeP,Z],#[T.aeQ,Z],((akg).up (k:=207) cn).hK nN.rO]
def xE(m:aA):aA:={m with fx:=m.fx-1}
noncomputable def zr(ps:List kI)(m:aA)(i f:Nat):kH->Except Int aA
 |.fw []=>.ok m
 |.fw (.gx s::l)=>if m.c3=1000000 then .error (-13)else .ok {(m.eh i (.fw l,f)).hI f s (.cA 0)with c3:=m.c3+1}
 |.fw (.aH s::l)=>if m.a9=1000000 then .error (-13)else .ok {(m.eh i (.fw l,f)).hI f s (.aH m.a9)with a9:=m.a9+1,aH:=aF m.aH m.a9 #[[],[]]}
 |.fw (.cq x::l)=>.ok<|(m.eh i (.fw l,f)).eh i (.cq x,f)
 |.cq x=>if m.fx=0 then .error (-5)else aA.l6 ps (xE m) i f x
def Ii(m:aA)(i f:Nat):kH->Prop
 |.cq x=>m.fx≠0->vu (xE m) i f/\xA (xE m) i f x
 |.fw _=>vu m i f
inductive Et(D:ej)(ps:List kI)(j:kH)(ac:List V)(H:aw)(Q:ck)(E:dG):Prop
 |mk (G:eQ) (m:aA) (i:Nat) (f:Nat) (v:V) (_:ac=[v,.ref<|G.ad .b0,.ref<|G.ad<|.ag i,.ref<|G.ad<|.a0 f]) (_:cO D G H m) (_:rI D G.im v j) (_:Ii m i f j) (_:rM D G ps) (_:m7 D G m H Q E (zr ps m i f j)):Et D ps j ac H Q E
namespace Xr
def bN:List kI×cJ×eQ×aA×Nat×Nat×V->dC:=λ(ps,x,G,m,i,f,v)=>dZ [v,.ref<|G.ad .b0,.ref<|G.ad<|.ag i,.ref<|G.ad<|.a0 f] λH Q E=>cO D G H m/\rI D G.im v (.cq x)/\Ii m i f (.cq x)/\rM D G ps/\m7 D G m H Q E (zr ps m i f<|.cq x)
def W:=dR 91 ["self","machine","task","frame"] (λq=>207) bN
def ps:=W.a
def m:=W.d
def t:=ee W (ps,W.b,W.c,m,W.e,W.f,W.n) W.H W.Q W.E λG l h=>by
 let#[M,i,s,p,q]:=h;generalize W.n=W.n at *;show#[_,aU (ed (d9 lM (bV<|aa 1) cE) (aP<|i4 Z) eP)<|aU (uW (aa 1) cE R1)<|aP<|cU<|c4 aQ (aa 0)<|fX (aa 1)<|cH (aa 2)<|aa 3,?_];let i:da D hD W.c.im W.n W.b:=i;let#[y,hm]:=M.b0;show#[9,8,hm,aI,T.n 4 1,Z,Z,9,?_];rw[show(0:Int)=((0:Nat):Int)from Z,xt];unfold zr at q;dsimp only at q;by_cases z:m.fx=0
 .rw[gv z];rw[aR z]at q;show dw<|agx.iB l.bH q
 .rw[i9 z]
  rw[aM z]at q
  let#[B,r]:=s z
  show di #[9,8,hm,aI,T.n 4 1,Z,_,9,Z,7,hm,fE,?_]
  let j:=WJ (y:=y) M (m.fx-1) m.d4 ((m.fx:Int)-1) _ aV Z
  let#[a,C,d,bb,v,rfl,u,cl,#[x,w],V,V,ae]:=N0 (ps:=ps)<|da.dt (λa o V z=>#[trivial,j.bQ.im a o z]) i
  show#[9,a,C,d,bb,v,Z,u,cl,x,w,9,9,9,207,7,#[ae],l,W.c,xE m,W.e,W.f,9,j.bQ,i,B,r,p,?_]
  cases k:aA.l6 ps (xE m) W.e W.f W.b with
  |error e=>rwa[k]at q
  |ok F=>rw[k]at q;show λI A g=>q _ _<|j.bw g
end Xr
def akh:bX 208 91 (Et D ps<|.cq x):=Xr.t.i5 λ_ _ _ _ #[i,k,d,g,h,e,j,b,f,c,a]=>#[(ps,x,i,k,d,g,h),Z,e,j,b,f,c,a]
def aki:bX 1 92 (λac H Q z=>∃G m i f v,ac=[v,.ref<|G.ad .b0,.ref<|G.ad<|.ag i,.ref<|G.ad<|.a0 f]/\cO D G H m/\da D hD G.im v x/\i<m.az/\f<m.a5/\(m.ag i).a6.length<=5001/\∀b4 a,Go D G m H b4 (m.eh i (.cq x,f)) a->Q .bB a):=by
 show ek 92 ["self","machine","task","frame"] λo A bc l H ac Q E s t h=>?_;let#[G,m,i,f,v,rfl,M,k,ak,e,w,q]:=h;show#[_,aP<|cU<|iP cf cv fo jm (bV<|aa 2)<|bo<|ll<|cH (aa 0)<|aa 3,?_];let#[dp,c]:=M.ag ak;let#[r,b,z]:=M.a6 ak;let big:5000000<sizeLine:=by decide
 show#[9,8,c,aI,T.n 3 2,Z,.inl #[Z,_,bM.of b],9,9,by show 2<=sizeLine;decide,λp aC=>?_];let#[ac,d,u,g]:=t6 (i:=i) (f:=f) (j:=.cq x) M ak e k aC;show#[7,9,Z,d,aV,q _ _ g]
namespace Xs
def bN:Ho.eQ×Ho.aA×Nat×Nat×ao×ao×Nat->dC:=λ(G,m,i,f,a,d,s)=>dZ [.ref a,.ref<|G.ad .b0,.ref<|G.ad<|.ag i,.ref<|G.ad<|.a0 f] λH Q E=>H a=Y (.b7 (D.c 16) d [("slot",.int (s:Nat))])/\cO D G H m/\f<m.a5/\lI m/\(m.c3=1000000->gd E (-13))/\(m.c3≠1000000->∀b,Go D G m H G {m.hI f s (.cA 0)with c3:=m.c3+1} b->Q .bB b)
def W:=dR 87 ["self","machine","task","frame"] (λq=>4) bN
def t:=fj W (W.a,W.b,W.c,W.d,W.e,W.f,W.n) W.H W.Q W.E λp l h=>by let#[e,M,i,L,m,j]:=h;show#[_,aP<|cU<|c4 aQ (aa 1)<|fX (aa 3)<|cH (bV<|aa 0) cE,?_];let#[y,hm]:=M.b0;let#[av,k,q]:=M.a0 i;show#[9,8,hm,aI,T.Ug,Z,9,9,8,e,aI,T.n 16 0,Z,4,7,#[Nx.t],l,(W.a,W.b,W.d,W.n,0,av),Z,M,i,k,#[cn,cn],L,m,λz o g q=>j z o g]
end Xs
namespace Xt
def bN:Ho.eQ×Ho.aA×Nat×Nat×ao×ao×Nat->dC:=λ(G,m,i,f,a,d,s)=>dZ [.ref a,.ref<|G.ad .b0,.ref<|G.ad<|.ag i,.ref<|G.ad<|.a0 f] λH Q E=>H a=Y (.b7 (D.c 17) d [("slot",.int (s:Nat))])/\cO D G H m/\f<m.a5/\lI m/\(m.a9=1000000->gd E (-13))/\(m.a9≠1000000->∀e b,Go D G m H e {m.hI f s (.aH m.a9)with a9:=m.a9+1,aH:=aF m.aH m.a9 #[[],[]]} b->Q .bB b)
def W:=dR 89 ["self","machine","task","frame"] (λq=>4) bN
def t:=fj W (W.a,W.b,W.c,W.d,W.e,W.f,W.n) W.H W.Q W.E λl j h=>by let#[e,M,g,L,k,i]:=h;show#[_,aP<|cU<|c4 aQ (aa 1)<|cH (aa 3)<|bV<|aa 0,?_];let#[y,hm]:=M.b0;show#[9,8,hm,aI,T.adA,Z,9,9,8,e,aI,T.n 17 0,Z,4,7,#[WP.t],j,(W.a,W.b,W.d,W.n),Z,M,g,L,k,i]
end Xt
def akj:bX 1 83 (Et D ps<|.fw []):=by show ek 83 ["self","machine","task","frame"] λe A bc a H ac Q E c g h=>?_;let#[G,m,i,f,v,rfl,M,d,j,b,q]:=h;show#[_,aP<|Kr,q _ _<|Go.hW M]
namespace Xu
def bN:List kI×ja×List ja×eQ×aA×Nat×Nat×V->dC:=λ(ps,x,l,G,m,i,f,v)=>dZ [v,.ref<|G.ad .b0,.ref<|G.ad<|.ag i,.ref<|G.ad<|.a0 f] λH Q E=>cO D G H m/\rI D G.im v (.fw (x::l))/\Ii m i f (.fw (x::l))/\rM D G ps/\m7 D G m H Q E (zr ps m i f<|.fw (x::l))
def W:=dR 85 ["self","machine","task","frame"] (λq=>5) bN
def ps:=W.a
def x:=W.b
def l:=W.c
def G:=W.d
def m:=W.e
def i:=W.f
def f:=W.g
def t:=ee W (ps,x,l,G,m,i,f,W.o) W.H W.Q W.E λaG v h=>by
 let#[M,e,B,ef,q]:=h
 generalize x=x at*
 let B:vu m i f:=B
 show#[_,aU (cU<|iP cf cv fo jm (bV<|aa 2)<|bo<|ll<|cH (bV<|aa 0)<|aa 3)<|aP<|cU<|c4 aQ (bV<|aa 0)<|fX (aa 1)<|cH (aa 2)<|aa 3,?_]
 let e:ly D hD G.im W.o (x::l):=e
 generalize ev:W.o=v0 at e
 cases e with
 |@cB a d v1 A _ _ _ F P V=>
  let N:=M.im _ _ F
  let#[dp,R]:=M.ag B.ak
  let#[vs,oy,_]:=M.a6 B.ak
  let big:5000000<sizeLine:=by decide
  let ip:=B.ip
  show#[9,8,R,aI,T.n 3 2,Z,.inl #[Z,_,bM.of oy],9,8,N,aI,T.n 15 1,Z,9,by show 2<=sizeLine;decide,λp aC=>?_]
  let#[ac,iG,lA,g]:=t6 (i:=i) (f:=f) (j:=.fw l) M B.ak B.hf V aC
  show#[7,9,Z,iG,aV,?_]
  let r:=g.bQ.im _ _<|g.le.im _ _ F
  unfold zr at q
  cases P with
  |@gx C k s _ b=>
   dsimp only at q;show#[9,8,r,aI,T.n 15 0,Z,8,g.bQ.im _ _<|g.le.im _ _ b,aI,T.ad1,Z,9,9,9,5,7,#[Xs.t],v,({G with im:=aE G.im p (.cu [A,.ref<|G.ad<|.a0 f])},m.eh i (.fw l,f),i,f,C,k,s),Z,g.bQ.im _ _<|g.le.im _ _ b,g.bQ,B.hf,B.L,λz=>?_,λz I c=>?_]
   .let z:m.c3=1000000:=z;rwa[aR z]at q
   .let z:m.c3≠1000000:=z;rw[aM z]at q;show q _ _<|g.bw c
  |@aH C k s _ b=>
   dsimp only at q;show#[9,8,r,aI,T.n 15 0,Z,8,g.bQ.im _ _<|g.le.im _ _ b,aI,T.ad3,Z,9,9,9,5,7,#[Xt.t],v,({G with im:=aE G.im p (.cu [A,.ref<|G.ad<|.a0 f])},m.eh i (.fw l,f),i,f,C,k,s),Z,g.bQ.im _ _<|g.le.im _ _ b,g.bQ,B.hf,B.L,λz=>?_,λz b4 I c=>?_]
   .let z:m.a9=1000000:=z;rwa[aR z]at q
   .let z:m.a9≠1000000:=z;rw[aM z]at q;show q _ _<|g.bw c
  |@cq _ xs K=>dsimp only at q;let#[a2,y,o0,u,S,rfl,bf,cl,_,_,#[w,X],_]:=N0 (ps:=ps) K;show#[9,8,r,aI,T.n 15 0,Z,a2,y,o0,u,9,g.bQ.im _ _<|g.le.im _ _ bf,cl,w,X,9,9,9,1,7,#[aki],v.bH,{G with im:=aE G.im p (.cu [A,.ref<|G.ad<|.a0 f])},m.eh i (.fw l,f),i,f,9,g.bQ,da.dt (λa o _ z=>#[trivial,g.le.im a o z]) K,B.ak,B.hf,?_,λb4 I c=>q _ _<|g.bw c];show(fG.a6<|aF m.ag i _ i).length<=_;rw[bE];show(m.ag i).a6.length+1<=_;lia
end Xu
def akn:bX 6 85 (Et D ps<|.fw (x::l)):=Xu.t.i5 λ_ _ _ _ #[i,k,d,g,h,e,j,b,f,c,a]=>#[(ps,x,l,i,k,d,g,h),Z,e,j,b,f,c,a]
def ako(h:rI D H v j):∃a C d bb f,v=.ref a/\H a=Y (.b7 C d bb)/\ku K C/\c6 K C "come_to" f/\bb.lookup ("come_to":Str)=U/\kR P w b8 K aL fC 208 f ["self","machine","task","frame"] (Et D ps j):=by
 cases j with
 |cq x=>let#[a,C,d,bb,n,g,b,i,q,#[c,m],q,q]:=N0 (ps:=ps)<|show da D hD H v x from h;show#[a,C,d,bb,_,g,b,i,c,m,akh]
 |fw l=>
  let h:ly D hD H v l:=h
  cases h with
  |dg _ e=>show#[8,e,aI,T.adW,Z,(akj).up (k:=208) cn]
  |cB _ e _ _=>show#[8,e,aI,T.adZ,Z,(akn).up (k:=208) cn]
end Ho
namespace Ho
open Sn24
def Xw(a:∀y s,sc.of J y=Y s->∃n,fr s=Y n)(h:ke sc e x):pe fr x:=by apply ke.rec (motive_1:=λq x q=>pe fr x) (motive_2:=λq m q=>pe.HW fr m) (t:=h)<;>intros<;>first|trivial|show a _ _ ‹_›|assumption|show#[‹_›,‹_›]
section
variable {g:kg}{s:St}{m:aA}{i:Nat}{row:List Nat}{e:Env}{aT:List Job}{ts:List (kH×Nat)}{p:fh}{d5:List fh}
def At.Ij(a:At g s m i row e aT ts p d5)(h:p.sc.of J y=Y k):∃n,m.a0 p.f k=Y (.cA n):=by let#[c,q,b]:=a.dL.gx h;show#[_,a.r.ki _ _ _ b]
def At.N3(a:At g s m i row e aT ts p d5)(h:p.sc.of O y=Y k):∃c,m.a0 p.f k=Y (.aH c)/\c<m.a9:=by let#[c,q,b]:=a.dL.aH h;show#[c,a.r.ki _ _ _ b,(a.r.jX _ _ _ b).2]
def At.BB(a:At g s m i row e aT ts p d5)(h:lD p.sc v x):qU m p.f x:=by show#[h.2.2,Xw (λy k c=>?_) h.1];let#[n,b]:=a.Ij c;show#[n,by unfold aA.cA;rw[b]]
end
theorem N4:∀{n:Nat}{l:List Nat},l.Nodup->(∀i∈l,i<n)->z9 l<=n
 |0,l,_,h=>by
  cases l with
  |nil=>show bK _
  |cons a r=>show a8 (h a<|fD ..)<|p5 _
 |n+1,l,b,h=>by
  let d:=N4 (n:=n) (l:=l.erase n) (b.erase n) λi ak=>by let#[e,c]:=b.mem_erase_iff.mp ak;have:=h i c;lia
  have:=List.length_erase (a:=n) (l:=l);split at this<;>lia
def Xx(f:α->Option β)(l:List α):(l.filterMap f).length<=z9 l:=List.length_filterMap_le f l
def akp(l:List Nat):(rh l).Nodup:=by
 let d:∀(l e:List Nat),e.Nodup->(l.foldl uJ e).Nodup:=λl=>by
  induction l with
  |nil=>show λq h=>h
  |cons c l f=>
   intro e h;show f _ ?_;unfold uJ;split
   .show h
   .rename_i z;show vT.mpr #[h,bg,λa g b ae=>by rw[gX.mp ae];show λw=>z<|w▸g]
 show d l [] Jn
structure e8(m:aA):Prop where
 az:m.az<=4096
 cg:z9 m.cg<=1048576
 ip:∀j,(m.ag j).a6.length<=if (m.ag j).cp=O then 513 else 512
section
variable {g:kg}{T:Nat->Task}{s:St}
def R.akq(h:R g T s m):z9 s.ready<=m.az:=N4 h.gD λi ak=>(h.ij i ak).1
def R.Xy(h:R g T s m):z9 s.waiting<=m.az:=N4 h.l8 λi ak=>((h.hh i).mp ak).1
def R.akr(h:R g T s m)(c:Nat):(m.aH c).ep.length<=m.az:=by rw[h.jW c];show dK (Xx _ _) h.Xy
def R.aks(h:R g T s m)(c:Nat):(m.aH c).dn.length<=m.az:=by rw[h.kh c];show dK (Xx _ _) h.Xy
def R.akt(h:R g T s m)(c:Nat):H5 m c:=λj v r e u a=>by have:=h.jW c;rw[e]at this;show J8 (λq q=>wg) h.l8 this.symm u a
def R.aku(h:R g T s m)(z:e8 m)(E:(T i).now=.ready)(y:c<m.a9):NH m i c:=by
 let az:=z.az;show#[λe x=>?_,dK (h.akr c) aV,λj f a st r e=>?_]
 .rw[h.jW c]at x;let#[C,W]:=uL (λW W=>wg) x;intro w;have:=((h.hh e.1).mp C).2;rw[w,E]at this;cases this
 .let#[l,v,k,K]:=h.FR y e
  let F:=((h.hh j).mp v).1
  let t:=z.ip j
  cases h.ag j F with
  |cp q=>cases k▸q
  |ni q=>cases k▸q
  |k6 q=>cases k▸q
  |l7 q=>cases k▸q
  |d4 q=>cases k▸q
  |@bI N p L Q H A I P M u=>
   show#[#[by rw[u];show akp _,λd n=>?_],?_,by rw[A]at t;simp at t;lia]
   .rw[u]at n;let n:=FQ.mp n;let#[b,ae,o]:=s6.mp n;let bb:((g.es j).find? λb=>b.1==d).isSome=true:=List.find?_isSome.mpr #[b,ae,by simp[o]];let#[D,B]:=B3.mp bb;rw[h.kh d];show E1.mpr #[(j,D.2),EZ.mpr #[j,v,?_],bg];unfold hg;rw[k];simp[B]
   .let#[G,cv,W,W,W,hm,W]:=h.QD y e;rw[h.ki _ _ _ hm];rfl
end
section
variable {g:kg}{s:St}{m:aA}{i:Nat}{row:List Nat}{e:Env}{aT:List Job}{ts:List (kH×Nat)}{p:fh}{d5:List fh}
def At.Xz(a:At g s m i row e aT ts p d5)(z:e8 m)(h1:p.sc.of O y=Y c)(j:p.sc.of J x=Y k):NN m i p.f c k:=by let#[n,h]:=a.Ij j;let#[d,b,q]:=a.N3 h1;have:=z.az;show#[by rw[h];rfl,d,b,a.r.akt d,dK (a.r.aks d) aV]
end
def qg.N5:∀{l:List Expr}{xs:List ba},qg sc l xs->∀x∈xs,∃e,ke sc e x/\eJ x<=201:=by
 intro l xs h
 induction xs generalizing l with
 |nil=>intro x k;cases k
 |cons _ _ d=>
  cases h with
  |cB a b c=>
   intro x k;obtain rfl|k:=eG.mp k
   .show#[_,a,b.2]
   .show d c x k
def qh.N5:∀{n n':Nat}{l:List (Option Expr×pn×Stmt)}{xs:List (ba×hG×cJ)},qh sc n l xs n'->∀b∈xs,(b.1=.cA 1\/∃e,lD sc e b.1)/\∃g,Cu sc g b.2.1:=by
 intro n n' l xs h
 induction xs generalizing n l with
 |nil=>intro x k;cases k
 |cons _ _ c=>
  cases h with
  |cB a d _ r=>
   intro x k;obtain rfl|k:=eG.mp k
   .show#[?_,_,d];split at a
    .show .inl a
    .show .inr #[_,a]
   .show c r x k
section
variable {g:kg}{s:St}{m:aA}{i:Nat}{row:List Nat}{e:Env}{aT:List Job}{ts:List (kH×Nat)}{p:fh}{d5:List fh}
def At.akw(a:At g s m i row e aT ts p d5)(z:e8 m)(h:gM p.sc n t x n'):xA (xE<|m.bR i ts) i p.f x:=by
 let#[ak,M,sf,S,_]:=a.r.mO a.bG
 let K:((xE<|m.bR i ts).ag i).bI=[]:=by show fG.bI (aF m.ag i _ i)=_;rwa[bE]
 cases h with
 |gm o u=>let#[v,G]:=a.Ij o;show#[by show(m.a0 p.f _).isSome=O;rw[G];rfl,a.BB u]
 |h5 o u=>
  let#[d,B,dl]:=a.N3 o;let E:=a.r.aku z M dl;show#[a.BB u,d,B,E.g6,E.ls,λj f q st r e=>?_];let#[I,R,V]:=E.a3 j f q st r e;let T:j≠i:=λw=>by let#[l,hw,H,_]:=a.r.FR dl e;rw[w,M]at H;cases H
  let D:(xE<|m.bR i ts).ag j=m.ag j:=bC _ _ T;show#[#[by rw[D];show I.aG,by rw[D];show I.i5],R,by rwa[D]]
 |du o u=>show#[a.Xz z o u,by rw[K];show hQ _]
 |l4 o=>show a.BB o
 |hH o=>
  intro x X;let#[Q,L,P]:=o.N5 x X;show#[#[P,Xw (λy k C=>?_) L],λk C=>?_]
  .let#[v,G]:=a.Ij C;show#[v,by show(match m.a0 p.f k with|some (.cA v)=>Y v|_=>U)=Y v;rw[G]]
  .subst C
   cases L with
   |jS h=>let#[d,B,_]:=a.N3 h;show#[d,B]
 |l5 o _ _=>show a.BB o
 |h6 o _=>show a.BB o
 |k5 o=>
  show#[by rw[K];show hQ _,λb ae=>?_];let#[W,N,A]:=o.N5 b ae;show#[?_,λc y F=>?_]
  .obtain w|⟨Q,w⟩:=W
   .rw[w];show#[cn,trivial]
   .show a.BB w
  .rw[F]at A
   cases N with
   |nothing=>cases A
   |from_ cw gr=>show a.Xz z A.1 A.2
 |_=>trivial
def R.XA{T:Nat->Task}(h:R g T s m)(a:s.ready=i::row)(z:e8 m):z9 row<=4096:=by have:=h.akq;rw[a]at this;have:=z.az;simp at *;lia
def aky(h:R g s.task s m)(c:s.ready=i::row)(k:m.b5=row)(L:lI m)(z:e8 m)(q:(m.ag i).a6=(j,f)::ts):Ii (m.bR i ts) i f j:=by
 let#[ak,F,v,C,d]:=h.mO c
 let A:=h.XA c z
 let o:=z.ip i
 rw[v,aR Z,q]at o
 let ft:z9 ts<=5000:=by simp at o;lia
 let tt:((m.bR i ts).ag i).a6=ts:=by show fG.a6 (aF m.ag i _ i)=_;rw[bE]
 rw[q]at d
 generalize E:(s.task i).jobs=G at d
 generalize r:g.bW i=bb at d
 cases d with
 |@cB y t p aT ts d5 w u=>
  cases w with
  |@cq st e x p n b=>intro B;let a:At g s m i row e aT ts p d5:=#[h,c,k,r,n,u];show#[#[ak,a.ye,L,by show z9 m.b5<=5000;rw[k];lia,z.cg,by show((m.bR i ts).ag i).a6.length<=5000;rw[tt];show ft],a.akw z b]
  |@x2 l e D p n b=>have a:At g s m i row e aT ts p d5:=#[h,c,k,r,n,u];show#[ak,a.ye,L,by show z9 m.b5<=5000;rw[k];lia,z.cg,by rw[tt];show ft]
end
def nP(t:fG):Prop:=z9 t.a6<=if t.cp=O then 513 else 512
def nP.le(h:nP t):z9 t.a6<=513:=by unfold nP at h;split at h<;>lia
def nP.of(h:z9 t.a6<=512):nP t:=by unfold nP;split<;>lia
def nP.bG(r:t.cp=O)(h:z9 t.a6<=513):nP t:=by unfold nP;rwa[aR r]
def rP(h:∀j,nP (f j))(a:nP t):∀j,nP (aF f i t j):=λj=>by
 by_cases e:j=i
 .rw[e,bE];show a
 .rw[bC _ _ e];show h j
def e8.rQ(a:m.az<=4096)(b:z9 m.cg<=1048576)(c:∀j,nP (m.ag j)):e8 m:=#[a,b,c]
def e8.dv(z:e8 m):∀j,nP (m.ag j):=z.ip
def e8.lR(z:e8 m)(a:nP t):e8 (m.dU i t):=.rQ z.az z.cg<|rP z.dv a
theorem e8.eh(z:e8 m)(h:(m.ag i).a6.length<=511):e8 (m.eh i j):=z.lR (.of (by show(m.ag i).a6.length+1<=512;lia))
def e8.cp(z:e8 m)(j:Nat):e8 (m.oK j):=.rQ z.az z.cg<|rP z.dv<|.bG Z (z.dv j).le
theorem e8.fK(z:e8 m)(h:(m.ag i).a6.length<=511):e8 (m.fK i):=z.lR (.of (by show(m.ag i).a6.length<=512;lia))
theorem e8.hJ(z:e8 m)(h:m.hJ c f s=Y aO):e8 aO:=by
 unfold aA.hJ at h;split at h
 .cases h
 .cases h;show .rQ z.az z.cg<|rP z.dv<|.bG Z (z.dv _).le
theorem e8.jc(z:e8 m)(h:(m.ag i).a6.length<=511)(c f s:Nat)(st:Option cJ):e8 (m.jc i c f s st)/\((m.jc i c f s st).ag i).a6.length<=511:=by
 let e:((m.fK i).ag i).a6=(m.ag i).a6:=by show fG.a6 (aF m.ag i _ i)=_;rw[bE]
 let a:=z.fK h;unfold aA.jc;dsimp only;split
 .show#[a,by rwa[e]]
 .show#[.rQ a.az a.cg<|rP a.dv<|.of ?_,?_]
  .show((m.fK i).ag i).a6.length<=512;rw[e];lia
  .show(fG.a6<|aF _ i _ i).length<=511;rw[bE];show((m.fK i).ag i).a6.length<=511;rwa[e]
theorem e8.kf(f:Nat):∀(l:List vy) {m:aA},e8 m->(m.ag i).a6.length<=511->e8 (m.kf i f l)
 |[],m,z,_=>z
 |(_,.d3,_)::l,m,z,h=>by unfold aA.kf;show e8.kf f l z h
 |(_,.du U _,_)::l,m,z,h=>by unfold aA.kf;show e8.kf f l z h
 |(_,.du (Y _) U,_)::l,m,z,h=>by unfold aA.kf;show e8.kf f l z h
 |(_,.du (Y c)<|Y y,x)::l,m,z,h=>by unfold aA.kf;let#[b,a]:=z.jc h (m.hU f c) f y<|Y x;show e8.kf f l b a
theorem e8.hV(z:e8 m):∀{l:List vy}{r:aA×cJ},m.hV f l=Y r->e8 r.1/\(r.1.ag i).a6=(m.ag i).a6
 |[],r,h=>by cases h
 |(_,.d3,x)::l,r,h=>by let h:Y (m,x)=Y r:=h;cases h;show#[z,Z]
 |(_,.du U _,_)::l,r,h=>by unfold aA.hV at h;show e8.hV z (l:=l) h
 |(_,.du (Y _) U,_)::l,r,h=>by unfold aA.hV at h;show e8.hV z (l:=l) h
 |(_,.du (Y c)<|Y y,x)::l,r,h=>by
  unfold aA.hV at h;split at h
  .rename_i a e;cases h;show#[z.hJ e,Xo e]
  .show e8.hV z (l:=l) h
theorem N6:∀(b:List Bool) (as:List ba) {m:aA}{k:Nat}{fr:jw}{r:aA×jw},m.ih f k b as fr=.ok r->r.1.ag=m.ag/\r.1.az=m.az/\r.1.cg=m.cg
 |[],_,m,k,fr,r,h=>by unfold aA.ih at h;cases h;show#[Z,Z,Z]
 |true::b,[],m,k,fr,r,h=>by unfold aA.ih at h;cases h;show#[Z,Z,Z]
 |false::b,[],m,k,fr,r,h=>by unfold aA.ih at h;cases h;show#[Z,Z,Z]
 |true::b,a::as,m,k,fr,r,h=>by
  unfold aA.ih at h;split at h
  .split at h
   .show N6 b as h
   .cases h
  .cases h
 |false::b,a::as,m,k,fr,r,h=>by
  unfold aA.ih at h;let#[v,q,h]:=yn h;split at h
  .cases h
  .show N6 (m:={m with c3:=m.c3+1}) b as h
set_option tactic.hygienic true in
def akz(z:e8 m)(d:(m.ag i).a6.length<=511)(bG:(m.ag i).cp=O)(a3:∀c j f s st r,(m.aH c).dn=(j,f,s,st)::r->(m.ag j).cp=J)(h:aA.l6 ps m i f x=.ok aO):e8 aO:=by
 cases x with
 |d3=>cases h;show z
 |oH=>cases h;show z.fK d
 |qe=>cases h
 |r7 s e=>let#[v,W,rfl]:=wt h;show#[z.az,z.cg,z.ip]
 |h5 c e=>
  let#[v,W,rfl]:=wt h;unfold aA.h5;split
  .show .rQ z.az z.cg (rP z.dv<|.of (by show(m.ag i).a6.length<=512;lia))
  .rename_i j t q st r e
   let o:=a3 _ j t q st r e
   let B:(m.ag j).a6.length<=512:=by have:=z.ip j;rw[o]at this;simpa using this
   dsimp only
   let p:e8 ((m.Cv j).hI t q<|.cA v):=.rQ z.az z.cg<|rP z.dv<|.of B
   cases st with
   |none=>show p.cp j
   |some x=>
    show .rQ z.az z.cg λk=>?_;by_cases e:k=j
    .subst e;show nP (aF (aF (aF m.ag k _) k _) k _ k);rw[bE];show .bG Z ?_;show(fG.a6<|aF (aF m.ag k _) k _ k).length<=513;rw[bE];show(fG.a6<|aF m.ag k _ k).length+1<=513;rw[bE];show(m.ag k).a6.length+1<=513;lia
    .show nP (aF (aF (aF m.ag j _) j _) j _ k);rw[bC _ _ e,bC _ _ e,bC _ _ e];show z.dv k
 |du c y=>
  unfold aA.l6 at h;dsimp only at h;split at h
  .rename_i e;cases h;show z.hJ e
  .cases h;show(z.jc d _ _ _ _).1
 |l4 e=>
  let#[v,W,h]:=yn h;split at h
  .cases h
  .rename_i w;cases h;show#[z.az,by show(m.cg++_).length<=_;rw[ju];lia,z.ip]
 |hH g as=>
  unfold aA.l6 at h;dsimp only at h;split at h
  .cases h
  .let#[r,C,h]:=yn h;let#[n,u,A]:=N6 _ _ C;split at h
   .cases h
   .cases h;show .rQ (by show r.1.az<=_;rw[u];show z.az) (by show z9 r.1.cg<=_;rw[A];show z.cg) (rP (by rw[n];show z.dv)<|.of ?_);show(r.1.ag i).a6.length+1<=512;rw[n];lia
 |l5 c a b=>let#[v,W,rfl]:=wt h;show z.eh d
 |h6 c a=>
  let#[v,W,rfl]:=wt h;split
  .show .rQ z.az z.cg (rP (rP z.dv<|.of (by show(m.ag i).a6.length+1<=512;lia))<|.bG ?_ ?_)
   .show fG.cp (aF m.ag i _ i)=O;rw[bE];show bG
   .show(fG.a6<|aF m.ag i _ i).length+1<=513;rw[bE];show(m.ag i).a6.length+1+1<=513;lia
  .show z
 |oI l=>cases h;show z.eh d
 |gl l=>
  unfold aA.l6 at h;dsimp only at h;split at h
  .cases h;show z
  .split at h
   .cases h
   .rename_i w;cases h;show .rQ (by show m.az+z9 l<=4096;lia) z.cg (rP (λk=>?_)<|.of (by show(m.ag i).a6.length<=512;lia));unfold aA.uF;split
    .show z.dv k
    .split
     .show .of (by show 1<=512;decide)
     .show z.dv k
 |k5 l=>
  let#[r,W,h]:=yn h;split at h
  .cases h
  .split at h
   .rename_i e;cases h;let#[p,n]:=z.hV (i:=i) e;show p.eh (by rwa[n])
   .cases h;show(z.fK d).kf f r ?_;show(fG.a6<|aF m.ag i _ i).length<=511;rwa[bE]
set_option tactic.hygienic true in
def akB(h:R g s.task s m)(A:s.ready=i::row)(z:e8 m)(a:aA.th ps m i=.ok aO):e8 aO:=by
 let#[ak,C,v,E,W]:=h.mO A;unfold aA.th at a;split at a
 .cases a
 .rename_i le;split at a
  .cases a;show z
  .rename_i j f aT u;let t:z9 aT<=511:=by rw[u]at le;simp at le;lia
   dsimp only at a;let k:e8 (m.dU i {m.ag i with a6:=aT}):=z.lR (.of (by show z9 aT<=512;lia));let n:((m.dU i {m.ag i with a6:=aT}).ag i).a6.length<=511:=by show(fG.a6<|aF m.ag i _ i).length<=511;rwa[bE]
   let o:((m.dU i {m.ag i with a6:=aT}).ag i).cp=true:=by show fG.cp (aF m.ag i _ i)=O;rwa[bE]
   let b:∀l,e8 ((m.dU i {m.ag i with a6:=aT}).eh i (.fw l,f)):=λl=>k.eh n;split at a
   .cases a;show k
   .rename_i p l;split at a
    .cases a
    .cases a;show#[(b l).az,(b l).cg,(b l).ip]
   .rename_i p l;split at a
    .cases a
    .cases a;show#[(b l).az,(b l).cg,(b l).ip]
   .rename_i x l;cases a;show .rQ z.az z.cg (rP (b l).dv<|.bG ?_ ?_)
    .show fG.cp (aF _ i _ i)=O;rwa[bE]
    .show(fG.a6<|aF _ i _ i).length+1<=513;rw[bE];show(fG.a6<|(m.dU i {m.ag i with a6:=aT}).ag i).length+1+1<=513;lia
   .rename_i x;split at a
    .cases a
    .show akz (m:={m.dU i {m.ag i with a6:=aT}with fx:=m.fx-1}) #[k.az,k.cg,k.ip] n o (λc j f s st r e=>?_) a;let e:(m.aH c).dn=(j,f,s,st)::r:=e;by_cases cl:c<m.a9
     .let#[l,y,d,W]:=h.FR cl e
      let B:j≠i:=λw=>by rw[w,C]at d;cases d
      let D:=((h.hh j).mp y).1
      show fG.cp (aF m.ag i _ j)=J
      rw[bC _ _ B]
      cases h.ag j D with
      |cp q=>cases d▸q
      |ni q=>cases d▸q
      |k6 q=>cases d▸q
      |l7 q=>cases d▸q
      |d4 q=>cases d▸q
      |bI _ q=>show q
     .cases (h.eT c aV)▸e
set_option tactic.hygienic true in
def akC(z:e8 m):e8 (m.nf i):=by
 unfold aA.nf;dsimp only;split
 .show#[z.az,z.cg,z.ip]
 .rename_i p e;let a:e8 (aA.dU {m with d4:=m.d4+1} p {m.ag p with ey:=(m.ag p).ey-1}):=.rQ z.az z.cg<|rP z.dv<|z.dv p;split
  .show a.cp p
  .show a
end Ho
namespace Ho
open PySem PySem.Spec PyProof.Rows L2 PySem.Builtin.ObjectAttr
open Sn24(Bytes ascii Bad digit letter Proc)
structure xF(ps:List h3)(hi:List kI)(D:ej)(G:eQ)(H:aw)(m:aA)(g:kg)(s:vO)(n:Nat)(r:Except Bad (vO×EV)):Prop where
 M:cO D G H m
 R:Ho.R g s.task s m
 L:lI m
 z:e8 m
 ef:rM D G hi
 hH:uo ps n s=Y r
def XB(h:uo ps (n+1) s=Y r):(match EU ps s with|.error b=>Y (.error b)|.ok (.inl s)=>uo ps n s|.ok (.inr e)=>Y<|.ok (s,e))=Y r:=h
def XC(le:¬512<(m.ag i).a6.length)(b:(m.ag i).a6=(j,f)::ts):aA.th hi m i=zr hi (m.bR i ts) i f j:=by
 unfold aA.th
 rw[aM le]
 rw[b]
 dsimp only
 cases j with
 |cq x=>rfl
 |fw l=>
  cases l with
  |nil=>rfl
  |cons a l=>cases a<;>rfl
def R.akD(h:R g s.task s m)(e:s.ready=i::row):∀p,(m.ag i).hp=Y p->1<=(m.ag p).ey:=λp aC=>by
 let#[ak,f]:=h.ij i (by rw[e];show fD ..)
 let d:(s.task i).parent=Y p:=by rw[<-h.gl i ak];show aC
 let no:hb (s.task i).now=false:=by rw[f];rfl
 let#[n,c]:=h.jf i ak no p d
 let pl:p<m.az:=nU (h.iI.lt _ _ d) ak
 let b1:=h.jx p n pl c
 let j:1<=n:=by rw[b1];unfold gZ;show List.length_pos_of_mem (a:=i)<|vW.mpr #[nc.mpr ak,?_];rw[d,no];simp
 cases h.ag p pl with
 |k6 a _ _ b=>cases c▸a;lia
 |cp a=>cases c▸a
 |ni a=>cases c▸a
 |bI a=>cases c▸a
 |l7 a=>cases c▸a
 |d4 a=>cases c▸a
namespace XD
def bN:List h3×List kI×eQ×aA×Nat×kg×vO×Nat×List Nat×Except Sn24.Bad (vO×EV)->dC:=λ(ps,hi,G,m,i,g,s,n,a,r)=>dZ [.ref<|G.ad .b0,.ref<|G.ad<|.ag i] λH Q E=>dE pE ps hi/\xF ps hi D G H m g s n r/\s.ready=i::a/\m.b5=a/\DI E r/\
  ∀f b c h d e,e<n->Go D G m H f c b->xF ps hi D f b c h d e r->c.b5=d.ready->Q .bB b
def W:=dR 20 ["self","task","things","thing"] (λq=>208) bN
def ps:=W.a
def hi:=W.b
def G:=W.c
def m:=W.d
def i:=W.e
def n:=W.h
def b5:=W.x.2.2.2.2.2.2.2.2.1
def r:=W.x.2.2.2.2.2.2.2.2.2
def t:=ee W (ps,hi,G,m,i,W.f,W.g,n,b5,r) W.H W.Q W.E λaG af h=>by
 let#[k8,I,sf,kK,mC,q]:=h
 generalize r=r at*
 show#[_,aU (dr 2 aG<|bV<|aa 1)<|aU (pL i2 (iz<|aa 2)<|aU (ed (d9 tA (j5 mY Z lr mD<|bo<|aa 2) ea) (aP<|i4 Z) eP)<|aU (dr 3 aG<|Sn Cd Cf JC Ss<|aa 2)<|aU (cU<|c4 aQ (iA (aa 3) cE)<|fX (aa 0)<|cH (aa 1)<|iA (aa 3) cE)<|aP<|ed (qq<|iz<|bV<|aa 1) (aP<|Kt) eP)<|aP<|cU<|c4 aQ (aa 0)<|bo<|aa 1,?_]
 let#[ak,_,_,_,_]:=I.R.mO sf
 let#[dp,bz]:=I.M.ag ak
 let big:5000000<sizeLine:=by decide
 show#[9,8,bz,aI,T.n 3 2,Z,#[λk σ H1=>∃p d g1 s X e,σ=[Y<|.ref<|G.ad .b0,Y<|.ref<|G.ad<|.ag i,Y<|.ref<|G.ad<|.a6 i,e]/\Go D G m W.H p d H1/\xF ps hi D p H1 d g1 s k r/\s.ready=i::X/\d.b5=X/\k<=n,#[n,G,m,W.f,W.g,b5,U,Z,Go.hW I.M,I,sf,kK,bK _],?_]]
 rintro k σ H1 ⟨p,d,g1,s,X,e,rfl,P,l,v,Ik,Bx⟩
 let#[sW,amE,amF,_,kA]:=l.R.mO v
 let at':p.ad (.a6 i)=G.ad (.a6 i):=P.le.ad (.a6 i) ak (by intro i z;cases z)
 let vv:p.ad (.ag i)=G.ad (.ag i):=P.le.ad (.ag i) ak (by intro i z;cases z)
 let am:p.ad .b0=G.ad .b0:=P.le.ad .b0 trivial (by intro i z;cases z)
 let#[ac,iG,al]:=l.M.a6 sW
 let lA:z9 ac=(d.ag i).a6.length:=by have:=al.eM;rwa[BW]at this
 rw[at']at iG
 cases k with
 |zero=>show a8 l.hH (by simp[uo])
 |succ k=>
  let C:=XB l.hH
  show#[9,_,.inl #[_,bM.of iG,Z],?_]
  cases B:(d.ag i).a6 with
  |nil=>
   let v0:ac=[]:=ut.mp (by rw[lA,B];rfl);subst v0;show di ?_;let CU:(s.task i).jobs=[]:=by have:=kA.tj;rw[B]at this;show ut.mp this
   let st:EU ps s=.ok (.inl<|s.finish i):=by rw[Kk ps v,CU];rfl
   rw[st]at C;let#[S,bO]:=l.R.nf v Ik;let#[y,hm]:=l.M.b0;rw[am]at hm;let m6:=l.R.XA v l.z;show#[9,8,hm,aI,T.adz,Z,9,2,7,#[WL.t],af.bH,(p,d,i),by show _=E5 _ _;rw[am,vv],l.M,sW,by rw[Ik];lia,l.R.akD v,λab x=>?_];show q _ _ _ _ _ k aV (P.bw x) #[x.bQ,S,(Y1 d i).wr l.L,akC l.z,l.ef.cI x.le,C] bO
  |cons t F=>
   let#[j,f]:=t;let Ev:ac≠[]:=λz=>by rw[z,B]at lA;cases lA
   let Bq:(!ac.isEmpty)=true:=by cases ac with|nil=>show a8 Z Ev|cons _ _=>rfl
   rw[Bq];let cs:=YW l.R v Ik l.L k8 (by rw[B];simp);show dw #[λcr ab=>∃aO,aO<k+1/\∃p d g1 s X e,cr=[Y<|.ref<|G.ad .b0,Y<|.ref<|G.ad<|.ag i,Y<|.ref<|G.ad<|.a6 i,e]/\Go D G m W.H p d ab/\xF ps hi D p ab d g1 s aO r/\s.ready=i::X/\d.b5=X/\aO<=n,λcr ab z=>z,#[9,_,9,.inl<|bM.of iG,nH T.ae6 #[_,9,Z,9,iR (λz=>?_) λz=>?_]]]
   .let z:512<(d.ag i).a6.length:=by have:=kc z;rw[lA]at this;lia
    let fL:aA.th hi d i=.error (-13):=by unfold aA.th;rw[aR z]
    let st:EU ps s=.error .many:=by rw[Kk ps v,aR (by show 512<_;rwa[kA.tj])]
    cases st▸C;show DN.iB af.bH<|mC.1 .many Z
   .let z:¬512<(d.ag i).a6.length:=λw=>z (gv (by rw[lA];lia))
    rw[XC z B]at cs
    rw[B]at al
    let akE:ac=ac.dropLast++[ac.getLast Ev]:=(List.dropLast_concat_getLast Ev).symm
    rw[akE,EY]at al
    let al:dE (Bt D p d.b1) (ac.getLast Ev::ac.dropLast.reverse) ((j,f)::F):=al
    let XE:ac[z9 ac-1]?=Y (ac.getLast Ev):=by rw[List.getLast_eq_getElem,pq]
    let L8:=aky l.R v Ik l.L l.z B
    cases al with
    |cB dd iw=>
     let#[a,u,bf,rL,Ew]:=dd.ob
     let jH:f<d.a5:=dd.lt
     let x:Go D p d H1 p (d.bR i F) (aE H1 (G.ad<|.a6 i)<|.bq ac.dropLast):=by
      have:=Go.lR (aO:=d.bR i F) (o:=.bq ac.dropLast) l.M (.a6 i) sW #[Z,Z,Z,bK _] (Eg λbt n=>#[λ_=>#[Z,Z,Z],λe=>a8 e n,λ_=>rfl]) (by show mB D _ _ (.a6 i) (hZ.a6 (aF d.ag i _ i).a6) _;rw[bE];show#[9,iw])
      rwa[at']at this
     rw[bf]at XE
     let zm:=x.bQ.im _ _ rL
     let vt:f<(d.bR i F).a5:=jH
     let#[ca,LF,cd,akF,akG,rfl,fL,cl,tE,lc,AU]:=ako (ps:=hi)<|rI.cI (b4:=#[_,p.ad,p.ef]) (λa o z=>x.bQ.im a o z) Ew
     show#[9,.inl #[Z,_,bM.of iG],7,9,Z,iG,XE,?_]
     let XF:∀{Er:ck}{Ew:Int}{z:V},uX [.ref ca,.ref<|p.ad<|.a0 f] Ew=Y z->Er z (aE H1 (G.ad<|.a6 i)<|.bq ac.dropLast)->KZ K (.ref a) (.int Ew) (aE H1 (G.ad<|.a6 i)<|.bq ac.dropLast) Er:=λe q=>.inr<|.inl #[a,7,9,Z,gb.of zm,e,q]
     show#[9,XF (z:=.ref ca) Z #[ca,LF,cd,akF,akG,Z,fL,cl,tE,lc,9,9,9,XF (z:=.ref<|p.ad<|.a0 f) Z #[208,7,#[AU],af,p,d.bR i F,i,f,_,by rw[am,vv],x.bQ,Ew,L8,l.ef,?_]]]
     let Il:=λaO=>akB (ps:=hi) (aO:=aO) l.R v l.z
     let Im:=λaO=>Y0 (ps:=hi) (m:=d) (aO:=aO) (i:=i)
     rw[XC z B]at Il Im
     let CN:i<(d.bR i F).az:=sW
     generalize es:EU ps s=bD at cs C
     generalize amG:zr hi (d.bR i F) i f j=c at cs Il Im
     cases cs with
     |iK b=>cases C;show mC.1 b Z
     |Q4=>cases C;show mC.2.1 s Z
     |@go h9 s' aO N7 h1 S bO=>intro ff ay A;let N:=P.bw<|x.bw A;let uO:i<aO.az:=eR ak N.le.az;let#[akH,hB]:=A.bQ.ag uO;let N8:ff.ad (.ag i)=G.ad (.ag i):=N.le.ad (.ag i) ak (by intro i z;cases z);rw[N8,(h1.mO S).2.2.1]at hB;show#[9,8,hB,aI,T.n 3 3,Z,9,di #[k,k2 k,ff,aO,h9,s',N7,9,N,#[A.bQ,h1,Im aO Z l.L,Il aO Z,l.ef.cI A.le,C],S,bO,aV]]
     |@wl h9 s' aO h1 S bO=>intro ff ay A;let N:=P.bw<|x.bw A;let uO:i<aO.az:=eR ak N.le.az;let#[akH,hB]:=A.bQ.ag uO;let N8:ff.ad (.ag i)=G.ad (.ag i):=N.le.ad (.ag i) ak (by intro i z;cases z);rw[N8,bO]at hB;show#[9,8,hB,aI,T.n 3 3,Z,9,dw ?_];show q _ _ _ _ _ k aV N #[A.bQ,h1,Im aO Z l.L,Il aO Z,l.ef.cI A.le,C] S
end XD
def akI(b:dE pE ps hi):bX 209 20 (λac H Q E=>∃G m i g s n row r,ac=[.ref<|G.ad .b0,.ref<|G.ad<|.ag i]/\xF ps hi D G H m g s n r/\s.ready=i::row/\m.b5=row/\DI E r/\
  ∀b4 a aO h9 s' n',n'<n->Go D G m H b4 aO a->xF ps hi D b4 a aO h9 s' n' r->aO.b5=s'.ready->Q .bB a):=XD.t.i5 λw w w w h=>by
 let#[b4,aO,c,h9,s',n',d,f,e,q]:=h
 show#[(ps,hi,b4,aO,c,h9,s',n',d,f),Z,e,b,q]
section
open Sn24
def akJ(aC:pE p x)(F:p.params=[])(K:(ps.filter λp=>p.name==l0)=[p])(b:Nat):∃g,R g (Sn24.first ps b).task (Sn24.first ps b) (aA.F8 x.jb b)/\(Sn24.first ps b).ready=[0]:=by
 let#[W,W,B,l]:=aC;rw[F]at l;let I:Sn24.first ps b=#[[],0,[#[[.stmt p.body []],.ready,U]],[0],[],[],b]:=by unfold Sn24.first;rw[K];rfl
 let' s:vO:=#[[],0,[#[[.stmt p.body []],.ready,U]],[0],[],[],b]
 let' d:fh:=#[0,wn,0,B]
 let M:s.task 0=#[[.stmt p.body []],.ready,U]:=rfl;let P:∀i,s.task (i+1)=#[[],.over,U]:=λi=>rfl;let par:∀i,(s.task i).parent=none:=λi=>by cases i<;>rfl
 let r:∀i j,¬je (λi=>(s.task i).parent) i j:=λi j a=>by
  cases a with
  |tk e=>rw[par]at e;cases e
  |up e _=>rw[par]at e;cases e
 let E:R #[λW W=>U,aF (λW=>[]) 0 [d],λW=>[]] s.task s (aA.F8 x.jb b):=by
  show#[Z,Z,Z,Z,Z,Z,λi ak=>?_,λi ak=>#[?_,par i],λi ak=>?_,λc=>rfl,λc=>rfl,λc W=>rfl,λf s x e=>(by cases e),λf a x e=>(by cases e),λW W W W W e=>(by cases e),λi q h=>?_,Jn,λi=>?_,show [0].Nodup by decide,λi ak=>?_,#[λj i e=>?_,λi=>?_,λi j H W W G o C m=>?_,λi j a=>a8 a<|r i j],λj Q N k u=>?_,λi n ak L=>?_]
  .rw[par];rfl
  .let ak:1<=i:=ak;show aF (λW=>[]) 0 [d] i=[];rw[bC _ _ aV]
  .let ak:i<1:=ak;have:i=0:=by lia
   subst this;show .cp Z Z Z ?_;show jd _ [.stmt p.body []] [(.cq x.jb,0)] (aF (λW=>[]) 0 [d] 0);rw[bE];show .cB (.cq (p:=d) #[λy=>rfl,λt v=>by let#[y,k,z]:=v;cases z] l) .dg
  .let h:q∈aF (λW=>[]) 0 [d] i:=h;by_cases z:i=0
   .rw[z,bE]at h;rw[gX.mp h];show IR
   .cases (bC _ _ z)▸h
  .constructor
   .intro z;cases z
   .intro#[A,D];let A:i<1:=A;have:i=0:=by lia
    subst this;cases D
  .have:i=0:=gX.mp ak;subst this;show#[IR,Z]
  .rw[par]at e;cases e
  .show(aF (λW=>[]) 0 [d] i).Pairwise ng;by_cases z:i=0
   .rw[z,bE];show uu ..
   .rw[bC _ _ z];show Fj
  .let o:G∈aF (λW=>[]) 0 [d] i:=o;let m:C∈aF (λW=>[]) 0 [d] j:=m;by_cases z:i=0
   .cases (bC _ _ λw=>H<|z.trans w.symm)▸m
   .cases (bC _ _ z)▸o
  .rw[par]at u;cases u
  .let ak:i<1:=ak;have:i=0:=by lia
   subst this;cases L
 rw[I];show#[_,E,Z]
end
open PySem PySem.Spec PyProof.Rows L2 PySem.Builtin.ObjectAttr
open Sn24(Bytes ascii Bad digit letter Proc)
noncomputable def m0(body:cJ)(a:Nat):aA:=#[0,λq=>#[[(.cq body,0)],O,U,0,[]],0,λq=>#[[],[]],0,λq q=>U,[],0,0,[],a]
def akL(body:cJ)(steps:Nat):gh {m0 body steps with a5:=(m0 body steps).a5+1,a0:=aF (m0 body steps).a0 (m0 body steps).a5 λq=>U} U 0 [body]=aA.F8 body steps:=by
 unfold gh m0 aA.F8;dsimp only;let a:xz (λq=>#[[(.cq body,0)],O,U,0,[]]) 0 U 0 [body]=λq=>(#[[(.cq body,0)],O,U,0,[]]:fG):=by
  funext k
  unfold xz
  rw[aM<|p5 _]
  cases k with
  |zero=>rfl
  |succ k=>rfl
 let b:(aF (λq q=>U) 0 λq=>U:Nat->jw)=λq q=>none:=by
  funext k
  unfold aF;split<;>rfl
 rw[a,b];rfl
namespace XG
def bN:List h3×List kI×eQ×h3×kI×Nat×Nat×Except Sn24.Bad (vO×EV)->dC:=λ(ps,hi,G,p,x,a,n,r)=>dZ [.ref<|G.ad .b0] λH Q E=>dE pE ps hi/\cO D G H (m0 x.jb a)/\rM D G hi/\(hi.find? λp=>p.lE==l0)=Y x/\pE p x/\p.params=[]/\(ps.filter λp=>p.name==l0)=[p]/\uo ps n (Sn24.first ps a)=Y r/\DI E r/\
  ∀d c b,Go D G (m0 x.jb a) H d b c->(∃s,r=.ok (s,.over)/\b.cg=s.out)->z9 b.cg<=1048576->Q .bB c
def W:=dR 19 ["self"] (λq=>209) bN
def ps:=W.a
def G:=W.c
def p:=W.d
def x:=W.e
def fx:=W.f
def r:=W.o
def H:=W.H
def t:=ee W (ps,W.b,G,p,x,fx,W.g,r) H W.Q W.E λaG F h=>by
 let#[k8,M,N,vw,aC,h0,Oa,rR,mC,q]:=h;generalize r=r at *;show#[_,aU (cU<|c4 aQ (aa 0)<|fX lL<|cH (oa<|bo<|bV<|sK (g5 F) (bV<|aa 0) fc) yQ)<|aU (pL i2 (iz<|bV<|aa 0)<|aP<|cU<|c4 aQ (aa 0)<|bo<|iP Cd Cf JC aaL (bV<|aa 0)<|bo cE)<|aP<|ed (d9 wJ (bV<|aa 0)<|bV<|aa 0) (aP<|i4 Z) eP,?_];let#[av,zo,H7]:=N;let#[y,hm]:=M.b0;let#[cV,bk,H8]:=(qQ.ya H7 l0).2 x vw;let#[nB,amH,pl,jZ,cD,_,bf,_,kk,iN]:=H8.ob;let mk:(cZ l0:Str)="main":=rfl;rw[mk,cD]at bk;let lz:g4 H G.ef (.str "main") (Y<|.ref nB):=by have:=g4.k (k:=cT "main")<|M.im _ _ zo;rwa[bk]at this
 show#[9,8,hm,aI,T.Uf,Z,9,8,hm,aI,T.n 4 0,Z,_,9,lz,8,M.im _ _ bf,aI,T.n 35 1,Z,by show 1<=sizeLine;decide,λX v=>λeD ma=>?_];let u:Go D G (m0 x.jb fx) H G (m0 x.jb fx) (aE H X<|.bq [jZ]):=Go.eS M λb o z=>by rwa[aK<|cx z v]
 let g2:=Xd u.bQ ma;let XH:X≠eD:=λz=>by rw[<-z,bj]at ma;cases ma
 show#[4,7,#[NA.t],F.bH,(_,_,U,X,[jZ],[x.jb],0),?_,g2.bQ,IR,(λp e=>by cases e),(aK XH).trans bj,?_,.cB iN .dg,hQ _,λz=>?_,λz Ee bT g3=>?_]
 .rfl
 .intro r S
  cases r with
  |a0 c=>
   let S:c<1:=S;have:c=0:=by lia
   subst this;show c5 XH
  |b0=>show M.g6 v (r:=.b0) trivial
  |b5=>show M.g6 v (r:=.b5) trivial
  |cg=>show M.g6 v (r:=.cg) trivial
  |_=>show a8 S<|p5 _
 .show a8 z (by show ¬4096<0+1;decide)
 .rw[akL x.jb fx]at g3
  let#[g,m3,P]:=akJ (ps:=ps) aC h0 Oa fx
  let fg:=u.bw<|g2.bw g3
  let N:rM D G W.b:=#[av,zo,H7]
  show#[λk σ H1=>∃m a u f,σ=[Y<|.ref<|G.ad .b0]/\Go D G (m0 x.jb fx) H m a H1/\xF ps W.b D m H1 a u f k r/\a.b5=f.ready,#[W.g,Ee,_,g,9,fg,#[g3.bQ,m3,#[hQ _,hQ _],#[by show 1<=4096;decide,hQ _,λj=>by show 1<=if O=O then 513 else 512;decide],N.cI fg.le,rR],P.symm],?_]
  rintro k σ H1 ⟨m,a,akN,f,rfl,ge,d,I⟩
  let am:m.ad .b0=G.ad .b0:=ge.le.ad .b0 trivial (by intro i z;cases z)
  let#[mz,s]:=d.M.b0
  let K:=d.M.b5
  rw[am]at s
  cases k with
  |zero=>show a8 d.hH (by simp[uo])
  |succ k=>
   show#[9,8,s,aI,T.n 4 2,Z,_,.inl #[_,bM.of K,Z],?_]
   cases V:a.b5 with
   |nil=>
    rw[V]at I;let st:=Y4 d.R I.symm ps;let A:=XB d.hH;rw[st]at A;let A:Y (kG (f,if a.d4<a.az then Sn24.End.dead else .over))=Y r:=A;cases A;show di #[9,8,s,aI,T.n 4 4,Z,9,8,s,aI,T.n 4 3,Z,_,9,Z,9,iR (λz=>?_) λz=>?_]
    .let z:a.d4<a.az:=by have:=kc z;lia
     show agz.iB F.bH (mC.2.2 f<|by rw[aR z])
    .let z:¬a.d4<a.az:=λw=>z<|gv aV;show q m H1 a ge #[f,by rw[aM z],d.R.cg.symm] d.z.cg
   |cons i l=>
    rw[V]at K I;show dw #[λcr B=>∃C,C<k+1/\∃m a u f,cr=[Y<|.ref<|G.ad .b0]/\Go D G (m0 x.jb fx) H m a B/\xF ps W.b D m B a u f C r/\a.b5=f.ready,λcr B z=>z,?_];let gA:=Nu d.M l λj aW=>d.M.Nk j (by rw[V];show e9 _ aW);show#[9,8,s,aI,T.ady,Z,9,8,s,aI,T.n 4 2,Z,.inl #[Z,_,bM.of K],7,0,0,9,Z,K,cn,cn,?_,Z,?_]
    .simp[EK]
    .show#[209,7,#[akI k8],F,m,{a with b5:=l},i,akN,f,k+1,l,r,by rw[am],#[gA.bQ,d.R.Y2 l,d.L,#[d.z.az,d.z.cg,d.z.ip],d.ef,d.hH],I.symm,Z,mC,λb4 B C h9 s' n' lt go is re=>#[n',lt,b4,C,h9,s',Z,ge.bw<|gA.bw go,is,re]]
end XG
def akO(g:dE pE ps hi):bX 210 19 (λac H Q E=>∃G p x a n r,ac=[.ref<|G.ad .b0]/\cO D G H (m0 x.jb a)/\rM D G hi/\(hi.find? λp=>p.lE==l0)=Y x/\pE p x/\p.params=[]/\(ps.filter λp=>p.name==l0)=[p]/\uo ps n (Sn24.first ps a)=Y r/\DI E r/\
  ∀b4 b aO,Go D G (m0 x.jb a) H b4 aO b->(∃s,r=.ok (s,.over)/\aO.cg=s.out)->z9 aO.cg<=1048576->Q .bB b):=XG.t.i5 λw w w w h=>by
 let#[b4,c,f,i,d,j,e,q]:=h
 show#[(ps,hi,b4,c,f,i,d,j),Z,e,g,q]
namespace XI
def bN:ao×ao×L2.V×L2.V->dC:=λ(x,dx,g,f)=>dZ [.ref x,g,f] λH Q q=>H x=Y (.b7 (D.c 4) dx [])/\
  ∀e d a,H e=U->H d=U->e≠d->a x=Y (.b7 (D.c 4) dx [("processes",g),("steps",f),("row",.ref e),("tasks_made",.int 0),("tasks_over",.int 0),("cells_made",.int 0),("channels_made",.int 0),("written",.ref d)])->a e=Y (.bq [])->a d=Y (.bq [])->(∀b o,H b=Y o->b≠x->a b=Y o)->Q .bB a
def W:=dR 18 ["self","processes","steps"] (λq=>0) bN
def x:=W.a
def dx:=W.b
def t:=fj W (x,dx,W.c,W.k) W.H W.Q W.E λr s h=>by
 let#[p,q]:=h;show#[_,aU (fY (aa 0)<|aa 1)<|aU (fY (aa 0)<|aa 2)<|aU (fY (aa 0)<|oa nx)<|aU (fY (aa 0) cE)<|aU (fY (aa 0) cE)<|aU (fY (aa 0) cE)<|aU (fY (aa 0) cE)<|aP<|fY (aa 0)<|oa nx,?_];show#[9,9,x,_,dx,9,p,aI,T.n 4 0,fE,?_];show#[9,9,x,_,dx,9,bj,aI,T.n 4 1,fE,?_];rw[io];show#[by show 0<=sizeLine;decide,λc1 e=>?_];let f:x≠c1:=λz=>by rw[<-z,bj]at e;cases e
 show#[9,x,_,dx,9,(aK f).trans bj,aI,T.n 4 2,fE,?_];show#[9,x,_,dx,9,bj,aI,T.n 4 3,fE,?_];rw[io];show#[9,x,_,dx,9,bj,aI,T.n 4 4,fE,?_];rw[io];show#[9,x,_,dx,9,bj,aI,T.n 4 5,fE,?_];rw[io];show#[9,x,_,dx,9,bj,aI,T.n 4 6,fE,?_];rw[io];show#[by show 0<=sizeLine;decide,λdN a=>?_];let j:x≠dN:=λz=>by rw[<-z,bj]at a;cases a
 let g:=fO a;let m:c1≠dN:=λz=>by rw[<-z,bj]at g;cases g
 show#[9,x,_,dx,9,(aK j).trans bj,aI,T.n 4 7,fE,?_];let l:=fO e;let i:=fO<|fO g;show q c1 dN _ l i m bj ?_ ?_ λb o z d=>?_
 .rw[aK<|c5 f,aK m,aK<|c5 f,bj]
 .rw[aK<|c5 j,bj]
 .rw[aK d,aK<|cx z i,aK d,aK<|cx z l,aK d];show z
end XI
def akP(cb:H1 x=U)(n2:H1 g=U)(t:H1 e=U)(k:x≠g)(m:x≠e)(j:g≠e)
  (p:h x=Y (.b7 (D.c 4) dx [("processes",.ref q),("steps",.int (a:Nat)),("row",.ref g),("tasks_made",.int 0),("tasks_over",.int 0),("cells_made",.int 0),("channels_made",.int 0),("written",.ref e)])) (n:h g=Y (.bq [])) (s:h e=Y (.bq [])) (u:∀b o,H1 b=Y o->h b=Y o):
  cO D #[H1,λr=>match r with|.b0=>x|.b5=>g|_=>e,q] h (m0 body a):=by
 show#[u,λr l=>?_,λr l=>?_,λr f l d z=>?_]
 .cases r with
  |b0=>show#[_,p,dx,Z]
  |b5=>show#[_,n,Z,λi ak=>(by cases ak)]
  |cg=>show#[_,s,Z]
  |_=>show a8 l<|p5 _
 .cases r with
  |b0=>show cb
  |b5=>show n2
  |cg=>show t
  |_=>show a8 l<|p5 _
 .cases r with
  |b0=>cases f with
   |b0=>rfl
   |b5=>show a8 z k
   |cg=>show a8 z m
   |_=>show a8 d<|p5 _
  |b5=>cases f with
   |b0=>show a8 z.symm k
   |b5=>rfl
   |cg=>show a8 z j
   |_=>show a8 d<|p5 _
  |cg=>cases f with
   |b0=>show a8 z.symm m
   |b5=>show a8 z.symm j
   |cg=>rfl
   |_=>show a8 d<|p5 _
  |_=>show a8 l<|p5 _
namespace XK
def bN:Int×Int×ao×br->dC:=λ(a,c,dp,b)=>dZ [.int a,.int c,.ref dp] λH Q E=>bM K H dp (d8 b)/\(w9 b a c->gd E (-2))/\(¬w9 b a c->Q .bB H)
def W:=dR 150 ["steps","most","text"] (λq=>3) bN
def t:=fj W (W.a,W.b,W.c,W.k) W.H W.Q W.E λu f h=>by
 let#[s,m,q]:=h;show#[_,aU (ed (d9 tA (j5 mY Z lr mD<|bo<|aa 2) ea) (aP<|i4 Z) eP)<|aU (ed (qq<|RJ wK wK cE (aa 0) ea) (aP<|i4 Z) eP)<|aP<|ed (qq<|RJ wK wK cE (aa 1) ea) (aP<|i4 Z) eP,#[9,_,9,.inl s,nH T.afk #[_,9,Z,9,iR (λz=>?_) λz=>?_]]]
 .show Mx.iB f (m<|.inl (by have:=kc z;rw[ie]at this;lia))
 .let z:¬65536<z9 W.k:=λw=>z (gv (by rw[ie];lia));let p:∀{j:Nat}{v ak:Int}{g:Str}{l:L2.St}{Oc:Bool->aw->Prop}{X:b9},(∃t,X.aL g=Y (.int ak t))->l[j]?=Y (Y<|.int v)->Oc (decide<|0<=v/\v<=ak) W.H->Gx (KG (sr λi j=>V.cC<|decide<|i<=j) (sr λi j=>V.cC<|decide<|i<=j) (rl<|V.int 0) (hM j)<|sC X g) l W.H Oc:=λ{j v ak g l Oc X} r ai n=>by
   show#[_,ai,_,9,Z,9,?_];by_cases w:0<=v
   .rw[gv w];show dw<|nH r #[_,9,Z,9,?_];rwa[show decide (v<=ak)=decide (0<=v/\v<=ak)by simp[w]]
   .rw[i9 w];show di #[9,?_];rwa[show J=decide (0<=v/\v<=ak)by simp[w]]
  show p T.afl Z ?_;by_cases d:0<=W.a/\W.a<=100000000
  .rw[gv d];show di<|p T.afm Z ?_;by_cases e:0<=W.b/\W.b<=1048576
   .rw[gv e];show di<|q λo=>o.elim z λo=>o.elim (λo=>o d) λo=>o e
   .rw[i9 e];show dw<|Mx.iB f<|m<|.inr<|.inr e
  .rw[i9 d];show dw<|Mx.iB f<|m<|.inr<|.inl d
end XK
def akQ{ps:List h3}{y:br}{p:h3}:ps.Pairwise (λa b=>a.name≠b.name)->(ps.find? λp=>p.name==y)=Y p->(ps.filter λp=>p.name==y)=[p]:=by
 induction ps with
 |nil=>intro q h;cases h
 |cons a l d=>
  intro g h
  let#[i,f]:=q8.mp g
  rw[nY]at h
  rw[pv]
  cases z:a.name==y with
  |true=>
   rw[z]at h;let e:a=p:=iX h;subst e;let c:a.name=y:=by simpa using z
   rw[aR Z,Ja.mpr λb ae=>?_];have:=i b ae;rw[c]at this;simpa using c5 this
  |false=>rw[z]at h;rw[aM cn];show d f h
def akS(h:td ps l=Y (q,r)):∀a∈ps,a.name≠q.name:=by
 cases l with
 |nil=>unfold td at h;cases h
 |cons t l=>
  by_cases b:t=Sn24.kw "proc"
  .subst b;rw[M5]at h;let#[f,v,h]:=kF.mp h;split at h
   .cases h
   .rename_i c;let#[z,v,e]:=iW.mp h;cases e;intro a d w;show c (E1.mpr #[a,d,by simpa using w])
  .rw[Wa<|by simpa using b]at h;cases h
theorem XM:∀(n:Nat) {ps:List h3}{l:List Tk}{c:List h3},z9 l<=n->oG ps l=Y c->ps.Pairwise (λa b=>a.name≠b.name)->c.Pairwise (λa b=>a.name≠b.name)
 |n,ps,[],c,d,h,e=>by rw[FE]at h;cases h;show e
 |0,ps,t::l,c,d,h,e=>by cases d
 |n+1,ps,t::l,c,d,h,e=>by rw[FE]at h;let#[q,f,h]:=kF.mp h;let len:=FD ps (t::l) q.1 q.2 f;show XM n (by simp at len d;lia) h ?_;show O2.mpr #[e,uu ..,λa g b ae=>?_];rw[gX.mp ae];show akS (r:=q.2) f a g
namespace XN
def bN:Int×Int×ao×br->dC:=λ(a,d,dp,b)=>dZ [.int a,.int d,.ref dp] λH Q E=>bX 20 32 Bn/\bM K H dp (d8 b)/\(∀c∈b,c<256)/\tL H Q E a d b
def W:=dR 149 ["steps","most","text","machine"] (λq=>413) bN
def st:=W.a
def b:=W.k
set_option tactic.hygienic true in
def t:=ee W (st,W.b,W.c,b) W.H W.Q W.E λaG d h=>by
 let#[dY,P,hr,q]:=h;show#[_,aU (cU<|cP aQ<|fX (aa 0)<|cH (aa 1)<|aa 2)<|aU (dr 3 aG<|cP aQ<|cH (cP aQ<|bo<|aa 2)<|aa 0)<|aU (cU<|jo aQ<|aa 3)<|aU (ed (d9 tA (j5 mY Z lr mD<|bo<|bV<|aa 3)<|aa 1) (aP<|i4 Z) eP)<|aP<|cS<|bV<|aa 3,?_];unfold tL at q;show cm (T.t 150 Z) ?_;show#[9,9,9,dk (XK.t) d.bH #[(st,W.b,W.c,b),Z,P,λo=>?_,λo=>?_]]
 .rw[aR o]at q;show q
 .rw[aM o]at q
  let len:z9 b<=65536:=BQ λw=>o<|.inl w
  let D:0<=st:=by
   by_cases w:0<=st/\st<=100000000
   .show w.1
   .show a8 (.inr<|.inl w) o
  show cm (T.c 4).2 ?_
  show cm (T.t 144 Z) ?_
  show#[9,dk (ah1 dY) d.bH #[W.c,b,Z,P,len,hr,?_]]
  let u:zJ b=((jR b).bind λl=>oG [] l).bind sQ:=Yi b
  rw[<-u]
  cases aC:zJ b with
  |none=>rwa[aC]at q
  |some ps=>
   rw[aC]at q;let#[n,r,rR,mC,q]:=q;intro ef av xs H1 ext M8 zo A S;rw[aC]at u;let#[amI,K,a]:=kF.mp u.symm;let#[f,_,t7]:=kF.mp K;let xG:=XM (z9 f) (bK _) t7 Fj;let amJ:=a;unfold sQ at a;split at a
   .rename_i p R;split at a
    .rename_i m;cases a;let Oa:=akQ xG R;let#[x,au,pr]:=(dE.yg S l0).2 p R;let G:p.params=[]:=by simpa using m
     let B:st=((st.toNat:Nat):Int):=(Ps D).symm;show#[9,.rA T.adC #[XI.t] d.bH λh7 dx F NC ai8=>#[(h7,dx,_,_),Z,bj,λc1 dN ay L C HY k ar bp ei=>#[Z,?_]]];let v:H1 c1=none:=fO<|fO L;let V:H1 dN=none:=fO<|fO C;let HZ:h7≠c1:=λz=>by rw[<-z,bj]at L;cases L
     let H0:h7≠dN:=λz=>by rw[<-z,bj]at C;cases C
     let ir:∀b o,H1 b=Y o->ay b=Y o:=λb o z=>by show ei b o ?_<|cx z F;rwa[aK<|cx z F,aK<|cx z NC]
     rw[B]at k;let M:=akP (body:=x.jb) F v V HZ H0 HY k ar bp ir;show#[9,8,k,aI,T.adx,Z,210,7,#[akO S],d.bH,_,p,x,st.toNat,n,r,Z,M,#[av,zo,A],au,pr,G,Oa,rR,mC,λN ab aO g bv lo=>?_];let#[s,rfl,os]:=bv;let q:=q s Z;let#[y,hm]:=g.bQ.b0;let X:N.ad .b0=h7:=g.le.ad .b0 trivial (by intro i z;cases z);let I:N.ad .cg=dN:=g.le.ad .cg trivial (by intro i z;cases z);let j:=g.bQ.cg;rw[os]at j;rw[X]at hm;rw[os]at lo;show#[9,8,hm,aI,T.n 4 7,Z,_,9,.inl<|bM.of j,9,_,9,Z,9,iR (λz=>?_) λz=>?_]
     .let z:W.b<(z9 s.out:Int):=by have:=kc z;rwa[ie]at this
      rw[aR z]at q;show agB.iB d.bH q
     .let z:¬W.b<(z9 s.out:Int):=λw=>z (gv (by rwa[ie]));rw[aM z]at q;let h0:W.H (N.ad .cg)=none:=by
       rw[I]
       cases e:W.H dN with
       |none=>rfl
       |some o=>cases (ext dN o e bg)▸V
      show#[9,8,hm,aI,T.n 4 7,Z,q _ _ (λb o z _=>g.bQ.im b o<|g.le.im b o<|ext b o z bg) h0 j lo]
    .cases a
   .cases a
end XN
def ak1(k:bX 20 32 Bn):
  bX 414 149 (λac H Q E=>∃a d dp b,ac=[.int a,.int d,.ref dp]/\bM K H dp (d8 b)/\(∀c∈b,c<256)/\tL H Q E a d b):=XN.t.i5 λw w w w h=>by
 let#[j,f,i,g,e,q]:=h
 show#[(j,f,i,g),Z,e,k,q]
section
variable {prog:eZ}{w:dM}{A:e0}{E:aB->bl->Prop}{s:bl}{K:b2}{C bf:ao}{ix dV:Obj}{name:Str}{v:aB}
def ak3{expr:Bool}{Q:aB->bl->Prop}(X:K.In s.heap)(r:qF K C)(I:ES s.heap bf ix C (Y dV))
  (f:fJ K (.ref C) "__getattribute__"=Y (Y<|.builtin "BaseException.__getattribute__")) (e:fJ K (.ref C) "__getattr__"=Y U)
  (l:PySem.W.findObj K C (Y dV) name=Y (.value v)) (b3:IW v=O) (h:Q v {s with toks:=s.toks+1}):bP (bJ prog w) A (BN (.ref bf) name expr) Q E s:=by
 let#[aC,g,d,t,os]:=s
 let uz:=I.type (M:=bJ prog w)
 let c:=zF (M:=bJ prog w) X f
 let L2:=zF (M:=bJ prog w) X e
 unfold BN getAttrBy
 show aY<|wpAny_mkText<|sX<|aY<|uz.at<|aY<|c.at ?_
 show bP _ _ (if (onTheHeap (e3 C)&&B7 "BaseException.__getattribute__"==B7 "object.__getattribute__")=O then _ else _) _ _ _
 rw[aM (by rw[show(B7 "BaseException.__getattribute__"==B7 "object.__getattribute__")=J by decide +kernel];simp)]
 unfold getAttrByItsOwn
 show aY ?_
 show bP _ _ (IH (.ref C) "__getattr__") _ _ _
 show L2.at ?_
 let n:(expr&&onTheHeap (B7 "BaseException.__getattribute__"))=false:=by cases expr<;>rfl
 unfold callGetattribute
 rw[n]
 let x:=PD.ga.bind<|.ref bf
 repeat (any_goals (first|assumption|with_reducible show uz.at ?_|wp_step))
 let#[nm,q,N,bs,i,G,sub,H,p,D,B,L,z,u,y,k,ft]:=r
 let o:=X _ _ k
 let j:(e3 C::i).contains (.type "BaseException")=true:=by rw[vS,yT (T:="BaseException") (b:=O) eH ft,B6]
 let hm:vM (bJ prog w) aC (mroOf<|.ref C) (.ref C::i):=((Fk (part:=U) o).andThen .now).andThen .now
 let m:vM (bJ prog w) aC (IK (.ref bf)<|.type "BaseException") true:=uz.andThen (by show hm.andThen ?_;show vM _ _ (pure _) _;rw[j];show .now)
 let a:=PySem.W.looks_find (M:=bJ prog w) X I l
 show EA PD.ga.plain PySem.F.entry_bexc_ga<|@PySem.W.check_slot (bJ prog w) _ _ _ "BaseException.__getattribute__" "BaseException" "__getattribute__" (.ref bf) [.str name t] [] _ eH eH m (PySem.F.args_bexc_ga (.ref bf)<|.str name t) ?_
 unfold BO.«object.__getattribute__»
 repeat (any_goals (first|assumption|with_reducible show uz.at ?_|with_reducible show a.at ?_|wp_step))
 show bP _ _ (handedOut v) _ _ _
 rw[PySem.W.handedOut_of b3]
 show c0 h
end
section
variable {X:b9}{ah uR:List (ao×Obj)}{σ:L2.St}{H:aw}{s:bl}
def Oe{bf T:ao}{h1:df}(C:aN X ah σ H s)(k:AJ (eT X.stack) bf T s.heap h1)(f:H bf=U)(g:H T=U)
  (h:∀b∈[bf,T],(b∈X.ex\/X.eb.heap.objs.size<=b)/\b≠X.env.locals/\(∀x c,X.env.cells.lookup x=Y c->c≠b)/\∀p∈X.f6++ah,p.1≠b):aN X ah σ H {s with heap:=h1}:=by
 let a:∀{b},b∉[bf,T]->b≠bf/\b≠T:=λ{b} z=>#[λe=>z (by simp[e]),λe=>z<|by simp[e]]
 show C.yx (ch:=[bf,T]) Z #[λb o r w d z=>k.ee b o (a z).1 (a z).2 d r,λb o r w w z=>k.lG b o (a z).1 (a z).2 r,λb o w n w=>n,λb o r z=>let ⟨_,q⟩:=k.lG b o (a z).1 (a z).2 r;#[_,q],λw w q=>q,λw w w q=>q,λb ps q=>#[[].toArray,by rwa[Array.append_empty]]]
  (LB C.bL k f g C.Al) C.f9 h
noncomputable def lX(X:b9)(A:e0)(c:Bool)(f6:List (ao×Obj))(ba:aB->bl->Prop):b9:={X with A:=A,tn:=c,f6:=f6,er:=ba}
def Of{A:e0}{c:Bool}{a uR:List (ao×Obj)}{ba:aB->bl->Prop}(I:aN X ah σ H s)(b:A.frames=X.A.frames)(d:c=O->A.handled=U)
  (aC:∀p∈a++uR,s.heap.get? p.1=Y p.2/\H p.1=U/\p.1≠X.env.locals/\p.1∉X.bb/\∀v,p.2.data≠.cell v):aN (lX X A c a ba) uR σ H s:=
 #[#[I.ok.mod,I.ok.kind,I.ok.sh,I.ok.lJ,I.ok.above,I.ok.inj,I.ok.has,I.ok.yt,d,b.trans I.ok.frames,I.ok.jU,I.ok.Ak,I.ok.bs,I.ok.qo,I.ok.yu,I.ok.yv,I.ok.oQ,I.ok.tp],I.os,I.f9,I.base,I.loc,I.cell,I.free,I.mS,aC,I.bL,I.len]
def Iq{A:e0}{c:Bool}{f6:List (ao×Obj)}{ba:aB->bl->Prop}(ok:X.Ok)(I:aN (lX X A c f6 ba) uR σ H s)(aC:∀p∈X.f6++ah,p∈f6++uR):aN X ah σ H s:=
 #[ok,I.os,I.f9,I.base,I.loc,I.cell,I.free,I.mS,λp h=>I.pin p<|aC p h,I.bL,I.len]
def ak8{M:Model}{A:e0}{E:aB->bl->Prop}{i:Nat}{x:Str}{v:V}{Q:Unit->bl->Prop}(I:aN X ah σ H s)(K:X.N.Nodup)(ak:X.N[i]?=Y x)(r:X.env.scope.names.lookup x=Y .local)(bk:σ[i]?=Y (Y v))
  (h:∀s',aN X ah (σ.set i U) H s'->Q () s'):bP M A (unbindName X.env x) Q E s:=by
 let#[m,aJ,G]:=id I.loc
 let L:i<z9 σ:=by rw[I.len];show(jP.mp ak).1
 let si:=I.si
 let#[u,jj,eu]:=G i x v ak bk<|.inl r
 let l:m x=Y u:=by
  obtain⟨_,e⟩|⟨k,_⟩:=eu
  .show e
  .obtain k|k:=k<;>(rw[show X.env.kindOf x=Y .local from r]at k;cases k)
 let P:(X.env.scope.kind==.class||(X.env.scope.kind==.module&&X.env.locals != X.env.globals))=false:=by rw[I.ok.kind];rfl
 let Gf:∀{h':df},p9 X.env.locals s.heap h'->f8 X.prog X.w H h':=λ{h'} ai b ob e=>by
  show(I.bL b ob e).oO (λc C hc q=>(ai.2 c ?_).trans q) (λ_ q=>q) λ_ _ q=>q;rintro rfl;let F:=I.free;obtain rfl|hc:=hc
  .rw[F]at e;cases e
  .rw[F]at hc;cases hc
 show wpAny_unbindName_local r aJ l P λh' B W ai=>?_
 show h _ #[I.ok,I.os,I.f9,#[λb o e n ae f=>?_,λb o e n ae f=>?_,I.base.free,λb o e f=>?_,I.base.mQ,I.base.lf,I.base.mR],#[_,W,λj y S a g R=>?_],λy c e=>?_,I.free,I.mS,λp aC=>?_,Gf ai,by rw[k3];show I.len]
 .show(ai.2 b<|eg<|eR (dF e) I.ok.above).trans<|I.base.keep b o e n ae f
 .let#[c2,a]:=I.base.slot b o e n ae f;show#[c2,(ai.2 b<|eg<|eR (dF e) I.ok.above).trans a]
 .let#[e1,a]:=I.base.there b o e f;show#[e1,(ai.2 b<|eg<|eR (dF e) I.ok.above).trans a]
 .by_cases t:j=i
  .subst t;rw[zL L]at g;cases g
  .rw[zM<|c5 t]at g;let#[B,bt,q]:=G j y S a g R;show#[B,bt,?_];obtain⟨k,e⟩|⟨k,c,e,z⟩:=q
   .show .inl #[k,?_];have:y≠x:=λe=>t<|Gd K a<|e▸ak;simp[this,e]
   .show .inr #[k,c,e,z.sameBut ai<|si y c e]
 .let#[C,z]:=I.cell y c e;show#[C,z.sameBut ai<|si y c e]
 .let#[e,n,D,T,d]:=I.pin p aC;show#[(ai.2 p.1 D).trans e,n,D,T,d]
end
def ala{X:b9}{A:e0}{c:Bool}{b ah:List (ao×Obj)}{ba a:aB->bl->Prop}{σ:L2.St}{H:aw}{s:bl}(I:aN (lX X A c b ba) ah σ H s):aN (lX X A c b a) ah σ H s:=
 #[#[I.ok.mod,I.ok.kind,I.ok.sh,I.ok.lJ,I.ok.above,I.ok.inj,I.ok.has,I.ok.yt,I.ok.hd,I.ok.frames,I.ok.jU,I.ok.Ak,I.ok.bs,I.ok.qo,I.ok.yu,I.ok.yv,I.ok.oQ,I.ok.tp],I.os,I.f9,I.base,I.loc,I.cell,I.free,I.mS,I.pin,I.bL,I.len]
def tJ(D:nt):dG:=λv q a=>∃n:Int,v=.int n 0/\∀l,a l=U->D.n9 (.ref l) (aE a l<|.bq [.int n])
structure Ir where
 N:List Str
 Og:Str
 It:iH
 f:ao
 cd:aB
 A:e0
 bc:List Env
 eb:bl
 gS:aw
 E:dG
def Ir.X(e:Ir):b9:=kU e.N e.Og e.It e.f e.cd e.A e.bc e.eb e.gS e.E
instance:Nonempty Ir:=#[#[[],default,hY<|st 0,0,.none,qX,[],{},λq=>U,λq q q=>True]]
def Oh(q:Ir):Prop:=∀{a:List Stmt}{dv:b9->dG->hu}{e f j h l k c:Pos}{i:Nat}{tB:ao}(m:q.N.Nodup) (ak:q.N[i]?=Y ("refusal":Str)) (o:q.It.names.lookup ("refusal":Str)=Y .local) (n:pJ q.X "Refusal") (hm:aL "Refusal"=Y (.ref tB)) (p:∀C,b8 C->Hn K tB C) (ae:∀b ba d,nz (eV P w b8) (lX q.X q.X.A O b ba) d->lh (lX q.X q.X.A O b ba) a (dv (lX q.X q.X.A O b ba) d)),kp q.X (.Try a [.ExceptHandler (Y<|.Name "Refusal" e) (Y "refusal") [.Return (Y<|.List [.Attribute (.Name "refusal" f) "number" j] h) l] k] [] [] c) (λD g H=>∀b ba,nz (eV P w b8) (lX q.X q.X.A O b ba) (tJ D)->dv (lX q.X q.X.A O b ba) (tJ D) D g H)
def alc{α:Type}[Nonempty α]{p:α->Prop}(h:p (Fl λa=>¬p a))(a:α):p a:=JE λn=>JF (p:=λa=>¬p a) #[a,n] h
namespace fz
def p4:=Fl λp4=>¬Oh p4
def X:=p4.X
def N:=p4.N
def Og:=p4.Og
def It:=p4.It
def f:=p4.f
def cd:=p4.cd
def A:=p4.A
def bc:=p4.bc
def eb:=p4.eb
def gS:=p4.gS
def E:=p4.E
def t:Oh p4:=by
 intro body dv np fp eD CB XQ kq pos i tB fM ak E cL hm B ae ah s G H D I h;show wpAny_Try_except ?_;show ct (ae (_++ah) _ (tJ D) ?aC [] s G H D (Of I Z I.ok.hd λp aC=>I.pin p<|by simpa using aC)<|h _ _ ?aC) λjH s1 q=>?q;case q=>
  let un:∀{ald:e0}{d:L2.St}{f:aw}{ba:aB->bl->Prop},aN (lX X ald O (X.f6++ah) ba) [] d f s1->aN X ah d f s1:=λJ=>Iq I.ok J bg
  cases jH with
  |next=>let#[d,f,j,q]:=q;show BH #[d,f,un j,q]
  |brk=>let#[d,f,j,q]:=q;show#[d,f,un j,q]
  |cont=>let#[d,f,j,q]:=q;show#[d,f,un j,q]
  |ret u=>let#[v,d,f,j,r,q]:=q;show#[v,d,f,un j,r,q]
 case aC=>
  intro uR d f s1 e s' y au;let#[bf,T,bD,C,n,hv,N,m,rfl,ale,#[V,cc,jg],fz,#[ns,aJ],#[lj,o0],#[f1,f2,fm],os,f9,un,bL,n',dL,q]:=au;cases dL;let B:=B C ale;let j:=y.yx (s':=s') (ch:=[]) os un bL f9 λb z=>a8 z bg;let J:aN X ah d N s':=Iq I.ok j λp aC=>r2 _ aC;let big:∀b,s1.heap.objs.size<=b->(b∈X.ex\/eb.heap.objs.size<=b)/\b≠X.env.locals/\(∀x c,X.env.cells.lookup x=Y c->c≠b)/\∀p∈X.f6++ah,p.1≠b:=λb ae=>by
   show#[.inr<|dK y.jh ae,λz=>?_,λx c e z=>?_,λp aC z=>?_]
   .show a8 y.lt (p6.mpr (by rwa[z]at ae))
   .let#[v,o,r,_]:=y.cell x c e;show a8 (dF r) (p6.mpr (by rw[z];show ae))
   .show a8 (dF (y.pin p<|r2 _ aC).1) (p6.mpr (by rw[z];show ae))
  let w5:s1.heap.objs.size<=s'.heap.objs.size:=by let#[_,_,_,_,_,_,_,_,_,_,r,_]:=fz;show ul<|OB cc<|dF r
  let Oi:∀{b c:ao},s1.heap.objs.size<=b->s1.heap.objs.size<=c->∀a∈[b,c],_:=λ{b c} ae hc a ax=>big a (by
   obtain rfl|ax:=eG.mp ax
   .show ae
   .rw[gX.mp ax];show hc)
  show bP (bJ P w) _ (ui (.ref bf) _) _ _ s';show TV (base:=fC) (L:=eb.heap.objs.size) J.ok.frames J.stack Z Z fz λh1 t1 dW=>?_;let zg:=Oe J dW f1 f2<|Oi V cc;let#[ix,pP,ac,ts,he,hc,tI,hd,alf,ne,dY,eE,bO]:=t1;show AK (L:=eb.heap.objs.size) (s:={s' with heap:=h1}) he hd alf ne dY eE (q9.mp bO).1 λaj fQ w4=>?_;let Oj:N s'.heap.objs.size=none:=bL.fresh<|bK _;let zh:=Oe (s:={s' with heap:=h1}) zg (bf:=bf) (T:=s'.heap.objs.size) (h1:=aj) #[λb o _ cv _ r=>(w4 b cv).trans r,λb o _ cv r=>#[o.slots,(w4 b cv).trans r]] f1 Oj<|Oi V w5;show wpAny_handleBy_cons (codeAny_handlers_test ?_) (by intro q;cases q);let#[rS,wX,NO,G2,H2,alg,alh,o8,ali,Ep,L1,XR,Bp]:=fQ;let wY:bD∉eT X.stack:=λae=>by let#[_,o,bv,_]:=y.stack.mem ae;rw[jg]at bv;cases bv
  let alj:bD∉X.bb:=λae=>wY<|e9 _ ae;let alk:h1.Ns1 bD m:=ns.at λo r=>dW.ee bD o lj o0 wY r;let XS:bD≠s'.heap.objs.size:=by let#[o,_,_,r,_]:=ns;show eg<|dF r
  let XT:aj.Ns1 bD m:=alk.at λo r=>(w4 bD XS).trans r;let#[dV,sz,alm]:=RN XT;let aln:∀v,dV.data≠.cell v:=λv z=>by let#[o,es,cD,r,XU,_]:=XT;rw[sz]at r;cases r;rw[z]at XU;cases XU
  let alo:bD≠X.env.locals:=λz=>by let#[_,#[o,_,_,r,_],_]:=y.loc;let r:s1.heap.get? X.env.locals=Y o:=r;rw[<-z,jg]at r;cases r
  let XV:rS.cls=.ref C:=alg.trans hc;let alp:rS.dict=Y bD:=alh.trans tI;let XW:∀p∈[(bf,rS),(bD,dV)],aj.get? p.1=Y p.2/\N p.1=U/\p.1≠X.env.locals/\p.1∉X.bb/\∀v,p.2.data≠.cell v:=λp aC=>by
   obtain rfl|aC:=eG.mp aC
   .show#[H2,f1,(big bf V).2.1,y.Gb V,λv z=>by rw[o8]at z;cases z]
   .rw[gX.mp aC];show#[sz,fm,alo,alj,aln]
  let alq:aj.get? s'.heap.objs.size=Y wX/\N s'.heap.objs.size=U/\s'.heap.objs.size≠X.env.locals/\s'.heap.objs.size∉X.bb/\∀v,wX.data≠.cell v:=#[L1,Oj,(big _ w5).2.1,y.Gb w5,λv z=>by rw[XR]at z;cases z];show ct (LM (X:=lX X (X.A.mark<|Y<|.ref bf) false (X.f6++[(s'.heap.objs.size,wX),(bf,rS),(bD,dV)]) _) (x:="Refusal") cL cn ah _ d N (λv bT=>v=.ref tB/\bT=N) (Of zh Z (λz=>by cases z) λp aC=>?pin) #[.ref tB,_,hm,Z,Z,Z]) λc s2 #[v,bT,S,eL,aq,ar]=>?go;case pin=>
   obtain aC|aC:=iV.mp aC
   .obtain aC|aC:=iV.mp aC
    .show zh.pin p<|r2 _ aC
    .obtain rfl|aC:=eG.mp aC
     .show alq
     .show XW p aC
   .show zh.pin p<|q7 _ aC
  case go=>
   subst aq ar;obtain rfl:c=.ref tB:=eL;let qM:=(S.pin (bf,rS)<|by simp[lX]).1;let alr:=(S.pin (s'.heap.objs.size,wX)<|by simp[lX]).1;let ef:=(S.pin (bD,dV)<|by simp[lX]).1;let LT:vM (bJ P w) s2.heap (zE<|.ref bf) (.ref C):=XV▸(Fk qM).andThen .now;let als:=PySem.W.exm_one (M:=bJ P w) S.fS LT B.em;show als.here ?_;show codeAny_handlers_suite_as ?_;show AK (L:=eb.heap.objs.size) qM o8 ali Ep alr XR (q9.mp Bp).1 λfF T1 Iu=>?_;let alu:aN X ah d bT s2:=Iq I.ok S (λp aC=>by
    obtain aC|aC:=iV.mp aC
    .show r2 _<|r2 _ aC
    .show q7 _ aC)
   let Iv:=Oe alu (bf:=bf) (T:=s'.heap.objs.size) (h1:=fF) #[λb o _ cv _ r=>(Iu b cv).trans r,λb o _ cv r=>#[o.slots,(Iu b cv).trans r]] f1 Oj<|Oi V w5;let alv:fF.get? bf=Y rS:=(Iu bf<|c5 Ep).trans qM;let alw:fF.get? bD=Y dV:=(Iu bD XS).trans ef;show CZ (X:=lX X (X.A.mark<|Y<|.ref bf) false (X.f6++[(bf,rS),(bD,dV)]) λ_ _=>True) (ah:=ah) (i:=i) (v:=.ref bf) (Of Iv Z (λz=>by cases z) λp aC=>?alx) fM ak (.inl E) Z (λs5 ro=>?aly)<|.inr E;case alx=>
    obtain aC|aC:=iV.mp aC
    .obtain aC|aC:=iV.mp aC
     .show Iv.pin p<|r2 _ aC
     .let z:=XW p aC;obtain rfl|aC:=eG.mp aC
      .show#[alv,z.2]
      .rw[gX.mp aC]at z ⊢;show#[alw,z.2]
    .show Iv.pin p<|q7 _ aC
   case aly=>
    let HX:i<z9 d:=by rw[Iv.len];show(jP.mp ak).1
    let inst:∀{ba:aB->bl->Prop}{ps:List (ao×Obj)}{G:L2.St}{H:aw}{s:bl},aN (lX X (X.A.mark<|Y<|.ref bf) false (X.f6++[(bf,rS),(bD,dV)]) ba) ps G H s->ES s.heap bf rS C (Y dV):=λJ=>#[(J.pin (bf,rS)<|by simp[lX]).1,XV,(by unfold PySem.W.notCls;rw[o8]),(by rw[alp];show(J.pin (bD,dV)<|by simp[lX]).1)]
    let mf:∀{ba:aB->bl->Prop},bS (lX X (X.A.mark<|Y<|.ref bf) false (X.f6++[(bf,rS),(bD,dV)]) ba) (.Attribute (.Name "refusal" fp) "number" eD) (λG H Q=>G[i]?=Y (Y<|.ref bf)/\Q (.int n) H):=by intro ba ps s G H Q J #[e,q];show RU Z<|ct (Rk (i:=i) (x:="refusal") ak (.inl E) cn cn ps s G H (λv f=>v=.ref bf/\f=H) J #[_,e,Z,Z]) λu s1 h0=>?_;let#[v,H1,zg,bA,aq,ar]:=h0;subst aq ar;obtain rfl:u=.ref bf:=bA;show ak3 zg.fS B.lq (inst zg) B.ga B.gt (OK B.hd B.no Z<|by rw[alm,aJ]) Z #[.int n,H1,zg.tok _,#[hv,Z],q]
    let F:∀{ba:aB->bl->Prop}{yB:L2.St}{K:aw}{pA:bl}{Q:bl->Prop},aN (lX X (X.A.mark<|Y<|.ref bf) false (X.f6++[(bf,rS),(bD,dV)]) ba) ah yB K pA->(∀pB oW,aN X ah oW K pB->Q pB)->
      bP (bJ P w) X.A (do bindName X.env "refusal" .none;Ov X.env "refusal" kq) (λ_ s=>Q s) X.er pA:=by
     intro ba yB K pA Q R k
     let R:aN X ah yB K pA:=Iq I.ok R (λp aC=>by
      obtain aC|aC:=iV.mp aC
      .show r2 _<|r2 _ aC
      .show q7 _ aC)
     let alz:i<z9 yB:=by rw[R.len];show(jP.mp ak).1
     unfold bindName Ov
     show aY (aY<|sX<|wpAny_point<|aY<|CZ R fM ak (.inl E) (v:=.bB) Z (λpB Ol=>wpAny_point<|BJ<|ak8 Ol fM ak E (v:=.bB) (by rw[zL alz]) λCK alA=>k CK _ alA)<|.inr E)
    show ct (aP (cS<|oa<|fX mf nx) ah s5 _ bT {D with cM:=λ_ _=>False,kn:=λ_ _=>False,fI:=λ_ _=>False} (ala ro) #[by rw[zL HX],by show 1<=sizeLine;decide,λl E=>q l E]) λjH pA g=>?_
    cases jH with
    |next=>let#[_,_,_,g]:=g;show g.elim
    |brk=>let#[_,_,_,g]:=g;show g.elim
    |cont=>let#[_,_,_,g]:=g;show g.elim
    |ret u=>let#[v,yB,K,R,alB,g]:=g;show F R λpB oW Ol=>#[v,oW,K,Ol,alB,g]
end fz
def alC:∀e,Oh e:=alc fz.t
def alD(i:Nat):Hn K (D.x 0) (D.x i):=pG.rc i
def tL.hK{Q i:ck}{E:dG}{st d:Int}{b:br}(h:tL H Q E st d b)(k:∀p c o,c p=Y (.bq o)->z9 o<=1048576->Q (.ref p) c->i (.ref p) c):tL H i E st d b:=by
 unfold tL at h ⊢;split
 .rename_i z;rwa[aR z]at h
 .rename_i z
  rw[aM z]at h
  cases e:zJ b with
  |none=>rwa[e]at h
  |some ps=>
   rw[e]at h;let#[n,r,a,f,g]:=h;show#[n,r,a,f,λs j=>?_];let g:=g s j;split
   .rename_i y;rwa[aR y]at g
   .rename_i y;rw[aM y]at g;show λp c x n e l=>k p c _ e (by rwa[show(d8 s.out).length=z9 s.out from hR ..])<|g p c x n e l
set_option tactic.hygienic true in
def alE(x:bX 20 32 Bn):
  xa B:=by
 let#[fd,F,b]:=T.d 148
 let#[W,W,W,W,W,W,W,W,W,W,L,W]:=F.ex
 let S:rq ["steps","most","text","written","refusal"] (pm 148) (hY<|st 148):=by decide +kernel
 let aG:=S.aG
 show#[fd,tG.TJ F S (λac H Q E h=>?_) (λu A bc s H ac Q E G h=>?_),by unfold tO;rw[show B.K.lookup (B.D.f 148)=_ from L]]
 .let#[st,g,dp,b,rfl,W]:=h;rfl
 .let#[st,g,dp,b,rfl,y,ae,q]:=h;show#[_,(aU (alC #[7,7,u,A,bc,s,H,E] (dv:=λr j=>Gn (yU r (eV P w b8) j (sC r "written_by")<|lk (hM 0)<|lk (hM 1)<|lk (hM 2) kP)<|sl 3) aG (i:=4) Z Z Z T.u7.aL (λC #[i,e]=>e▸alD i) ?ae)<|aP<|cS<|iO aaN (oa<|bo<|j5 mY Z lr mD<|bo<|aa 3)<|aa 3),?_]
  .intro I ba j aC;show aP<|dr 3 aG<|cP aC<|fX (aa 0)<|cH (aa 1)<|aa 2
  intro I ba aC;show#[.ref _,_,(T.t 149 Z).aL,Z,9,(T.t 149 Z).dX,#[9,9,9,dk (ak1 x) G #[st,g,dp,b,Z,y,ae,tL.hK (Q:=λv a=>∀p o,v=.ref p->a p=Y (.bq o)->z9 o<=1048576->∀nr l,a nr=U->a l=U->l≠nr->Q (.ref l) (aE (aE a nr<|.bq [.int (z9 o)]) l<|.bq (.int (z9 o)::o))) q λp a o e l z=>?_]]];let big:5000000<sizeLine:=by decide
  dsimp only[sl];show#[9,p,o,Z,.inl<|bM.of e,by show 1<=sizeLine;decide,λnr n=>#[9,nr,p,_,9,Z,bj,(aK<|cx e n).trans e,by show 1+z9 o<=_;lia,λk c=>?_]];let m:k≠nr:=λz=>by rw[z,bj]at c;cases c
  rw[aK m]at c;show z p o Z e l nr k n c m
def alF(h:zS e=O):e.map V.int=d8 (ra e)/\∀c∈ra e,c<256:=by
 let h:∀z∈e,0<=z/\z<256:=λz a=>by have:=BY.mp h z a;simpa [Sn24Neutral.natural] using this
 show#[?_,λc b=>?_]
 .unfold d8 ra;rw[B2];show Jg λz a=>?_;show V.int z=V.int ((z.toNat:Nat):Int);rw[Ps (h z a).1]
 .let#[z,a,rfl]:=s6.mp b;have:=h z a;lia
def alG(ask:Ch steps most text=O)
  (g:∀l ab,ab l=Y (.bq<|(zX steps most text).map V.int)->Q (.ref l) ab):DK H Q steps most (ra text):=by
 let a:=ask
 unfold Ch Pp at a
 rw[vX,vX]at a
 let#[d,f,u]:=a
 let i:(ra text).length=z9 text:=hR ..
 let d:(zR (z9 text:Int)&&(zR steps&&(zR most&&(zS text&&Pq text (z9 text) 0 65536))))=true:=d
 simp only[vX]at d
 let#[cf,cv,fo,A,t]:=d
 let le:z9 text<=65536:=by have:=kc t;split at this<;>lia
 let c:zX steps most text=match Po #[ra text,z9 text,steps,most]with|some a=>a.value::Sn24Neutral.ints a.out|none=>[]:=rfl
 let one:∀n:Int,zX steps most text=[n]->∀ab,(λ(v:aB) (_:Option ao) (ab:aw)=>∃n:Int,v=.int n 0/\∀l,ab l=U->Q (.ref l) (aE ab l<|.bq [.int n])) (.int n 0) U ab:=λn e ab=>#[n,Z,λl K=>g l _ (by rw[bj,e];rfl)]
 let lo:w9 (ra text) steps most↔((z9 text:Int)<0\/((Sn24.MOST:Nat):Int)<(z9 text:Int)\/steps<0\/((OU:Nat):Int)<steps\/most<0\/((BV:Nat):Int)<most):=by
  unfold w9;rw[i,show((Sn24.MOST:Nat):Int)=65536 from Z,show((OU:Nat):Int)=100000000 from Z,show((BV:Nat):Int)=1048576 from Z];let m:∀s k:Int,¬ (0<=s/\s<=k)↔s<0\/k<s:=λs k=>by lia
  rw[m,m,or_assoc];clear cf cv fo A t f u one c ask g le;show#[λh=>.inr (h.imp_left λz=>by clear h;lia),λh=>(h.resolve_left (by clear h;lia)).imp_left λz=>by clear h;lia]
 unfold Po at c
 dsimp only at c
 unfold DK tL
 by_cases o:w9 (ra text) steps most
 .rw[aR<|lo.mp o]at c;rw[aR o];show one (-2) c
 .rw[aM λz=>o<|lo.mpr z]at c
  rw[aM o]
  cases q:zJ (ra text)with
  |none=>rw[q]at c;show one (-3) c
  |some ps=>
   rw[q]at c
   dsimp only at c ⊢
   cases j:uo ps 1000000000 (Sn24.first ps steps.toNat)with
   |none=>rw[j]at c;let f:(!(zX steps most text).isEmpty)=true:=f;cases c▸f
   |some r=>
    rw[j]at c;show#[1000000000,r,j,#[λb e=>?_,λs e=>?_,λs e=>?_],λs e=>?_]
    .subst e;cases b<;>show one _ c
    .subst e;show one _ c
    .subst e;show one _ c
    .subst e;let c:zX steps most text=match (if most<(z9 s.out:Int)then (#[-1,[]]:Sn24.Ans)else #[(z9 s.out:Nat),s.out])with|a=>a.value::Sn24Neutral.ints a.out:=c
     by_cases z:most<(z9 s.out:Int)
     .rw[aR z]at c ⊢;show one _ c
     .rw[aM z]at c ⊢;intro p ab x n e l D L y C w I B E G F;cases y;cases e▸C;show g B _ ?_;rw[bj,c];show Y (hs.bq (.int ((d8 s.out).length:Nat)::d8 s.out))=Y (hs.bq (.int ((z9 s.out:Nat):Int)::(Sn24Neutral.ints s.out).map V.int));rw[show(d8 s.out).length=z9 s.out from hR ..,show(Sn24Neutral.ints s.out).map V.int=d8 s.out from B2 ..]
def alI(ask:Ch steps most text=O):zS text=true:=by unfold Ch Pp at ask;rw[vX]at ask;let a:(zR (z9 text:Int)&&(zR steps&&(zR most&&(zS text&&Pq text (z9 text) 0 65536))))=true:=ask.1;simp only[vX]at a;show a.2.2.2.1
def alJ(ask:Int->Int->List Int->Bool)(g:Int->Int->List Int->List Int)(i:∀s m t,ask s m t=O->zS t=O)
  (h:∀s m t,ask s m t=O->∀(H:aw) (Q:ck),(∀l c,c l=Y (.bq<|(g s m t).map V.int)->Q (.ref l) c)->DK H Q s m (ra t))
  (K:b2) (H:aw) (xs:List V) (a:Cg B8) (o:zW B8 ask a=O) (p:qz K H xs (xW B8 a)):
  Hp K xs H (λv c=>kQ K c v<|Pn.enc<|zW B8 g a) λq q q=>False:=by
 cases p with
 |cons n d=>
  cases d with
  |cons d f=>
   cases f with
   |cons f k=>
    cases k
    cases n
    cases d
    cases f with
    |bq ai j=>have e:=Ta a.2.2.1 _ j;subst e;have ask:ask a.1 a.2.1 a.2.2.1=true:=o;have b:=alF<|i _ _ _ ask;show#[a.1,a.2.1,_,ra a.2.2.1,Z,by rw[<-b.1];show ai,b.2,h _ _ _ ask _ _ λl c e=>.bq (bM.of e)<|S9 _]
def alK(p:jt):∃fd,tO (Hd.c7 p) (Hd.cz.f 148)=Y fd/\∀(s:bl) (us:List aB),z9 us=(pm 148).length->zB s fd #[us,[]] ((pm 148).zip us):=by
 let a:=Hd.oi (Hd.UD p) (i:=148) cn
 let b:=Hd.oi (Hd.Mj p) (i:=148) cn
 cases e:tO (Hd.c7 p) (Hd.cz.f 148)with
 |none=>rw[e]at b;injection b with b;cases b
 |some fd=>rw[e]at a;let a:fd=Hd.UC 148 fd:=iX a;show#[fd,Z,λs us c=>.of_eq (by rw[a];show Hd.UK _ _ _ _ _ _ cn c)]
def alL(ask:Int->Int->List Int->Bool)(c:Int->Int->List Int->List Int)(e:∀s m t,ask s m t=O->zS t=O)
  (d:∀s m t,ask s m t=O->∀(H:aw) (Q:ck),(∀l b,b l=Y (.bq<|(c s m t).map V.int)->Q (.ref l) b)->DK H Q s m (ra t))
  (r:PySem.W.OpenSpec) (g:r=#[xU,XY,B8,Pn,ask,c]) (K:b2) (H:aw) (xs:List V) (a:Cg r.args)
  (h:zW r.args r.asked a=O) (i:qz K H xs (xW r.args a)):Hp K xs H (λv b=>kQ K b v<|r.ret.enc<|zW r.args r.f a) λq q q=>False:=by
 subst g
 show alJ ask c e d K H xs a h i
def amL{b:List Str}{ja:(Str->Option aB)->df->Prop}{d:DefRec}(t:d.name="run")(j:d.params.defaults=[])(o:Jw.wellSaid=O):
  OR q b ja Hd.X1.says Jw d [] (λf ac=>ph f ac):=by
 show abX (r:=Jw) (k:=415) (K:=Hd.c7) (ps:=pm 148) (c9:=λw=>eV xU w λC=>∃i,C=Hd.cz.x i) (sp:=λw=>Hp<|Hd.c7 w.params) o j Z #[Z,cn,cn] (λw h y=>y)
  (λw aL B h V ak g e=>?F) (λw H xs a V V ask u=>alL Ch zX (λV V V h=>alI h) (λV V V h V V k=>alG h k) _ Z _ H xs a ask u) (λw H s e A z=>?G)
 case G=>let#[V,V,V,V,V,V,V,V,V,V,V,V,V,V,V,V,V,V,V,z]:=z;show z
 let hm:∀x r,q1 (Hd.c7 w.params) k0 x=Y r->aL x=r:=λx r z=>by
  cases r with
  |none=>show PySem.W.mg_none_of ak g z
  |some v=>show PySem.W.mg_of ak g z
 rw[t]at e
 let l:aL "run"=Y (.ref<|Hd.cz.f 148):=(Hd.tt hm 148 Z).aL
 cases l▸e
 let#[fd,n,m]:=alK w.params
 show#[fd,m,λbase V V=>?_]
 let#[c,F,p]:=UU.2 (alE ain) _<|Hd.UR (P:=xU) (base:=base) hm
 cases (show tO (Hd.c7 w.params) (Hd.cz.f 148)=Y c from p).symm.trans n
 show F
end Ho
theorem PySem.Challenge.cw_handover_s01_run_holds : PySem.Challenge.rw_handover_s01_run.Holds := by
 exact Ho.hdZq (fun _ _ _ _ a b=>Ho.amL a b Ho.wsZq) Ho.wsZq
