import PyProof.Rows.All
import Wide.All
import OpenK.AllK
import Wide.FinOn
import PyProof.EqAt
import PyProof.EqKinds
import PyProof.TupleCall
import KE.BitLaws
import Open.SpecLaws
import KE.OsHead
import KE.OsGo
import KE.KTryMore
import KE.KLooksOwn
import PyProof.RulesAs
import PyProof.RulesDel
import PyProof.ExcBaseAll.Exception
import PyProof.InstStoreFacts
import PyProof.ExcArgs
import PyProof.ExcAttrAll.Exception
import PyProof.Draws
import PyProof.NeKinds
import PyProof.Rows.SortRuns
import PyProof.Rows.SortG.SortRunsSt
import KE.KSortTup
import KE.KDictLaws
import KE.KMinKey
import PyProof.Rows.RuleM_int
import KE.KSortTupUse
import PySem.Challenge.RW_wallbonds_s05_fill
set_option Elab.async false
set_option linter.all false
set_option maxRecDepth 100000
set_option maxHeartbeats 4000000
namespace Wm
end Wm
namespace Ws
end Ws
namespace Wf
end Wf
namespace Wc
end Wc
namespace Wg
end Wg
namespace Wp
end Wp
open Wm Ws Wf Wc Wg Wp
open Bd (Bond Bytes Filled Opening Panel Part Piece Wall ascii bitsOf cutsIn cutsOf endIs fillOf floorOf inOrder isBig isDigit isSmall jointsFrom jointsOf judge judgeWall lengthOf lettersOf near piecesAt piecesIn readNumber readRow repeated rowBefore sooner stretchesFrom valueOf)
open PySem.W (Frag InitBack KatTups Looks WalkOS any_some bind_fn callWith_K callWith_K0 cellsFrom_some check_slot clsIn codeIn emptyDict exmOne findIn findObj_own fnOf handedIn hasDictIn instObj isFn keepIn length_le_weightAllW lookIn looks_clsIn looks_findIn looks_mroIn looks_typeIn makesIn methodCall_KW methodObj mg_of mroIn plainGet plainGet_of plainOver set_plain specialIn takerIn typeIn)
open Array renaming getElem?_eq_some_iff->R9,getElem?_setIfInBounds_ne->BA,toList_map->RA,length_toList->VF,size_map->MG,perm_iff_toList_perm->NG,getElem?_eq_none->FJ
open Bool renaming and_eq_true->E1,false_ne_true->X1,eq_iff_iff->d3,false_eq_true->F3,not_eq_true'->P3,or_eq_true->Y3,eq_false_iff->S4,false_and->QB,and_eq_true_iff->RB,true_and->TC,or_false->NH,false_or->OH,and_true->TH
open Classical renaming byContradiction->CC,epsilon_spec->gE
open Except.ok renaming inj->Z2
open Iff renaming rfl->sC
open Int renaming toNat_natCast->c5,zero_add->lP
open List renaming length_map->B0,getElem?_eq_getElem->K0,getElem?_eq_some_iff->P0,map_append->U0,size_toArray->K1,mem_of_getElem?->M1,length_cons->N1,getElem?_map->P1,mem_singleton->Q1,mem_cons->S1,length_append->T1,take_length->Y1,length_take->Z1,mem_append->F2,getD_eq_getElem?_getD->Q2,mem_map->S2,mem_cons_of_mem->i3,map_map->B3,append_nil->D3,map_cons->L3,length_eq_zero_iff->d4,mem_append_right->i4,mem_iff_getElem->C4,mem_cons_self->M4,mem_filter->R4,length_pos_iff->D5,nodup_cons->S5,filter_cons->Y5,getElem_map->Z5,length_replicate->i6,length_range->o6,mem_range->w6,mem_append_left->B6,mem_filterMap->C6,getElem?_append_right->G6,length_nil->O6,getElem?_set_self->Q6,drop_eq_getElem_cons->W6,getElem?_range->Z6,map_congr_left->b7,all_eq_true->Q7,mem_flatMap->R7,getElem?_append_left->w8,length_singleton->D8,length_filter_le->E8,filter_append->M8,all_cons->S8,any_cons->T8,getElem?_set_ne->V8,mapM_cons->W8,append_assoc->b9,foldl_cons->h9,flatMap_append->o9,lookup_cons->L9,take_append_drop->Z9,pairwise_iff_getElem->cA,of_mem_zip->gA,find?_cons->iA,range_succ->jA,eq_of_mem_replicate->yA,replicate_succ->HA,take_succ_cons->KA,mem_nil_iff->aB,find?_eq_some_iff_append->cB,range_succ_eq_map->lB,length_set->oB,forIn_cons->pB,dropLast_concat_getLast->rB,contains_iff_mem->EB,getElem_inj->kC,length_drop->pC,drop_length->rC,takeWhile_cons->HC,zip_cons_cons->dD,contains_cons->jD,map_inj_right->kD,mem_mergeSort->pD,pairwise_cons->qD,find?_eq_none->rD,map_nil->RD,flatten_cons->SD,all_map->TD,foldl_append->lE,getElem?_toArray->GE,any_eq_true->RE,getElem_mem->aF,filter_nil->FF,length_zip->JF,filterMap_cons->RF,nodup_iff_pairwise_ne->OG,mem_of_find?_eq_some->kH,pairwise_map->FH,getElem?_take_of_lt->MH,getElem?_replicate->yI,getElem?_cons_zero->II,zipIdx_cons->XI,getElem_zip->YI,take_of_length_le->BJ,length_pos_of_mem->UJ,getElem?_eq_none->HK,forIn_nil->mL,drop_zero->zL,any_map->VN,all_nil->gO
open List.Nodup renaming idxOf_getElem->nI
open List.cons renaming inj->xB
open Nat renaming le_refl->j1,zero_le->D1,lt_of_lt_of_le->P2,ne_of_lt->K3,le_trans->k4,lt_irrefl->L5,testBit_succ->N8,eq_of_testBit_eq->X8,lt_of_le_of_lt->Q9,pow_le_pow_right->sA,mul_le_mul->iC,le_of_eq->mC,testBit_zero->uC,shiftRight_eq_div_pow->BC,le_of_succ_le->UD,lt_succ_of_lt->VD,lt_trans->WD,lt_trichotomy->kE,one_shiftLeft->sE,lt_succ_self->ME,min_le_right->QE,testBit_and->GF,ne_of_gt->bG,zero_add->fG,testBit_or->KG,mod_two_eq_zero_or_one->aH,lt_pow_two_of_testBit->jH,shiftLeft_eq->SI,le_of_lt->rJ,and_comm->QJ,and_le_left->vK,two_pow_pos->AK,le_succ->lL,mod_lt->bN,pow_succ->iO,sub_self->nO
open Ne renaming symm->N2
open Option renaming bind_some->F4,map_some->aD,bind_eq_some_iff->FD,isSome_iff_exists->LH,map_eq_some_iff->CJ
open Option.some renaming inj->M0
open Prod renaming ext->ON
open Prod.mk renaming inj->WB
open PyProof.Rows renaming callWith_type1->j5,slot_tuple_getitem->B5,listUpdate_at->YH
open PySem renaming wpAny_bind->z0,wpAny_pure->S0,mem_of_lookup->O3,wpAny_holding->W4,wpAny_truthy_bool->M5,wpAny_newObj_type->N5,wpAny_field->O5,wpAny_mono->P5,wpAny_Call_Name_kw->F6,wpAny_callSpecial?_slot->O7,wpAny_standAt->w9,wpAny_call_entry->J9,wpAny_setField->P9,wpAny_passesOwn->fA,wpAny_loadPart->MA,wpAny_seqItems->SB,wpAny_tryCatch->VB,codeAny_mono->oC,wpAny_execs_nil->ZC,tupleKind_room_in1->fD,wpAny_throw->DD,richCompare_meets_room->OD,wpAny_pyIter_enum->XD,plainObj_wpAny_Assign_Attribute->vE,wpAny_call->OE,sizeLine_eq->kF,wpAny_typeNameOfWhole_keyiter->pF,pushCells_keeps->xF,codeAny_builtin->zF,wpAny_pyIter_tuple->zG,wpAny_letOwnedTupleGo_enum->EG,wpAny_pyIter_list->rH,wpAny_letGo->EH,wpAny_attempt->QH,wpAny_typeNameOf_keyiter->RH,wpAny_handled->SH,plainId_quiet->ZH,wpAny_lookBehind->vI,pastItsLine_dict->wI,wpAny_forIn_list->zI,noFill_tuple_add->BI,wpAny_pyNext_range_end->sJ,wpAny_pyIter_rangeiter->tJ,call_meets->AJ,wpAny_updateSeq->uK,wpAny_isTrue_Compare1->CK,wpAny_alloc->rL,seq_tuple_add->FM,wpAny_newList->KM,typeIs_int->VM,wpAny_rule->YM,wpAny_nsSet1->MN,concat_meets->NN,wpAny_typeOf->PN,seqIndex_neg->RN,call_meetsIn->XN
open PySem.Around renaming under_plainId->sF
open PySem.AutoSeq1 renaming sub_tuple_tuple->OC
open PySem.Calls renaming spliced_cons->eB,callWith_builtin->gB,evalArgs_plain->mF,Name_function_global->xG,spliced_nil->uH
open PySem.F renaming plainAttrs_list->j2,slot_list_append->j3,type_list_append->o3,plain_min_loop->T6,slot_list_extend->o7,type_list_extend->t7,slot_tuple_iterator_next->S9,slot_dict_keyiterator_next->qB,args_tuple_add_2->QC,entry_tuple_add->AD,slot_tuple_add->QD,entry_min_loop->iE,slot_dict_get->BE,args_tuple_iterator_next_1->BF,slot_dict_setdefault->IF,entry_tuple_iterator_next->eG,args_tuple_lt_2->AI,slot_list_index->EI,args_dict_get_3->GI,plainAttrs_dict->HI,entry_tuple_lt->xJ,entry_dict_get->EJ,slot_tuple_lt->DK,slot_enumerate_next->FK
open PySem.Heap renaming get?_push_of_some->V0,get?_push_size->V1,lt_size->K2,size_push->Z4,get?_update_other->Q5,get?_update_self->DB,get?_update_ne->JC
open PySem.Heap.SameBut renaming update->WF
open PySem.Paired renaming length->J1,snoc->B4
open PySem.PassesOwn renaming looking->xH
open PySem.Sem renaming wp_bind'->S6,wp_mono->DL,wp_pure'->zO
open PySem.SeqAt.EqAt renaming int_int->DG
open PySem.W renaming looks_findIn->qA,looks_clsIn->GA,looks_mroIn->IA,callWith_K->fB,any_some->lC,methodCall_KW->AE,length_le_weightAllW->yF,plainGet_of->TF,callWith_K0->UF,check_slot->GG,set_plain->sH,mg_of->eI,cellsFrom_some->wJ
open PySem.W.Looks renaming ld->M9,of_pure->DE,here->BG
open PySem.Within renaming cons->tH
open StateT renaming run_bind->HF
open Std.Legacy.Range renaming forIn_eq_forIn_range'->UB
open String renaming toList_ofList->qF
open Sum.inl renaming inj->uA
open True renaming intro->g9
open UInt8 renaming toNat_inj->DF
def D0:=@if_neg
def J0:=@if_pos
def O0:=@decide_eq_true_eq
def Y0:=@decide_eq_false
def F1:=@decide_eq_true
def S3:=@decide_eq_decide
def O4:=@beq_iff_eq
def d5:=@of_decide_eq_true
def K5:=@decide_eq_false_iff_not
def c6:=@beq_eq_false_iff_ne
def K6:=@of_decide_eq_false
def V6:=@congrArg
def N7:=@if_false
def qC:=@beq_self_eq_true
def aE:=@bne_self_eq_false
def cG:=@if_true
def DJ:=@not_or
def cM:=@or_false
namespace L2
inductive E2{A B:Type}(p:A->B->Prop):Prop
 |mk (a:A) (b:B):p a b->E2 p
inductive E3{A B C:Type}(p:A->B->C->Prop):Prop
 |mk (a:A) (b:B) (c:C):p a b c->E3 p
inductive E4{A B C D:Type}(p:A->B->C->D->Prop):Prop
 |mk (a:A) (b:B) (c:C) (d:D):p a b c d->E4 p
inductive E5{A B C D E:Type}(p:A->B->C->D->E->Prop):Prop
 |mk (a:A) (b:B) (c:C) (d:D) (e:E):p a b c d e->E5 p
inductive E6{A B C D E F:Type}(p:A->B->C->D->E->F->Prop):Prop
 |mk (a:A) (b:B) (c:C) (d:D) (e:E) (f:F):p a b c d e f->E6 p
inductive E7{A B C D E F G:Type}(p:A->B->C->D->E->F->G->Prop):Prop
 |mk (a:A) (b:B) (c:C) (d:D) (e:E) (f:F) (g:G):p a b c d e f g->E7 p
inductive A3(p0 p1 p2:Prop):Prop
 |mk:p0->p1->p2->A3 p0 p1 p2
inductive A4(p0 p1 p2 p3:Prop):Prop
 |mk:p0->p1->p2->p3->A4 p0 p1 p2 p3
inductive A5(p0 p1 p2 p3 p4:Prop):Prop
 |mk:p0->p1->p2->p3->p4->A5 p0 p1 p2 p3 p4
inductive A6(p0 p1 p2 p3 p4 p5:Prop):Prop
 |mk:p0->p1->p2->p3->p4->p5->A6 p0 p1 p2 p3 p4 p5
inductive A7(p0 p1 p2 p3 p4 p5 p6:Prop):Prop
 |mk:p0->p1->p2->p3->p4->p5->p6->A7 p0 p1 p2 p3 p4 p5 p6
inductive A8(p0 p1 p2 p3 p4 p5 p6 p7:Prop):Prop
 |mk:p0->p1->p2->p3->p4->p5->p6->p7->A8 p0 p1 p2 p3 p4 p5 p6 p7
inductive A9(p0 p1 p2 p3 p4 p5 p6 p7 p8:Prop):Prop
 |mk:p0->p1->p2->p3->p4->p5->p6->p7->p8->A9 p0 p1 p2 p3 p4 p5 p6 p7 p8
end L2
namespace L2
open PySem PySem.Spec PyProof.Rows
abbrev YC:=Sum Int Str
def LQ:YC->Value->Bool
 |.inl k,v=>Value.isInt k v
 |.inr x,v=>Value.isStrOf x v
def zh3(w:World):YC->Int
 |.inl k=>hashInt k
 |.inr x=>hashStr w x
theorem t9:∀{k:YC}{v:Value},LQ k v=true->(∃i t,k=Sum.inl i/\v=Value.int i t)\/(∃x t,k=Sum.inr x/\v=Value.str x t)
 |.inl i,v,h=>by
  obtain⟨t,e⟩:=Value.isInt_shape (k:=i) (v:=v) h;exact .inl ⟨i,t,rfl,e⟩
 |.inr x,v,h=>by
  obtain⟨t,e⟩:=Value.isStrOf_shape (x:=x) (v:=v) h;exact .inr ⟨x,t,rfl,e⟩
theorem Fp(i:Int)(t:Tok):LQ (.inl i) (.int i t)=true:=by simp[LQ,Value.isInt]
theorem Gp(x:Str)(t:Tok):LQ (.inr x) (.str x t)=true:=by simp[LQ,Value.isStrOf]
theorem zcN(a b:Int):decide ((Sum.inl a:YC)=Sum.inl b)=(a==b):=by
 by_cases e:a=b
 all_goals grind
theorem zcO(a b:Str):decide ((Sum.inr a:YC)=Sum.inr b)=decide (a=b):=by
 grind
theorem zcP(a:Int)(b:Str):decide ((Sum.inl a:YC)=Sum.inr b)=false:=Y0 (λq=>nomatch q)
theorem zcQ(a:Str)(b:Int):decide ((Sum.inr a:YC)=Sum.inl b)=false:=Y0 (λq=>nomatch q)
def X9(prog:Program)(w:World):PySem.KeyKind prog w YC where
 is:=LQ
 hash:=zh3 w
 inj:=λv a b ha hb=>by
  rcases t9 ha with⟨i,t,rfl,rfl⟩|⟨x,t,rfl,rfl⟩
  .rcases t9 hb with⟨j,u,rfl,e⟩|⟨y,u,rfl,e⟩
   .injection e with e1 _;rw[e1]
   .exact nomatch e
  .rcases t9 hb with⟨j,u,rfl,e⟩|⟨y,u,rfl,e⟩
   .exact nomatch e
   .injection e with e1 _;rw[e1]
 byValue:=λk v h=>by
  rcases t9 h with⟨i,t,rfl,rfl⟩|⟨x,t,rfl,rfl⟩<;>rfl
 pyHash:=λhv h=>by
  rcases t9 hv with⟨i,t,rfl,rfl⟩|⟨x,t,rfl,rfl⟩
  .exact wpAny_pyHash_int h
  .exact wpAny_pyHash_str h
 eqBool:=λhu hv h=>by
  rcases t9 hu with⟨i,t,rfl,rfl⟩|⟨x,t,rfl,rfl⟩
  .rcases t9 hv with⟨j,u,rfl,rfl⟩|⟨y,u,rfl,rfl⟩
   .rw[zcN]at h;exact wpAny_eqBool_int h
   .rw[zcP]at h;exact SeqAt.EqAt.int_str i t y u _ _ _ _ h
  .rcases t9 hv with⟨j,u,rfl,rfl⟩|⟨y,u,rfl,rfl⟩
   .rw[zcQ]at h;exact SeqAt.EqAt.str_int x t j u _ _ _ _ h
   .rw[zcO]at h;exact wpAny_eqBool_str h
 «strs»:=λk x t v h=>by
  rcases t9 h with⟨i,u,rfl,e⟩|⟨y,u,rfl,e⟩
  .exact nomatch e
  .injection e with e1 _;subst e1;cases v<;>rfl
theorem YZ(prog:Program)(w:World)(i:Int)(t:Tok):(X9 prog w).is (.inl i) (.int i t)=true:=Fp i t
theorem ZZ(prog:Program)(w:World)(x:Str)(t:Tok):(X9 prog w).is (.inr x) (.str x t)=true:=Gp x t
end L2
namespace L2
open PySem PySem.Spec PyProof.Rows
variable {x a b e:Addr}{h h':Heap}{P:Program}{w:World}
inductive V where
 |non|bl (b:Bool)|int (i:Int)|str (x:Str)|byt (b:Array UInt8)|flt (b:UInt64)|ref (a:Addr)|ty (n:String)
 deriving DecidableEq
def T4:V->Value->Prop
 |.non,u=>u=Value.none
 |.bl b,u=>u=Value.bool b
 |.int i,u=>∃t,u=Value.int i t
 |.str x,u=>∃t,u=Value.str x t
 |.byt b,u=>∃t,u=Value.bytes b t
 |.flt b,u=>∃t,u=Value.float b t
 |.ref a,u=>u=Value.ref a
 |.ty n,u=>u=Value.type n
abbrev D4:List V->List Value->Prop:=Paired T4
theorem D4.length{xs:List V}{us:List Value}(r:D4 xs us):xs.length=us.length:=J1 r
theorem D4.get:∀{xs:List V}{us:List Value}{i:Nat}{x:V},D4 xs us->xs[i]?=some x->∃u,us[i]?=some u/\T4 x u
 |_,_,_,_,.nil,e=>by simp at e
 |_,_,0,_,.cons r _,e=>by simp at e;subst e;exact⟨_,rfl,r⟩
 |_,_,i+1,x,.cons _ t,e=>by
  obtain⟨u,h1,h2⟩:=D4.get (i:=i) (x:=x) t (by simpa using e);exact⟨u,by simpa using h1,h2⟩
theorem D4.set{x:V}{u:Value}(r:T4 x u):∀{xs:List V}{us:List Value}(i:Nat),D4 xs us->D4 (xs.set i x) (us.set i u)
 |_,_,_,.nil=>.nil
 |_,_,0,.cons _ t=>.cons r t
 |_,_,i+1,.cons q t=>.cons q (D4.set r i t)
theorem D4.append:∀{xs ys:List V}{us ws:List Value},D4 xs us->D4 ys ws->D4 (xs++ys) (us++ws)
 |_,_,_,_,.nil,s=>s
 |_,_,_,_,.cons r t,s=>.cons r (D4.append t s)
theorem D4.take:∀{xs:List V}{us:List Value}(n:Nat),D4 xs us->D4 (xs.take n) (us.take n)
 |_,_,0,_=>.nil
 |_,_,_+1,.nil=>.nil
 |_,_,n+1,.cons r t=>.cons r (D4.take n t)
theorem D4.drop:∀{xs:List V}{us:List Value}(n:Nat),D4 xs us->D4 (xs.drop n) (us.drop n)
 |_,_,0,r=>r
 |_,_,_+1,.nil=>.nil
 |_,_,n+1,.cons _ t=>D4.drop n t
def wG:Option V->Option Value->Prop
 |some v,some u=>T4 v u
 |none,none=>True
 |_,_=>False
def KV{κ:Type}:List (κ×V)->List (κ×Value)->Prop:=Paired λ(p:κ×V)(q:κ×Value)=>p.1=q.1/\T4 p.2 q.2
def kV:YC->V
 |.inl i=>.int i
 |.inr x=>.str x
inductive HO where
 |lst (xs:List V)
 |tup (xs:List V)
 |dK (kvs:List (YC×V))|dT (kvs:List (List YC×V))
 |set (S:Int->Bool) (n:Nat)
 |ins (C dx:Addr) (fs:List (Str×V))
 |own (x:Addr)
 |xd (fs:List (Str×V))
 |met (f x:Addr)
 |rng (lo hi:Int)
 |frz (o:Obj) (u:HO)
 |tbl (ps:Array Value)
 |ext (φ:Heap->Prop)
variable {u o:HO}
abbrev Hp:=Addr->Option HO
variable {H:Hp}
def upd(H:Hp)(a:Addr)(o:HO):Hp:=λb=>if b=a then some o else H b
theorem C0:upd H a o a=some o:=by grind [upd]
theorem N0(h:b≠a):upd H a o b=H b:=by unfold upd;rw[D0 h]
theorem Y4:upd (upd H a o) a u=upd H a u:=by
 grind [upd]
theorem jF(h:H a=some o)(h':H b=some u)(d:o≠u):a≠b:=by
 intro e;grind
theorem C1(h:H a=some o)(h':H b=none):a≠b:=by
 intro e;grind
section
variable (P:Program)(w:World)
def u9(H:Hp)(h:Heap)(a:Addr):HO->Prop
 |.lst xs=>xs.length<=sizeLine/\∃(its:List Value)(n:Nat),D4 xs its/\h.get? a=some {cls:=.type "list",data:=.seq its.toArray n}
 |.tup xs=>xs.length<=sizeLine/\∃its:List Value,D4 xs its/\IsTup h a its.toArray
 |.dK kvs=>kvs.length<=sizeLine/\(a==sysModules)=false/\∃vs,KV kvs vs/\h.DictOf (X9 P w) a vs
 |.dT kvs=>kvs.length<=sizeLine/\(a==sysModules)=false/\∃xs:List (List YC×Addr×Value),
   Paired (λ(p:List YC×V)(q:List YC×Addr×Value)=>p.1=q.1/\H q.2.1=some (.tup (p.1.map kV))/\T4 p.2 q.2.2) kvs xs/\
   ∃o es ep,h.get? a=some o/\o.ExactDict/\o.data=.dict es ep/\es.toList=xs.map (entryOfKey (tupleKind (X9 P w)))/\(xs.map (·.1)).Nodup
 |.set S n=>h.SetOf (intKind P w) a S n
 |.ins C dx fs=>H dx=some (.own a)/\fs.length<=1000/\dx≠a/\h.get? a=some (instObj C dx)/\
   ∃mA,h.Ns1 dx mA/\(∀f,wG (fs.lookup f) (mA f))/\PySem.Within mA (fs.map (·.1))
 |.own _=>∃o,h.get? a=some o
 |.xd fs=>∃mA,h.Ns1 a mA/\(∀f,wG (fs.lookup f) (mA f))/\fs.length<=1000/\PySem.Within mA (fs.map (·.1))
 |.rng lo hi=>∃t u v,h.get? a=some {cls:=.type "range",data:=.fields #[.int lo t,.int hi u,.int 1 v]}
 |.frz o u=>h.get? a=some o/\u9 H h a u
 |.tbl ps=>h.get? a=some {cls:=.none,data:=.fields ps}
 |.met f x=>h.get? a=some (methodObj (.ref f) (.ref x))
 |.ext φ=>φ h/\(∃o,h.get? a=some o)/\∀h1 h2:Heap,φ h1->(∀o,h1.get? a=some o->h2.get? a=some o)->φ h2
def pK(H:Hp)(h:Heap):Prop:=∀a o,H a=some o->u9 P w H h a o
end
section
variable {H':Hp}
theorem u9.lt(x:u9 P w H h a o):a<h.objs.size:=by
 cases o with
 |lst xs=>obtain⟨_,_,_,_,e⟩:=x;exact K2 e
 |tup xs=>obtain⟨_,_,_,p⟩:=x;exact p.lt
 |dK kvs=>obtain⟨_,_,_,_,o,_,_,e,_⟩:=x;exact K2 e
 |dT kvs=>obtain⟨_,_,_,_,o,_,_,e,_⟩:=x;exact K2 e
 |set S n=>obtain⟨o,_,_,_,e,_⟩:=x;exact K2 e
 |ins C dx fs=>obtain⟨_,_,_,e,_⟩:=x;exact K2 e
 |own y=>obtain⟨_,e⟩:=x;exact K2 e
 |xd fs=>obtain⟨_,⟨_,_,_,e,_⟩,_⟩:=x;exact K2 e
 |rng lo hi=>obtain⟨_,_,_,e⟩:=x;exact K2 e
 |frz ob u=>obtain⟨e,_⟩:=x;exact K2 e
 |tbl ps=>exact K2 (show h.get? a=some _ from x)
 |met f y=>exact K2 (show h.get? a=some _ from x)
 |ext φ=>obtain⟨_,⟨_,e⟩,_⟩:=x;exact K2 e
theorem Paired.mapP{α β:Type}{F G:α->β->Prop}:∀{l₁:List α}{l₂:List β},Paired F l₁ l₂->(∀a b,F a b->G a b)->Paired G l₁ l₂
 |_,_,.nil,_=>.nil
 |_,_,.cons r t,f=>.cons (f _ _ r) (Paired.mapP t f)
theorem u9.stay(x:u9 P w H h a o)(k:∀b u,(b=a\/H b=some (.own a))->h.get? b=some u->h'.get? b=some u)
 (ho:∀b,H b=some (.own a)->H' b=some (.own a)) (ht:∀b xs,H b=some (.tup xs)->H' b=some (.tup xs)):u9 P w H' h' a o:=by
  induction o with
  |lst xs=>obtain⟨z,its,n,r,e⟩:=x;exact⟨z,its,n,r,k _ _ (.inl rfl) e⟩
  |tup xs=>obtain⟨z,its,r,ob,e,c⟩:=x;exact⟨z,its,r,ob,k _ _ (.inl rfl) e,c⟩
  |dK kvs=>obtain⟨z,y,vs,r,ob,es,ep,e,c⟩:=x;exact⟨z,y,vs,r,ob,es,ep,k _ _ (.inl rfl) e,c⟩
  |dT kvs=>
   obtain⟨z,y,xs,r,ob,es,ep,e,c⟩:=x;exact⟨z,y,xs,Paired.mapP r λp q z=>⟨z.1,ht _ _ z.2.1,z.2.2⟩,ob,es,ep,k _ _ (.inl rfl) e,c⟩
  |set S n=>obtain⟨ob,es,ep,t,e,c⟩:=x;exact⟨ob,es,ep,t,k _ _ (.inl rfl) e,c⟩
  |ins C dx fs=>
   obtain⟨d,z,ne,e,mA,⟨od,es,ep,e2,c⟩,r⟩:=x;exact⟨ho _ d,z,ne,k _ _ (.inl rfl) e,mA,⟨od,es,ep,k _ _ (.inr d) e2,c⟩,r⟩
  |own y=>obtain⟨ob,e⟩:=x;exact⟨ob,k _ _ (.inl rfl) e⟩
  |xd fs=>obtain⟨mA,⟨od,es,ep,e,c⟩,r⟩:=x;exact⟨mA,⟨od,es,ep,k _ _ (.inl rfl) e,c⟩,r⟩
  |rng lo hi=>obtain⟨t,u,v,e⟩:=x;exact⟨t,u,v,k _ _ (.inl rfl) e⟩
  |frz ob u ih=>obtain⟨e,q⟩:=x;exact⟨k _ _ (.inl rfl) e,ih q⟩
  |tbl ps=>
   have e:h.get? a=some {cls:=.none,data:=.fields ps}:=x;show h'.get? a=some {cls:=.none,data:=.fields ps};exact k a _ (.inl rfl) e
  |met f y=>
   have e:h.get? a=some (methodObj (.ref f) (.ref y)):=x;show h'.get? a=some (methodObj (.ref f) (.ref y));exact k a _ (.inl rfl) e
  |ext φ=>obtain⟨p,⟨o,e⟩,st⟩:=x;exact⟨st _ _ p λo q=>k _ _ (.inl rfl) q,⟨o,k _ _ (.inl rfl) e⟩,st⟩
theorem pK.lt(x:pK P w H h)(e:H a=some o):a<h.objs.size:=(x a o e).lt
theorem pK.fresh(x:pK P w H h)(e:h.objs.size<=a):H a=none:=by
 cases q:H a with
 |none=>rfl
 |some u=>exact absurd (P2 (x.lt q) e) (L5 _)
theorem pK.kept(x:pK P w H h)(k:∀b u,h.get? b=some u->h'.get? b=some u):pK P w H h':=λa o e=>
 (x a o e).stay (λb u _ q=>k b u q) (λ_ q=>q) λ_ _ q=>q
theorem pK.laid(x:pK P w H h)(k:∀b u,h.get? b=some u->h'.get? b=some u)(hp:h.objs.size<=a)(new:u9 P w (upd H a o) h' a o):pK P w (upd H a o) h':=λb u e=>by
 have hn:=x.fresh hp;by_cases hb:b=a
 .subst hb;grind [C0]
 .rw[N0 hb]at e;exact(x b u e).stay (λc v _ q=>k c v q) (λc q=>by rw[N0 (C1 q hn)];exact q) λc xs q=>by rw[N0 (C1 q hn)];exact q
end
def Rd(H:Hp)(a:Addr)(u:HO):Prop:=H a=some u\/∃o,H a=some (.frz o u)
theorem Rd.ok(r:Rd H a u)(x:pK P w H h):u9 P w H h a u:=by
 rcases r with r|⟨o,r⟩
 .exact x a u r
 .obtain⟨_,q⟩:=x a _ r;exact q
def Zg:Option HO->Prop
 |some (.lst _)=>True
 |some (.dK _)=>True
 |some (.dT _)=>True
 |some (.set _ _)=>True
 |some (.ins _ _ _)=>True
 |some (.ext _)=>True
 |some (.xd _)=>True
 |_=>False
section
variable {o':HO}
theorem pK.write(ok:pK P w H h)(mu:Zg (H x))(he:e=x\/H e=some (.own x))(k:∀b u,b≠e->h.get? b=some u->h'.get? b=some u)(heo:∃u,h'.get? e=some u)
 (new:u9 P w (upd H x o') h' x o'):pK P w (upd H x o') h':=λb u q=>by
  have zf4:∀c y,H c=some (.own y)->c≠x:=λc y r z=>by subst z;rw[r]at mu;exact mu
  have ziD:∀c xs,H c=some (.tup xs)->c≠x:=λc xs r z=>by subst z;rw[r]at mu;exact mu
  by_cases hb:b=x
  .subst hb;rw[C0]at q;grind
  .rw[N0 hb]at q;by_cases hbe:b=e
   .have q':H b=some (.own x):=by
     grind
    rw[q]at q';cases q';obtain⟨v,hv⟩:=heo;exact⟨v,by rw[hbe];exact hv⟩
   .refine(ok b u q).stay (λc v hc r=>k c v ?_ r) (λc r=>by rw[N0 (zf4 c b r)];exact r) λc xs r=>by rw[N0 (ziD c xs r)];exact r
    rcases hc with rfl|hc
    .exact hbe
    .rintro rfl;rcases he with z|z
     .exact zf4 c b hc z
     all_goals grind
end
structure Un(fs ex:List Addr)(H H':Hp)(h h':Heap):Prop where
 keep:∀b o,h.get? b=some o->H b=none->b∉fs->b∉ex->h'.get? b=some o
 slot:∀b o,h.get? b=some o->H b=none->b∈fs->b∉ex->∃sl,h'.get? b=some {o with slots:=sl}
 free:∀b o,h.get? b=some o->H b=none->b∉ex->H' b=none
 there:∀b o,h.get? b=some o->b∉ex->∃o',h'.get? b=some o'
 tups:∀b xs,H b=some (.tup xs)->H' b=some (.tup xs)
 frzs:∀b o u,H b=some (.frz o u)->H' b=some (.frz o u)
 tbls:∀b ps,H b=some (.tbl ps)->∃zd9,H' b=some (.tbl (ps++zd9))
section
variable {fs Az ex ex':List Addr}{H1 H2:Hp}{h1 h2:Heap}
theorem Un.any(u:Un fs ex H H1 h h1){ob:Obj}(q:h.get? b=some ob) (n:H b=none) (hx:b∉ex):∃sl,h1.get? b=some {ob with slots:=sl}:=by
 by_cases hb:b∈fs
 .exact u.slot b ob q n hb hx
 .exact⟨ob.slots,u.keep b ob q n hb hx⟩
theorem Un.kept(k:∀b u,h.get? b=some u->h'.get? b=some u):Un fs ex H H h h':=
 ⟨λb ob q _ _ _=>k b ob q,λb ob q _ _ _=>⟨ob.slots,k b ob q⟩,λ_ _ _ n _=>n,λb ob q _=>⟨ob,k b ob q⟩,λ_ _ q=>q,λ_ _ _ q=>q,λ_ ps q=>⟨#[],by rw[q];simp⟩⟩
theorem Un.refl:Un fs ex H H h h:=Un.kept λ_ _ q=>q
theorem Un.laid(k:∀b u,h.get? b=some u->h'.get? b=some u)(hp:h.objs.size<=a)(hn:H a=none):Un fs ex H (upd H a o) h h' where
 keep:=λb u q _ _ _=>k b u q
 slot:=λb u q _ _ _=>⟨u.slots,k b u q⟩
 free:=λb u q n _=>by rw[N0 (K3 (P2 (K2 q) hp))];exact n
 there:=λb u q _=>⟨u,k b u q⟩
 tups:=λb xs q=>by rw[N0 (C1 q hn)];exact q
 frzs:=λb u xs q=>by rw[N0 (C1 q hn)];exact q
 tbls:=λb ps q=>⟨#[],by rw[N0 (C1 q hn),q];simp⟩
theorem Un.write(mu:Zg (H x))(he:e=x\/H e=some (.own x))(k:∀b u,b≠e->h.get? b=some u->h'.get? b=some u)(heo:∃u,h'.get? e=some u):Un fs ex H (upd H x o) h h':=by
 have hx:∀b,H b=none->b≠x:=λb n z=>by subst z;rw[n]at mu;exact mu
 have hb:∀b,H b=none->b≠e:=λb n z=>by
  grind
 have hm:∀b u,H b=some u->¬Zg (some u)->b≠x:=λb u q nm z=>by grind
 refine⟨λb u q n _ _=>k b u (hb b n) q,λb u q n _ _=>⟨u.slots,k b u (hb b n) q⟩,λb u q n _=>by rw[N0 (hx b n)];exact n,λb u q _=>?_,
  λb xs q=>by rw[N0 (hm b _ q λz=>z)];exact q,λb u xs q=>by rw[N0 (hm b _ q λz=>z)];exact q,λb ps q=>⟨#[],by rw[N0 (hm b _ q λz=>z),q];simp⟩⟩
 by_cases hbe:b=e
 all_goals grind
end
def trk(h:Heap)(H:Hp):List Addr:=(List.range h.objs.size).filter λa=>(H a).isSome
def kY(h:Heap)(H:Hp):Heap:=PySem.W.hideAll h (trk h H)
theorem Ip(h:Heap)(H:Hp):(kY h H).objs.size=h.objs.size:=PySem.W.hideAll_size _ _
theorem Tt{o:Obj}(e:h.get? b=some o) (n:H b=none):(kY h H).get? b=some o:=
 PySem.W.hideAll_get _ e λhm=>by
  have q:(H b).isSome=true:=(R4.mp hm).2;grind
theorem zao{o:Obj}(e:(kY h H).get? b=some o):h.get? b=some o/\H b=none:=by
 have e':h.get? b=some o:=PySem.W.of_hideAll (trk h H) e;refine⟨e',?_⟩;cases q:H b with
 |none=>rfl
 |some x=>
  have hm:b∈trk h H:=R4.mpr ⟨w6.mpr (K2 e'),by simp[q]⟩;have z:(kY h H).get? b=none:=PySem.W.hideAll_none (trk h H) hm;grind
def zap(g h:Heap)(L:Addr):List (Addr×Obj):=(List.range h.objs.size).filterMap λa=>if a=L\/(g.get? a).isSome=true then none else(h.get? a).map λo=>(a,o)
def Y7(g h:Heap)(L d:Addr):List (Addr×Obj):=(zap g h L).filter λp=>decide (p.1≠d)
end L2
namespace L2
open PySem PySem.Spec PyProof.Rows
variable {a:Addr}{A:Around}{g':Array GenState}{d':Drawn}{o:HO}{ch:List Addr}{M:Model}{t' i:Nat}{s:Shared}{x:Str}{Q:Unit->Shared->Prop}{v:V}{u:Value}{E:Value->Shared->Prop}
structure Mod(K:Frag)(mg:Str->Option Value)(base:Heap):Prop where
 kin:K.In base
 glob:base.Ns mainGlobals mg
 blt:∃mb,base.Ns builtinsNs mb/\∀x:Str,x ≠ "__name__" -> mb x=bootBuiltins x
 nolimit:base.NoLimit
structure Cx where
 prog:Program
 w:World
 K:Frag
 mg:Str->Option Value
 base:Heap
 A:Around
 N:List Str
 s_0:Shared
 H_0:Hp
 env:Env
 outer:List Env
 stack:List Env
 ex:List Addr
 fn:Str->Bool
 calm:Bool
 pn:List (Addr×Obj)
 xe:Value->Shared->Prop
variable {X:Cx}
def Bl(l:List Env):List Addr:=l.filterMap (·.frame)
abbrev Cx.fs(X:Cx):List Addr:=Bl X.outer
def Vis(sc:Scope)(x:Str):Prop:=sc.names.lookup x=some .local\/sc.names.lookup x=some .cell\/sc.names.lookup x=some .free
def Loc(sc:Scope)(x:Str):Prop:=sc.names.lookup x=some .local\/sc.names.lookup x=some .cell
def zh4(env:Env)(h:Heap)(m:Str->Option Value)(x:Str)(u:Value):Prop:=
 (env.kindOf x=some .local/\m x=some u)\/((env.kindOf x=some .cell\/env.kindOf x=some .free)/\∃c,env.cells.lookup x=some c/\h.IsCell c (some u))
structure Cx.Ok(X:Cx):Prop where
 mod:Mod X.K X.mg X.base
 kind:X.env.scope.kind=.function
 glob:X.env.globals=mainGlobals
 blt:X.env.builtins=builtinsNs
 above:X.s_0.heap.objs.size<=X.env.locals
 inj:∀x y c,X.env.cells.lookup x=some c->X.env.cells.lookup y=some c->x=y
 has:∀x,(X.env.kindOf x=some .cell\/X.env.kindOf x=some .free)->∃c,X.env.cells.lookup x=some c
 cab:∀x c,X.fn x=true->X.env.cells.lookup x=some c->X.s_0.heap.objs.size<=c
 hd:X.calm=true->X.A.handled=none
 frames:X.A.frames=some X.stack
 stk:X.stack=X.outer\/(X.stack=X.env::X.outer/\X.env.frame=some X.env.locals)
 exf:∀b∈X.ex,b≠X.env.locals/\∀x c,X.env.cells.lookup x=some c->c≠b
 bs:∀b o,X.base.get? b=some o->X.s_0.heap.get? b=some o/\X.H_0 b=none
 bsz:X.base.objs.size<=X.s_0.heap.objs.size
 noex:∀b o,X.base.get? b=some o->b∉X.ex
 exfs:∀b∈X.ex,b∉X.fs
 funs:X.s_0.heap.FunFrames X.base X.outer
 frf:∀b∈X.fs,X.H_0 b=none
structure V2(X:Cx)(pins:List (Addr×Obj))(σ:List (Option V))(H:Hp)(s:Shared):Prop where
 ok:X.Ok
 os:s.os=X.s_0.os
 bare:AllBare s.gens
 base:Un X.fs X.ex X.H_0 H X.s_0.heap s.heap
 loc:∃m,s.heap.Ns X.env.locals m/\∀(i:Nat)(x:Str)(v:V),X.N[i]?=some x->σ[i]?=some (some v)->Vis X.env.scope x->∃u,T4 v u/\zh4 X.env s.heap m x u
 cell:∀x c,X.env.cells.lookup x=some c->∃v,s.heap.IsCell c v
 free:H X.env.locals=none
 freeC:∀x c,X.env.cells.lookup x=some c->H c=none
 pin:∀p∈X.pn++pins,s.heap.get? p.1=some p.2/\H p.1=none/\p.1≠X.env.locals/\p.1∉X.fs/\∀v,p.2.data≠.cell v
 hok:pK X.prog X.w H s.heap
 len:σ.length=X.N.length
section
variable {pins:List (Addr×Obj)}{σ:List (Option V)}{H H':Hp}{h':Heap}
theorem Cx.Ok.nofr(ok:X.Ok){b:Addr}{o:Obj}(e:X.base.get? b=some o):b∉X.fs:=λhb=>by
 have:=(ok.funs.mem hb).1;grind
theorem V2.bs(I:V2 X pins σ H s):∀b o,X.base.get? b=some o->s.heap.get? b=some o/\H b=none:=λb o e=>
 ⟨I.base.keep b o (I.ok.bs b o e).1 (I.ok.bs b o e).2 (I.ok.nofr e) (I.ok.noex b o e),I.base.free b o (I.ok.bs b o e).1 (I.ok.bs b o e).2 (I.ok.noex b o e)⟩
theorem V2.bk(I:V2 X pins σ H s):∀b o,X.base.get? b=some o->s.heap.get? b=some o:=λb o e=>(I.bs b o e).1
theorem V2.mod(I:V2 X pins σ H s):Mod X.K X.mg X.base:=I.ok.mod
theorem V2.kIn(I:V2 X pins σ H s):X.K.In s.heap:=I.ok.mod.kin.keeps I.bk
theorem V2.lt(I:V2 X pins σ H s):X.env.locals<s.heap.objs.size:=let ⟨_,hn,_⟩:=I.loc;hn.lt
theorem V2.sz(I:V2 X pins σ H s):X.s_0.heap.objs.size<=s.heap.objs.size:=k4 I.ok.above (rJ I.lt)
theorem V2.nofs(I:V2 X pins σ H s)(h:s.heap.objs.size<=a):a∉X.fs:=λhb=>by
 obtain⟨_,o,ho,_⟩:=I.ok.funs.mem hb;exact absurd (P2 (K2 ho) (k4 I.sz h)) (L5 _)
theorem V2.cne(I:V2 X pins σ H s):∀x c,X.env.cells.lookup x=some c->c≠X.env.locals:=λx c e z=>by
 obtain⟨v,o,ho,hd⟩:=I.cell x c e;obtain⟨m,⟨o',es,ep,Sg,hd',_⟩,_⟩:=I.loc;grind
theorem V2.funs(I:V2 X pins σ H s):s.heap.FunFrames X.base X.outer:=by
 have all:∀(l:List Env),(∀b∈Bl l,b∈X.fs)->X.s_0.heap.FunFrames X.base l->s.heap.FunFrames X.base l:=by
  intro l
  induction l with
  |nil=>intro _ _;trivial
  |cons env r ih=>
   intro hs hl;obtain⟨hk,⟨L,o,hf,hn,ho,hd⟩,hr⟩:=hl;have hL:L∈X.fs:=hs L (by unfold Bl;rw[RF,hf];exact M4);obtain⟨sl,e⟩:=I.base.slot L o ho (I.ok.frf L hL) hL λz=>I.ok.exfs L z hL;exact⟨hk,⟨L,_,hf,hn,e,hd⟩,ih (λb hb=>hs b (by unfold Bl;rw[RF,hf];exact i3 _ hb)) hr⟩
 exact all X.outer (λ_ hb=>hb) I.ok.funs
theorem V2.stack(I:V2 X pins σ H s):s.heap.FunFrames X.base X.stack:=by
 rcases I.ok.stk with e|⟨e,hf⟩
 .rw[e];exact I.funs
 .rw[e];obtain⟨m,hn,_⟩:=I.loc;refine .cons (by rw[I.ok.kind];decide) hf hn ?_ I.funs;exact Heap.get?_none_of_le (k4 I.ok.bsz I.ok.above)
theorem V2.stkSub(I:V2 X pins σ H s):∀b∈Bl X.stack,b∈X.env.locals::X.fs:=λb hb=>by
 rcases I.ok.stk with e|⟨e,hf⟩
 .grind
 .rw[e]at hb;unfold Bl at hb;rw[RF,hf]at hb;exact hb
theorem V2.stkFree(I:V2 X pins σ H s):∀b∈Bl X.stack,H b=none:=λb hb=>by
 rcases S1.mp (I.stkSub b hb)with e|hb
 .rw[e];exact I.free
 .obtain⟨_,o,ho,_⟩:=I.ok.funs.mem hb;exact I.base.free b o ho (I.ok.frf b hb) λz=>I.ok.exfs b z hb
theorem V2.step(I:V2 X pins σ H s)
 (hch:∀b∈ch,(b∈X.ex\/X.s_0.heap.objs.size<=b)/\b≠X.env.locals/\(∀x c,X.env.cells.lookup x=some c->c≠b)/\∀p∈X.pn++pins,p.1≠b)
 (keep:∀b o,b≠X.env.locals->b∉X.fs->b∉ch->s.heap.get? b=some o->H b=none->h'.get? b=some o)
 (slot:∀b o,b≠X.env.locals->b∈X.fs->b∉ch->s.heap.get? b=some o->H b=none->∃sl,h'.get? b=some {o with slots:=sl}) (free:∀b o,b∉ch->s.heap.get? b=some o->H b=none->H' b=none)
 (there:∀b o,b∉ch->s.heap.get? b=some o->∃o',h'.get? b=some o')
 (tups:∀b xs,H b=some (.tup xs)->H' b=some (.tup xs)) (frzs:∀b o u,H b=some (.frz o u)->H' b=some (.frz o u)) (tbls:∀b ps,H b=some (.tbl ps)->∃zd9,H' b=some (.tbl (ps++zd9)))
 (ns:∀m,s.heap.Ns X.env.locals m->h'.Ns X.env.locals m) (hok:pK X.prog X.w H' h') (hg:AllBare g') :
   V2 X pins σ H' {s with heap:=h',gens:=g',drawn:=d',toks:=t'}:=by
  have neL:∀b o,X.s_0.heap.get? b=some o->b≠X.env.locals:=λb o e=>K3 (P2 (K2 e) I.ok.above);have neC:∀b o,X.s_0.heap.get? b=some o->b∉X.ex->b∉ch:=λb o e hx hb=>by
   rcases(hch b hb).1 with z|z
   .exact hx z
   .exact absurd (P2 (K2 e) z) (L5 _)
  have zcj:∀x c,X.env.cells.lookup x=some c->∀v,s.heap.IsCell c v->h'.IsCell c v:=λx c e v ⟨o,ho,hd⟩=>by
   have nch:c∉ch:=λz=>(hch c z).2.2.1 x c e rfl;by_cases hc:c∈X.fs
   .obtain⟨sl,q⟩:=slot c o (I.cne x c e) hc nch ho (I.freeC x c e);exact⟨_,q,hd⟩
   .exact⟨o,keep c o (I.cne x c e) hc nch ho (I.freeC x c e),hd⟩
  refine⟨I.ok,I.os,hg,⟨λb o e n hb hx=>?_,λb o e n hb hx=>?_,λb o e n hx=>?_,λb o e hx=>?_,λb xs e=>tups b xs (I.base.tups b xs e),λb o xs e=>frzs b o xs (I.base.frzs b o xs e),λb ps e=>?_⟩,?_,λx c e=>?_,?_,λx c e=>?_,λp hp=>?_,hok,I.len⟩
  .exact keep b o (neL b o e) hb (neC b o e hx) (I.base.keep b o e n hb hx) (I.base.free b o e n hx)
  .obtain⟨sl,e1⟩:=I.base.slot b o e n hb hx;obtain⟨sl',e2⟩:=slot b _ (neL b o e) hb (neC b o e hx) e1 (I.base.free b o e n hx);exact⟨sl',e2⟩
  .obtain⟨o',e1⟩:=I.base.there b o e hx;exact free b o' (neC b o e hx) e1 (I.base.free b o e n hx)
  .obtain⟨o',e1⟩:=I.base.there b o e hx;exact there b o' (neC b o e hx) e1
  .obtain⟨m1,e1⟩:=I.base.tbls b ps e;obtain⟨m2,e2⟩:=tbls b _ e1;exact⟨m1++m2,by rw[e2,Array.append_assoc]⟩
  .obtain⟨m,hn,hl⟩:=I.loc;refine⟨m,ns m hn,λi x v e1 e2 e3=>?_⟩;obtain⟨u,r,l⟩:=hl i x v e1 e2 e3;refine⟨u,r,?_⟩;rcases l with l|⟨k,c,e,z⟩
   .exact .inl l
   .exact .inr ⟨k,c,e,zcj x c e _ z⟩
  .obtain⟨v,z⟩:=I.cell x c e;exact⟨v,zcj x c e v z⟩
  .obtain⟨m,⟨o,_,_,ho,_⟩,_⟩:=I.loc;exact free _ o (λz=>(hch _ z).2.1 rfl) ho I.free
  .obtain⟨v,o,ho,hd⟩:=I.cell x c e;exact free c o (λz=>(hch c z).2.2.1 x c e rfl) ho (I.freeC x c e)
  .obtain⟨e,n,ne,nf,d⟩:=I.pin p hp;have nch:p.1∉ch:=λz=>(hch p.1 z).2.2.2 p hp rfl;exact⟨keep p.1 p.2 ne nf nch e n,free p.1 p.2 nch e n,ne,nf,d⟩
theorem V2.un(I:V2 X pins σ H s)(u:Un X.fs [] H H' s.heap h')(hok:pK X.prog X.w H' h'):V2 X pins σ H' {s with heap:=h',toks:=t'}:=by
 obtain⟨m,⟨o,es,ep,ho,r⟩,_⟩:=id I.loc;obtain⟨sl,hL⟩:=u.any ho I.free (by simp);exact I.step (g':=s.gens) (d':=s.drawn) (ch:=[]) (λ_ z=>nomatch z) (λb o _ hb _ e n=>u.keep b o e n hb (by simp)) (λb o _ hb _ e n=>u.slot b o e n hb (by simp)) (λb o _ e n=>u.free b o e n (by simp)) (λb o _ e=>u.there b o e (by simp)) u.tups u.frzs u.tbls (λm' hm=>by
  obtain⟨o',es',ep',Sg,r'⟩:=hm;rw[ho]at Sg;cases Sg;exact⟨_,es',ep',hL,r'⟩) hok I.bare
theorem V2.call(I:V2 X pins σ H s)(u:Un (Bl X.stack) ch H H' s.heap h')(hok:pK X.prog X.w H' h')(hg:AllBare g')
 (hch:∀b∈ch,(b∈X.ex\/X.s_0.heap.objs.size<=b)/\b≠X.env.locals/\(∀x c,X.env.cells.lookup x=some c->c≠b)/\∀p∈X.pn++pins,p.1≠b) :
   V2 X pins σ H' {s with heap:=h',gens:=g',drawn:=d',toks:=t'}:=by
  obtain⟨m,⟨o,es,ep,ho,r⟩,_⟩:=id I.loc;obtain⟨sl,hL⟩:=u.any ho I.free λz=>(hch _ z).2.1 rfl;exact I.step (ch:=ch) hch (λb o hL hb hc e n=>u.keep b o e n (λz=>(S1.mp (I.stkSub b z)).elim hL hb) hc) (λb o _ _ hc e n=>u.any e n hc) (λb o hc e n=>u.free b o e n hc) (λb o hc e=>u.there b o e hc) u.tups u.frzs u.tbls (λm' hm=>by
   obtain⟨o',es',ep',Sg,r'⟩:=hm;rw[ho]at Sg;cases Sg;exact⟨_,es',ep',hL,r'⟩) hok hg
theorem V2.turned{it:Addr}(I:V2 X pins σ H s) (k:∀b o,b≠it->s.heap.get? b=some o->h'.get? b=some o) (hn:H it=none) (hL:it≠X.env.locals)
 (h1:it∈X.ex\/X.s_0.heap.objs.size<=it) (h2:∀x c,X.env.cells.lookup x=some c->c≠it) (h3:∀p∈X.pn++pins,p.1≠it):V2 X pins σ H {s with heap:=h',toks:=t'}:=by
  have nit:∀b u,H b=some u->b≠it:=λb u e z=>by grind
  refine I.step (g':=s.gens) (d':=s.drawn) (ch:=[it]) (λb hb=>?_) (λb o _ _ hc e _=>k b o (λz=>hc (by simp[z])) e) (λb o _ _ hc e _=>⟨o.slots,k b o (λz=>hc (by simp[z])) e⟩) (λ_ _ _ _ n=>n)
   (λb o hc e=>⟨o,k b o (λz=>hc (by simp[z])) e⟩) (λ_ _ e=>e) (λ_ _ _ e=>e) (λb ps e=>⟨#[],by rw[e];simp⟩) (λm hm=>?_) (λb u e=>?_) I.bare
  .have e:b=it:=by simpa using hb
   subst e;exact⟨h1,hL,h2,h3⟩
  .obtain⟨o,es,ep,ho,r⟩:=hm;exact⟨o,es,ep,k _ o (N2 hL) ho,r⟩
  .refine(I.hok b u e).stay (λc v hc q=>k c v ?_ q) (λ_ q=>q) λ_ _ q=>q;rcases hc with z|z
   all_goals grind
theorem V2.tok(I:V2 X pins σ H s)(t:Nat):V2 X pins σ H {s with toks:=t}:=I.un (h':=s.heap) (t':=t) Un.refl I.hok
theorem V2.kept(I:V2 X pins σ H s)(k:∀b u,s.heap.get? b=some u->h'.get? b=some u):V2 X pins σ H {s with heap:=h',toks:=t'}:=I.un (Un.kept k) (I.hok.kept k)
theorem V2.laid(I:V2 X pins σ H s)(k:∀b u,s.heap.get? b=some u->h'.get? b=some u)(hp:s.heap.objs.size<=a)(new:u9 X.prog X.w (upd H a o) h' a o) :
  V2 X pins σ (upd H a o) {s with heap:=h',toks:=t'}:=I.un (Un.laid k hp (I.hok.fresh hp)) (I.hok.laid k hp new)
theorem V2.write{x e:Addr}(I:V2 X pins σ H s) (mu:Zg (H x)) (he:e=x\/H e=some (.own x)) (k:∀b u,b≠e->s.heap.get? b=some u->h'.get? b=some u) (heo:∃u,h'.get? e=some u)
 (new:u9 X.prog X.w (upd H x o) h' x o):V2 X pins σ (upd H x o) {s with heap:=h',toks:=t'}:=I.un (Un.write mu he k heo) (I.hok.write mu he k heo new)
theorem V2.weak{σ':List (Option V)}(I:V2 X pins σ H s) (hl:σ'.length=σ.length) (w:∀(i:Nat) v,σ'[i]?=some (some v)->σ[i]?=some (some v)):V2 X pins σ' H s:=
 ⟨I.ok,I.os,I.bare,I.base,let ⟨m,hn,To⟩:=I.loc;⟨m,hn,λi x v e1 e2 e3=>To i x v e1 (w i v e2) e3⟩,I.cell,I.free,I.freeC,I.pin,I.hok,hl.trans I.len⟩
theorem V2.pins_of{Gg:List (Addr×Obj)}(I:V2 X pins σ H s) (h:∀p∈Gg,s.heap.get? p.1=some p.2/\H p.1=none/\p.1≠X.env.locals/\p.1∉X.fs/\∀v,p.2.data≠.cell v):V2 X Gg σ H s:=
 ⟨I.ok,I.os,I.bare,I.base,I.loc,I.cell,I.free,I.freeC,λp hp=>(F2.mp hp).elim (λz=>I.pin p (B6 _ z)) (h p),I.hok,I.len⟩
theorem IN{N:List Str}(hN:N.Nodup) {j:Nat}(a:N[i]?=some x) (b:N[j]?=some x):i=j:=by
 obtain⟨h1,e1⟩:=P0.mp a;obtain⟨h2,e2⟩:=P0.mp b;exact(kC hN).mp (e1.trans e2.symm)
theorem LW(I:V2 X pins σ H s)(hN:X.N.Nodup)(hi:X.N[i]?=some x)(hx:Loc X.env.scope x)(r:T4 v u)
 (h:∀s',V2 X pins (σ.set i (some v)) H s'->(∃a,Heap.SameBut a s.heap s'.heap/\(a=X.env.locals\/X.env.cells.lookup x=some a))->Q () s') (hf:X.fn x=true\/X.env.scope.names.lookup x=some .local:=by first|exact .inl rfl|exact .inr rfl|assumption):wpAny M A (storeName X.env x u) Q E s:=by
  obtain⟨m,hn,hl⟩:=id I.loc;have zea:(X.env.scope.kind == .class||(X.env.scope.kind == .module&&X.env.locals != X.env.globals))=false:=by rw[I.ok.kind];rfl
  have hiσ:i<σ.length:=by rw[I.len];exact(P0.mp hi).1
  have cne:=I.cne;have Uo:∀{a:Addr}{h':Heap},(∃o,s.heap.get? a=some o/\H a=none)->Heap.SameBut a s.heap h'->pK X.prog X.w H h':=λ{a h'} ha hs b ob e=>by
   obtain⟨_,_,Vo⟩:=ha;refine(I.hok b ob e).stay (λc w' hc q=>(hs.2 c ?_).trans q) (λ_ q=>q) λ_ _ q=>q;rintro rfl;grind
  rcases hx with hk|hk
  .refine wpAny_storeName_local hk hn (λh' hn' hs=>?_) zea;obtain⟨oL,_,_,hoL,_⟩:=id hn;refine h _ ⟨I.ok,I.os,I.bare,⟨λb o e n hb hx=>?_,λb o e n hb hx=>?_,I.base.free,λb o e hx=>?_,I.base.tups,I.base.frzs,I.base.tbls⟩,⟨_,hn',λj y v' e1 e2 e3=>?_⟩,λy c e=>?_,I.free,I.freeC,λp hp=>?_,Uo ⟨oL,hoL,I.free⟩ hs,by simpa using I.len⟩ ⟨_,hs,.inl rfl⟩
   .exact(hs.2 b (K3 (P2 (K2 e) I.ok.above))).trans (I.base.keep b o e n hb hx)
   .obtain⟨sl,e1⟩:=I.base.slot b o e n hb hx;exact⟨sl,(hs.2 b (K3 (P2 (K2 e) I.ok.above))).trans e1⟩
   .obtain⟨o',e1⟩:=I.base.there b o e hx;exact⟨o',(hs.2 b (K3 (P2 (K2 e) I.ok.above))).trans e1⟩
   .by_cases hj:j=i
    .subst hj;rw[hi]at e1;cases e1;rw[Q6 hiσ]at e2;cases e2;exact⟨u,r,.inl ⟨hk,by simp⟩⟩
    .rw[V8 (N2 hj)]at e2;obtain⟨u',r',q⟩:=hl j y v' e1 e2 e3;refine⟨u',r',?_⟩;rcases q with⟨k,e⟩|⟨k,c,e,z⟩
     .refine .inl ⟨k,?_⟩;have:y≠x:=λe=>hj (IN hN e1 (e ▸ hi));grind
     .exact .inr ⟨k,c,e,z.sameBut hs (cne y c e)⟩
   .obtain⟨w',z⟩:=I.cell y c e;exact⟨w',z.sameBut hs (cne y c e)⟩
   .obtain⟨e,n,ne,nf,d⟩:=I.pin p hp;exact⟨(hs.2 p.1 ne).trans e,n,ne,nf,d⟩
  .have hfn:X.fn x=true:=by
    grind
   obtain⟨c,hc⟩:=I.ok.has x (.inl hk);obtain⟨w',z⟩:=I.cell x c hc;refine wpAny_storeName_cell I.ok.kind hk hc z (λh' hc' hs=>?_);obtain⟨oc,hoc,zl4⟩:=id z;refine h {s with heap:=h'} ⟨I.ok,I.os,I.bare,⟨λb o e n hb hx=>?_,λb o e n hb hx=>?_,I.base.free,λb o e hx=>?_,I.base.tups,I.base.frzs,I.base.tbls⟩,⟨m,hn.sameBut hs (N2 (cne x c hc)),λj y v' e1 e2 e3=>?_⟩,λy c' e=>?_,I.free,I.freeC,λp hp=>?_,Uo ⟨oc,hoc,I.freeC x c hc⟩ hs,by simpa using I.len⟩ ⟨c,hs,.inr hc⟩
   .exact(hs.2 b (K3 (P2 (K2 e) (I.ok.cab x c hfn hc)))).trans (I.base.keep b o e n hb hx)
   .obtain⟨sl,e1⟩:=I.base.slot b o e n hb hx;exact⟨sl,(hs.2 b (K3 (P2 (K2 e) (I.ok.cab x c hfn hc)))).trans e1⟩
   .obtain⟨o',e1⟩:=I.base.there b o e hx;exact⟨o',(hs.2 b (K3 (P2 (K2 e) (I.ok.cab x c hfn hc)))).trans e1⟩
   .by_cases hj:j=i
    .subst hj;rw[hi]at e1;cases e1;rw[Q6 hiσ]at e2;cases e2;exact⟨u,r,.inr ⟨.inl hk,c,hc,hc'⟩⟩
    .rw[V8 (N2 hj)]at e2;obtain⟨u',r',q⟩:=hl j y v' e1 e2 e3;refine⟨u',r',?_⟩;rcases q with q|⟨k,c',e,z'⟩
     .exact .inl q
     .refine .inr ⟨k,c',e,z'.sameBut hs ?_⟩;rintro rfl;exact hj (IN hN e1 (I.ok.inj _ _ _ e hc ▸ hi))
   .by_cases hcc:c'=c
    .subst hcc;exact⟨_,hc'⟩
    .obtain⟨w2,z2⟩:=I.cell y c' e;exact⟨w2,z2.sameBut hs hcc⟩
   .obtain⟨e,n,ne,nf,d⟩:=I.pin p hp;refine⟨(hs.2 p.1 ?_).trans e,n,ne,nf,d⟩;intro q;grind
theorem dL(I:V2 X pins σ H s)(hN:X.N.Nodup)(hi:X.N[i]?=some x)(hx:Loc X.env.scope x)(r:T4 v u)
 (h:∀s',V2 X pins (σ.set i (some v)) H s'->Q () s') (hf:X.fn x=true\/X.env.scope.names.lookup x=some .local:=by first|exact .inl rfl|exact .inr rfl|assumption):wpAny M A (storeName X.env x u) Q E s:=
  LW I hN hi hx r (λs' I' _=>h s' I') hf
theorem V2.call'{s':Shared}(I:V2 X pins σ H s) (ho:s'.os=s.os) (u:Un (Bl X.stack) ch H H' s.heap s'.heap) (hok:pK X.prog X.w H' s'.heap) (hg:AllBare s'.gens)
 (hch:∀b∈ch,(b∈X.ex\/X.s_0.heap.objs.size<=b)/\b≠X.env.locals/\(∀x c,X.env.cells.lookup x=some c->c≠b)/\∀p∈X.pn++pins,p.1≠b):V2 X pins σ H' s':=by
  obtain⟨h',g',d',t',o'⟩:=s';have e:o'=s.os:=ho;subst e;exact I.call (g':=g') (t':=t') (d':=d') u hok hg hch
end
abbrev XK:=Addr×Bool->Option Addr->Hp->Prop
abbrev St:=List (Option V)
abbrev VK:=V->Hp->Prop
abbrev TE:=St->Hp->VK->Prop
abbrev TT:=St->Hp->(Bool->Hp->Prop)->Prop
abbrev TA:=St->Hp->(List V->Hp->Prop)->Prop
structure eL where
 nx:St->Hp->Prop
 rt:VK
 bk:St->Hp->Prop:=λ_ _=>False
 ct:St->Hp->Prop:=λ_ _=>False
abbrev TS:=eL->St->Hp->Prop
inductive EP(X:Cx)(pins:List (Addr×Obj))(σ:St)(Q:VK)(u:Value)(s':Shared):Prop
 |mk (v:V) (H':Hp):V2 X pins σ H' s'->T4 v u->Q v H'->EP X pins σ Q u s'
inductive TP(X:Cx)(pins:List (Addr×Obj))(σ:St)(Q:Bool->Hp->Prop)(b:Bool)(s':Shared):Prop
 |mk (H':Hp):V2 X pins σ H' s'->Q b H'->TP X pins σ Q b s'
inductive AP(X:Cx)(pins:List (Addr×Obj))(σ:St)(Q:List V->Hp->Prop)(us:List Value)(s':Shared):Prop
 |mk (vs:List V) (H':Hp):V2 X pins σ H' s'->D4 vs us->Q vs H'->AP X pins σ Q us s'
inductive SQ(X:Cx)(pins:List (Addr×Obj))(Q:St->Hp->Prop)(s':Shared):Prop
 |mk (σ':St) (H':Hp):V2 X pins σ' H' s'->Q σ' H'->SQ X pins Q s'
def SP(X:Cx)(pins:List (Addr×Obj))(D:eL)(f:Flow)(s':Shared):Prop:=
 match f with
 |.next=>SQ X pins D.nx s'
 |.brk=>SQ X pins D.bk s'
 |.cont=>SQ X pins D.ct s'
 |.ret u=>∃v σ' H',V2 X pins σ' H' s'/\T4 v u/\D.rt v H'
def PE(X:Cx)(e:Expr)(t:TE):Prop:=
 ∀(pins:List (Addr×Obj))(s:Shared)(σ:St)(H:Hp)(Q:VK),V2 X pins σ H s->t σ H Q->wpAny (model X.prog X.w) X.A (eval e X.env) (EP X pins σ Q) X.xe s
def PT(X:Cx)(e:Expr)(t:TT):Prop:=
 ∀(pins:List (Addr×Obj))(s:Shared)(σ:St)(H:Hp)(Q:Bool->Hp->Prop),V2 X pins σ H s->t σ H Q->wpAny (model X.prog X.w) X.A (isTrue e X.env (eval e X.env)) (TP X pins σ Q) X.xe s
def PW(X:Cx)(e:Expr)(t:TT):Prop:=
 ∀(Wo:Sem Value)(pins:List (Addr×Obj))(s:Shared)(σ:St)(H:Hp)(Q:Bool->Hp->Prop),V2 X pins σ H s->t σ H Q->wpAny (model X.prog X.w) X.A (isTrue e X.env Wo) (TP X pins σ Q) X.xe s
theorem PW.pt{e:Expr}{t:TT}(h:PW X e t):PT X e t:=h _
def PA(X:Cx)(es:List Expr)(t:TA):Prop:=
 ∀(pos:Pos)(pins:List (Addr×Obj))(s:Shared)(σ:St)(H:Hp)(Q:List V->Hp->Prop),V2 X pins σ H s->t σ H Q->wpAny (model X.prog X.w) X.A (spliced (backTo pos (starEach es X.env))) (AP X pins σ Q) X.xe s
def PS(X:Cx)(st:Stmt)(t:TS):Prop:=
 ∀(pins:List (Addr×Obj))(s:Shared)(σ:St)(H:Hp)(D:eL),V2 X pins σ H s->t D σ H->wpAny (model X.prog X.w) X.A (exec st X.env) (SP X pins D) X.xe s
def Ys(X:Cx)(st:List Stmt)(t:TS):Prop:=
 ∀(pins:List (Addr×Obj))(s:Shared)(σ:St)(H:Hp)(D:eL),V2 X pins σ H s->t D σ H->wpAny (model X.prog X.w) X.A (execs st X.env) (SP X pins D) X.xe s
theorem n8{α:Type}{t:Sem α}{Q Q':α->Shared->Prop}(h:wpAny M A t Q E s) (hQ:∀a s,Q a s->Q' a s):wpAny M A t Q' E s:=P5 h hQ λ_ _ x=>x
end L2
namespace L2
open PySem PySem.Spec PyProof.Rows
variable {H:Hp}{pins:List (Addr×Obj)}{pos:Pos}{s:Shared}{σ:St}{x:Str}{t:TE}{u:Value}{E Q:Value->Shared->Prop}
section
variable {X:Cx}
inductive aG(i:Nat)(σ:St)(H:Hp)(Q:VK):Prop
 |mk (v:_):σ[i]?=some (some v)->Q v H->aG i σ H Q
def tC(v:V):TE:=λ_ H Q=>Q v H
theorem zcR{i:Nat}(hN:X.N[i]?=some x) (hv:Vis X.env.scope x) (hd:(x==("__debug__": Str))=false:=by decide) (Ht:(x==("__classdict__": Str))=false:=by decide):PE X (.Name x pos) (aG i):=by
 intro pins s σ H Q I h;obtain⟨v,e,h⟩:=h;obtain⟨m,hn,hl⟩:=I.loc;obtain⟨u,r,l⟩:=hl i x v hN e hv;have fin:EP X pins σ Q u s:=⟨v,H,I,r,h⟩
 rcases l with⟨hk,hm⟩|⟨hk,c,hc,Xo⟩
 .exact wpAny_Name (wpAny_loadName_local I.ok.kind hk hn hm fin) hd
 .rcases hk with hk|hk
  .exact wpAny_Name (wpAny_loadName_cell I.ok.kind hk hc Xo fin) hd
  .exact wpAny_Name (wpAny_loadName_free I.ok.kind hk hc Xo fin Ht) hd
theorem O2{i j pos}:PE X (.Constant (.int i) j pos) (tC (.int i)):=λ_ _ _ H _ I h=>wpAny_Constant_int ⟨.int i,H,I.tok _,⟨_,rfl⟩,h⟩
theorem lY{j pos}:PE X (.Constant .none j pos) (tC .non):=λ_ _ _ H _ I h=>Constant_none ⟨.non,H,I,rfl,h⟩
theorem SS{x j pos}:PE X (.Constant (.str x) j pos) (tC (.str x)):=λ_ _ _ H _ I h=>Calls.Constant_str ⟨.str x,H,I.tok _,⟨_,rfl⟩,h⟩
def Gl(X:Cx)(x:Str):Prop:=X.env.kindOf x=some .globalImplicit
theorem oH(I:V2 X pins σ H s)(hg:Gl X x)(hm:X.mg x=some u)(h:Q u s)
 (hd:(x==("__debug__": Str))=false:=by decide):wpAny (model X.prog X.w) X.A (eval (.Name x pos) X.env) Q E s:=
  xG I.ok.kind hg (Calls.loadGlobal_global (by rw[I.ok.glob];exact I.mod.glob.keeps I.bk) hm h) hd
theorem JH(I:V2 X pins σ H s)(hg:Gl X x)(hm:X.mg x=none)(hv:bootBuiltins x=some u)(h:Q u s)
 (hn:x ≠ "__name__":= by decide) (hd:(x==("__debug__": Str))=false:=by decide):wpAny (model X.prog X.w) X.A (eval (.Name x pos) X.env) Q E s:=by
  obtain⟨mb,h1,h2⟩:=I.mod.blt;exact xG I.ok.kind hg (Calls.loadGlobal_builtin (by rw[I.ok.glob];exact I.mod.glob.keeps I.bk) hm (by rw[I.ok.blt];exact h1.keeps I.bk) ((h2 x hn).trans hv) h) hd
theorem HB{v:V}(hg:Gl X x) (hm:X.mg x=some u) (r:T4 v u) (hd:(x==("__debug__": Str))=false:=by decide):PE X (.Name x pos) (tC v):=
 λ_ _ _ H _ I h=>oH I hg hm ⟨v,H,I,r,h⟩ hd
variable {a b:Expr}{ta tb:TE}
def PC(X:Cx)(op:CmpOp)(a b:Expr)(t:TE):Prop:=
 ∀(pins:List (Addr×Obj))(s:Shared)(σ:St)(H:Hp)(Q:VK),V2 X pins σ H s->t σ H Q->
  wpAny (model X.prog X.w) X.A (eval a X.env) (λv s₁=>wpAny (model X.prog X.w) X.A (eval b X.env) (λu s₂=>wpAny (model X.prog X.w) X.A (compareOp op v u) (EP X pins σ Q) X.xe s₂) X.xe s₁) X.xe s
inductive tBI(Q:Bool->Hp->Prop)(x:V)(H1:Hp):Prop
 |mk (c:_):x=.bl c->Q c H1->tBI Q x H1
def tB(t:TE):TT:=λσ H Q=>t σ H (tBI Q)
theorem zcS{op:CmpOp}(h:PC X op a b t) (h1:behindInMarks op b=false:=by first|exact nobehind _ (by decide) (by decide)|rfl):PT X (.Compare a [op] [b] pos) (tB t):=by
 intro pins s σ H Q I hw;refine CK (n8 (h pins s σ H _ I hw) λv s1 h1=>n8 h1 λu s2 h2=>n8 h2 λc s3 ⟨x,H1,I1,r1,q1⟩=>?_) h1;obtain⟨d,rfl,q⟩:=q1;cases r1;exact M5 ⟨H1,I1,q⟩
theorem cD{e:Expr}(h:PE X e t) (he:∀Wo,isTrue e X.env Wo=(do let v <-Wo;standAt e.pos;holding [v] (truthy v)):=by intro _;rfl):PT X e (tB t):=by
 intro pins s σ H Q I hw;refine isTrue_plain (n8 (h pins s σ H _ I hw) λv s1 ⟨x,H1,I1,r1,q1⟩=>?_) (he _);obtain⟨d,rfl,q⟩:=q1;cases r1;exact M5 ⟨H1,I1,q⟩
variable {tA tB':TT}{Y7:List Expr}
def zcT(t u:TT):TT:=λσ H Q=>t σ H λc H1=>if c=true then u σ H1 Q else Q false H1
def tOr(t u:TT):TT:=λσ H Q=>t σ H λc H1=>if c=true then Q true H1 else u σ H1 Q
def zh6(t:TT):TT:=λσ H Q=>t σ H λc H1=>Q (!c) H1
theorem JN(ha:PT X a tA):PW X (.BoolOp .And [a] pos) tA:=by
 intro wh pins s σ H Q I h;refine isTrue_and (n8 (ha pins s σ H Q I h) λc s1 e=>?_);cases c with
 |true=>exact isTrue_and_nil e
 |false=>exact e
theorem UM(ha:PT X a tA):PW X (.BoolOp .Or [a] pos) tA:=by
 intro wh pins s σ H Q I h;refine isTrue_or (n8 (ha pins s σ H Q I h) λc s1 e=>?_);cases c with
 |false=>exact isTrue_or_nil e
 |true=>exact e
theorem US(ha:PT X a tA)(hb:PW X (.BoolOp .And (b::Y7) pos) tB'):PW X (.BoolOp .And (a::b::Y7) pos) (zcT tA tB'):=by
 intro wh pins s σ H Q I h;refine isTrue_and (n8 (ha pins s σ H _ I h) λc s1 ⟨H1,I1,q1⟩=>?_);cases c with
 |true=>exact hb wh pins s1 σ H1 Q I1 q1
 |false=>exact⟨H1,I1,q1⟩
theorem VS(ha:PT X a tA)(hb:PW X (.BoolOp .Or (b::Y7) pos) tB'):PW X (.BoolOp .Or (a::b::Y7) pos) (tOr tA tB'):=by
 intro wh pins s σ H Q I h;refine isTrue_or (n8 (ha pins s σ H _ I h) λc s1 ⟨H1,I1,q1⟩=>?_);cases c with
 |true=>exact⟨H1,I1,q1⟩
 |false=>exact hb wh pins s1 σ H1 Q I1 q1
theorem yG(ha:PT X a tA):PT X (.UnaryOp .Not a pos) (zh6 tA):=by
 intro pins s σ H Q I h;exact isTrue_not (n8 (ha pins s σ H (λc H1=>Q (!c) H1) I h) λc s' ⟨H1,I1,q⟩=>⟨H1,I1,q⟩)
def Ut(ta tb:TE):TE:=λσ H Q=>ta σ H λx H1=>∃c,x=.bl c/\if c=true then tb σ H1 Q else Q (.bl false) H1
def zcU(ta tb:TE):TE:=λσ H Q=>ta σ H λx H1=>∃c,x=.bl c/\if c=true then Q (.bl true) H1 else tb σ H1 Q
inductive Vt(Q:VK)(x:V)(H1:Hp):Prop
 |mk (c:_):x=.bl c->Q (.bl (!c)) H1->Vt Q x H1
def zfa(ta:TE):TE:=λσ H Q=>ta σ H (Vt Q)
theorem fL{op}(h:PE X a t):PE X (.BoolOp op [a] pos) t:=λpins s σ H Q I hw=>BoolOp_one (h pins s σ H Q I hw)
theorem DP(ha:PE X a ta)(hb:PE X (.BoolOp .And (b::Y7) pos) tb):PE X (.BoolOp .And (a::b::Y7) pos) (Ut ta tb):=by
 intro pins s σ H Q I h;refine BoolOp_and (n8 (ha pins s σ H _ I h) λv s1 ⟨x,H1,I1,r1,q1⟩=>?_);obtain⟨c,rfl,q1⟩:=q1;cases r1;refine M5 ?_;cases c with
 |true=>exact hb pins s1 σ H1 Q I1 q1
 |false=>exact⟨.bl false,H1,I1,rfl,q1⟩
theorem El(ha:PE X a ta)(hb:PE X (.BoolOp .Or (b::Y7) pos) tb):PE X (.BoolOp .Or (a::b::Y7) pos) (zcU ta tb):=by
 intro pins s σ H Q I h;refine BoolOp_or (n8 (ha pins s σ H _ I h) λv s1 ⟨x,H1,I1,r1,q1⟩=>?_);obtain⟨c,rfl,q1⟩:=q1;cases r1;refine M5 ?_;cases c with
 |false=>exact hb pins s1 σ H1 Q I1 q1
 |true=>exact⟨.bl true,H1,I1,rfl,q1⟩
theorem Xt(ha:PE X a ta):PE X (.UnaryOp .Not a pos) (zfa ta):=by
 intro pins s σ H Q I h;refine UnaryOp_ (n8 (ha pins s σ H _ I h) λv s1 ⟨x,H1,I1,r1,q1⟩=>?_);obtain⟨c,rfl,q1⟩:=q1;cases r1;exact not_of (M5 ⟨.bl (!c),H1,I1,rfl,q1⟩)
def tIf(t:TT)(ta tb:TE):TE:=λσ H Q=>t σ H λc H1=>if c=true then ta σ H1 Q else tb σ H1 Q
theorem Aa{c:Expr}(hc:PT X c tA) (ha:PE X a ta) (hb:PE X b tb):PE X (.IfExp c a b pos) (tIf tA ta tb):=by
 intro pins s σ H Q I h;refine wpAny_IfExp (n8 (hc pins s σ H _ I h) λd s1 ⟨H1,I1,q1⟩=>?_);cases d with
 |true=>exact ha pins s1 σ H1 Q I1 q1
 |false=>exact hb pins s1 σ H1 Q I1 q1
end
end L2
namespace L2
open PySem PySem.Spec PyProof.Rows
variable {X:Cx}{e c tg:Expr}{H:Hp}{pins:List (Addr×Obj)}{es:List Expr}{i:Nat}{pos ZK:Pos}{P:Program}{K:Frag}{s:Shared}{σ:St}{x:Str}{te:TE}{tc:TT}{u:Value}{E:Value->Shared->Prop}{w:World}
def SqL(K:Frag)(H:Hp)(a:Addr)(xs:List V):Prop:=
 Rd H a (.lst xs)\/
  ∃(o:Obj)(its:Array Value)(n:Nat),K.lookup a=some o/\o.cls=.type "list" /\ o.dict=none/\o.data=.seq its n/\its.size<=sizeLine/\D4 xs its.toList
def eA(K:Frag)(H:Hp)(a:Addr)(xs:List V):Prop:=
 Rd H a (.tup xs)\/
  ∃(o:Obj)(its:Array Value)(n:Nat),K.lookup a=some o/\o.cls=.type "tuple" /\ o.data=.seq its n/\its.size<=sizeLine/\D4 xs its.toList
def zh7:Value->Option V
 |.none=>some .non
 |.bool b=>some (.bl b)
 |.int i _=>some (.int i)
 |.str x _=>some (.str x)
 |.bytes b _=>some (.byt b)
 |.float b _=>some (.flt b)
 |.ref a=>some (.ref a)
 |.type n=>some (.ty n)
 |_=>none
theorem T4.abs{x:V}(r:T4 x u):zh7 u=some x:=by
 cases x with
 |non=>cases r;rfl
 |bl _=>cases r;rfl
 |int _=>obtain⟨t,rfl⟩:=r;rfl
 |str _=>obtain⟨t,rfl⟩:=r;rfl
 |byt _=>obtain⟨t,rfl⟩:=r;rfl
 |flt _=>obtain⟨t,rfl⟩:=r;rfl
 |ref _=>cases r;rfl
 |ty _=>cases r;rfl
theorem T4.inj{x y:V}(r:T4 x u) (q:T4 y u):x=y:=M0 (r.abs.symm.trans q.abs)
theorem D4.inj:∀{xs ys:List V}{us:List Value},D4 xs us->D4 ys us->xs=ys
 |_,_,_,.nil,.nil=>rfl
 |_,_,_,.cons r t,.cons r' t'=>by rw[r.inj r',D4.inj t t']
section
variable {a:Addr}{xs ys:List V}
theorem SqL.of(h:H a=some (.lst xs)):SqL K H a xs:=.inl (.inl h)
theorem V2.list(I:V2 X pins σ H s)(h:SqL X.K H a xs):∃its:List Value,D4 xs its/\PlainL s.heap a its.toArray/\xs.length<=sizeLine:=by
 rcases h with h|⟨o,its,n,hk,hc,hd,hs,hz,r⟩
 .obtain⟨z,its,n,r,e⟩:=h.ok I.hok;exact⟨its,r,⟨_,n,e,rfl,rfl,rfl⟩,z⟩
 .refine⟨its.toList,r,⟨o,n,I.kIn a o hk,hc,hd,by simpa using hs⟩,?_⟩;have e:=r.length;grind
theorem V2.tuple(I:V2 X pins σ H s)(h:eA X.K H a xs):∃its:List Value,D4 xs its/\IsTup s.heap a its.toArray/\xs.length<=sizeLine:=by
 rcases h with h|⟨o,its,n,hk,hc,hs,hz,r⟩
 .obtain⟨z,its,r,p⟩:=h.ok I.hok;exact⟨its,r,p,z⟩
 .refine⟨its.toList,r,⟨o,I.kIn a o hk,hc,n,by simpa using hs⟩,?_⟩;have e:=r.length;grind
theorem V2.list_inj(I:V2 X pins σ H s)(h:SqL X.K H a xs)(h':SqL X.K H a ys):xs=ys:=by
 obtain⟨its,r,⟨o,n,e,_,_,d⟩,_⟩:=I.list h;obtain⟨its',r',⟨o',n',e',_,_,d'⟩,_⟩:=I.list h';rw[e]at e';cases e';rw[d]at d';injection d' with d1 _;have:its=its':=by grind
 subst this;exact r.inj r'
theorem V2.tuple_inj(I:V2 X pins σ H s)(h:eA X.K H a xs)(h':eA X.K H a ys):xs=ys:=by
 obtain⟨its,r,⟨o,e,_,n,d⟩,_⟩:=I.tuple h;obtain⟨its',r',⟨o',e',_,n',d'⟩,_⟩:=I.tuple h';rw[e]at e';cases e';rw[d]at d';injection d' with d1 _;have:its=its':=by grind
 subst this;exact r.inj r'
end
abbrev Cx.wish(X:Cx)(E:Value->Shared->Prop):Cx:={X with xe:=E}
theorem Cx.Ok.wish(ok:X.Ok)(E:Value->Shared->Prop):(X.wish E).Ok:=
 ⟨ok.mod,ok.kind,ok.glob,ok.blt,ok.above,ok.inj,ok.has,ok.cab,ok.hd,ok.frames,ok.stk,ok.exf,ok.bs,ok.bsz,ok.noex,ok.exfs,ok.funs,ok.frf⟩
theorem Cx.Ok.unwish(ok:(X.wish E).Ok):X.Ok:=
 ⟨ok.mod,ok.kind,ok.glob,ok.blt,ok.above,ok.inj,ok.has,ok.cab,ok.hd,ok.frames,ok.stk,ok.exf,ok.bs,ok.bsz,ok.noex,ok.exfs,ok.funs,ok.frf⟩
theorem V2.wish(I:V2 X pins σ H s)(E:Value->Shared->Prop):V2 (X.wish E) pins σ H s:=⟨I.ok.wish E,I.os,I.bare,I.base,I.loc,I.cell,I.free,I.freeC,I.pin,I.hok,I.len⟩
theorem V2.unwish(I:V2 (X.wish E) pins σ H s):V2 X pins σ H s:=⟨I.ok.unwish,I.os,I.bare,I.base,I.loc,I.cell,I.free,I.freeC,I.pin,I.hok,I.len⟩
section
variable {st:Stmt}{Y7:List Stmt}{t u:TS}
def qK:TS:=λD σ H=>D.nx σ H
def IR(t u:TS):TS:=λD σ H=>t {D with nx:=u D} σ H
theorem U4:Ys X [] qK:=λ_ _ σ H _ I h=>ZC ⟨σ,H,I,h⟩
theorem T0(h1:PS X st t)(h2:Ys X Y7 u):Ys X (st::Y7) (IR t u):=by
 intro pins s σ H D I h;refine wpAny_execs_cons (n8 (h1 pins s σ H {D with nx:=u D} I h) λf s1 q=>?_);cases f with
 |next=>
  obtain⟨σ',H',I',q⟩:=q;exact h2 pins s1 σ' H' D I' q
 |ret v=>exact q
 |brk=>exact q
 |cont=>exact q
theorem X0(h1:PS X st t):Ys X [st] t:=by
 intro pins s σ H D I h;refine wpAny_execs_cons (n8 (h1 pins s σ H D I h) λf s1 q=>?_);cases f with
 |next=>exact ZC q
 |ret v=>exact q
 |brk=>exact q
 |cont=>exact q
theorem V2.quiet(I:V2 X pins σ H s):interactive X.env=false:=by simp[interactive,I.ok.kind]
def zfb(te:TE):TS:=λD σ H=>te σ H λ_ H1=>D.nx σ H1
theorem n6(he:PE X e te)(hs:swapsWith e none pos.line X.env=pure false:=by rfl):PS X (.Expr e pos) (zfb te):=by
 intro pins s σ H D I h;exact wpAny_Expr_any (n8 (he pins s σ H _ I h) λv s1 ⟨x,H1,I1,r1,q1⟩=>⟨σ,H1,I1,q1⟩) I.quiet hs
def zfc(te:TE):TS:=λD σ H=>te σ H D.rt
theorem Q3(he:PE X e te):PS X (.Return (some e) pos) (zfc te):=by
 intro pins s σ H D I h;exact wpAny_Return_some (n8 (he pins s σ H _ I h) λv s1 ⟨x,H1,I1,r1,q1⟩=>⟨x,σ,H1,I1,r1,q1⟩)
def QV(c:TT)(t u:TS):TS:=λD σ H=>c σ H λb H1=>if b=true then t D σ H1 else u D σ H1
theorem c7{a b:List Stmt}(hc:PT X c tc) (ha:Ys X a t) (hb:Ys X b u):PS X (.If c a b pos) (QV tc t u):=by
 intro pins s σ H D I h;refine wpAny_If (n8 (hc pins s σ H _ I h) λd s1 ⟨H1,I1,q1⟩=>?_);cases d with
 |true=>exact ha pins s1 σ H1 D I1 q1
 |false=>exact hb pins s1 σ H1 D I1 q1
end
abbrev TG:=V->St->Hp->(St->Hp->Prop)->Prop
abbrev TGs:=List V->St->Hp->(St->Hp->Prop)->Prop
def PG(X:Cx)(JQ:Expr)(t:TG):Prop:=
 ∀(pins:List (Addr×Obj))(s:Shared)(σ:St)(H:Hp)(v:V)(u:Value)(Q:St->Hp->Prop),V2 X pins σ H s->T4 v u->t v σ H Q->
  wpAny (model X.prog X.w) X.A (assign JQ X.env u) (λ_ s'=>∃σ' H',V2 X pins σ' H' s'/\Q σ' H') X.xe s
def PGs(X:Cx)(ts:List Expr)(t:TGs):Prop:=
 ∀(pins:List (Addr×Obj))(s:Shared)(σ:St)(H:Hp)(vs:List V)(us:List Value)(Q:St->Hp->Prop),V2 X pins σ H s->D4 vs us->t vs σ H Q->
  wpAny (model X.prog X.w) X.A (assignInOrder ((assignEach ts X.env).map (·.2)) us) (λ_ s'=>∃σ' H',V2 X pins σ' H' s'/\Q σ' H') X.xe s
abbrev zcV:=V->V->V->Hp->(Hp->Prop)->Prop
def zfd(X:Cx)(t:zcV):Prop:=
 ∀(pins:List (Addr×Obj))(s:Shared)(σ:St)(H:Hp)(o i v:V)(ov iv u:Value)(Q:Hp->Prop),V2 X pins σ H s->T4 o ov->T4 i iv->T4 v u->t o i v H Q->
  wpAny (model X.prog X.w) X.A (setItem ov iv u) (λ_ s'=>∃H',V2 X pins σ H' s'/\Q H') X.xe s
abbrev TIp:=V->V->Hp->VK->Prop
def PIp(X:Cx)(op:Operator)(t:TIp):Prop:=
 ∀(pins:List (Addr×Obj))(s:Shared)(σ:St)(H:Hp)(x y:V)(v u:Value)(Q:VK),V2 X pins σ H s->T4 x v->T4 y u->t x y H Q->
  wpAny (model X.prog X.w) X.A (inplaceOp op v u) (EP X pins σ Q) X.xe s
def pH(i:Nat):TG:=λv σ H Q=>Q (σ.set i (some v)) H
theorem zaq(hN:X.N.Nodup)(hi:X.N[i]?=some x)(hx:Loc X.env.scope x)(hf:X.fn x=true\/X.env.scope.names.lookup x=some .local:=by first|exact .inl rfl|exact .inr rfl|assumption):PG X (.Name x pos) (pH i):=by
 intro pins s σ H v u Q I r h;exact wpAny_assign_Name (dL I hN hi hx r (λs' I'=>⟨_,H,I',h⟩) hf)
def zh8:TGs:=λvs σ H Q=>vs=[]/\Q σ H
inductive zbO(t:TG)(u:TGs)(vs:List V)(σ:St)(H:Hp)(Q:St->Hp->Prop):Prop
 |mk (v r:_):vs=v::r->(t v σ H λσ' H'=>u r σ' H' Q)->zbO t u vs σ H Q
theorem qH:PGs X [] zh8:=by
 intro pins s σ H vs us Q I r h;obtain⟨e,h⟩:=h;subst e;cases r;exact assignInOrder_nil ⟨σ,H,I,h⟩
theorem n9{t:TG}{u:TGs}(h1:PG X e t) (h2:PGs X es u)
 (hs:(assignEach (e::es) X.env).map (·.2)=assign e X.env::(assignEach es X.env).map (·.2):=by rfl):PGs X (e::es) (zbO t u):=by
  intro pins s σ H vs us Q I r h;obtain⟨v,vr,e1,h⟩:=h;subst e1;cases r with
  |cons r rr=>
   rw[hs];refine assignInOrder_cons (n8 (h1 pins s σ H _ _ _ I r h) λ_ s1 ⟨σ1,H1,I1,q1⟩=>?_);exact h2 pins s1 σ1 H1 _ _ Q I1 rr q1
inductive zff(K:Frag)(n:Nat)(t:TGs)(v:V)(σ:St)(H:Hp)(Q:St->Hp->Prop):Prop
 |mk (a xs:_):v=.ref a->eA K H a xs->xs.length=n->t xs σ H Q->zff K n t v σ H Q
theorem gL{k:Nat}{t:TGs}{n:Nat}(hc:X.calm=true) (h:PGs X es t)
 (hn:(assignEach es X.env).length=n:=by rfl) (RM:(assignEach es X.env).findIdx? (·.1)=none:=by rfl):PG X (.Tuple es k pos) (zff X.K n t):=by
  intro pins s σ H v u Q I r hw;obtain⟨a,xs,e1,hq,hl,hw⟩:=hw;subst e1;cases r;obtain⟨its,rv,ht,hz⟩:=I.tuple hq;refine assign_Tuple_tuple (I.ok.hd hc) ht (by simp[hn,<-hl,rv.length]) RM λh' hx=>?_;have I1:V2 X pins σ H {s with heap:=h'}:=I.kept (t':=s.toks) λb o e=>hx b o (K3 (K2 e)) e;exact h pins _ σ H xs _ Q I1 (by simpa using rv) hw
def zh9(to ti:TE)(t:zcV):TG:=λv σ H Q=>to σ H λo H1=>ti σ H1 λi H2=>t o i v H2 λH3=>Q σ H3
theorem Yt{o i:Expr}{to ti:TE}{t:zcV}(ho:PE X o to) (hi:PE X i ti) (hs:zfd X t)
 (ha:∀v,assign (.Subscript o i pos) X.env v=(do
 let ov <-holding [v] (eval o X.env)
 let iv <-holding [v,ov] (eval i X.env)
 standAt pos
 holding [v,ov,iv] (setItem ov iv v)
 release [v,ov,iv] []):=by intro _;rfl):PG X (.Subscript o i pos) (zh9 to ti t):=by
  intro pins s σ H v u Q I r h;rw[ha];refine z0 (W4 (n8 (ho pins s σ H _ I h) λov s1 ⟨x,H1,I1,r1,q1⟩=>?_));refine z0 (W4 (n8 (hi pins s1 σ H1 _ I1 q1) λiv s2 ⟨y,H2,I2,r2,q2⟩=>?_));refine z0 (w9 (z0 (W4 (n8 (hs pins s2 σ H2 x y v ov iv u _ I2 r1 r2 r q2) λ_ s3 ⟨H3,I3,q3⟩=>?_))));exact wpAny_release ⟨σ,H3,I3,q3⟩
def Zt(te:TE)(g:TG):TS:=λD σ H=>te σ H λx H1=>g x σ H1 D.nx
theorem Au{g:TG}(he:PE X e te) (hg:PG X tg g) (hs:swapsWithSole [tg] e pos.line X.env=pure false:=by rfl) (hw:swappedStores [tg] e X.env=pure none:=by rfl)
 (h1:(assignEach [tg] X.env).map (·.2)=[assign tg X.env]:=by rfl):PS X (.Assign [tg] e pos) (Zt te g):=by
  intro pins s σ H D I h;refine wpAny_Assign_stores (n8 (he pins s σ H _ I h) λv s1 ⟨x,H1,I1,r1,q1⟩=>?_) hs hw;rw[h1];exact n8 (hg pins s1 σ H1 x v _ I1 r1 q1) λ_ s2 ⟨_,_,I,q⟩=>⟨_,_,I,q⟩
theorem zcW(hN:X.N.Nodup)(hi:X.N[i]?=some x)(hx:Loc X.env.scope x)(he:PE X e te)(hs:swapsWith e (some (.Name x ZK)) pos.line X.env=pure false:=by rfl)(hf:X.fn x=true\/X.env.scope.names.lookup x=some .local:=by first|exact .inl rfl|exact .inr rfl|assumption) :
  PS X (.Assign [.Name x ZK] e pos) (Zt te (pH i)):=by
 intro pins s σ H D I h;refine wpAny_Assign_Name (n8 (he pins s σ H _ I h) λv s1 ⟨y,H1,I1,r1,q1⟩=>?_) hs;exact dL I1 hN hi hx r1 (λs2 I2=>⟨_,H1,I2,q1⟩) hf
def zfg(i:Nat)(te:TE)(ti:TIp):TS:=λD σ H=>∃x,σ[i]?=some (some x)/\te σ H λy H1=>ti x y H1 λz H2=>D.nx (σ.set i (some z)) H2
theorem zcX{op:Operator}{ti:TIp}(hN:X.N.Nodup) (hi:X.N[i]?=some x) (hx:Loc X.env.scope x) (he:PE X e te) (ho:PIp X op ti) (hf:X.fn x=true\/X.env.scope.names.lookup x=some .local:=by first|exact .inl rfl|exact .inr rfl|assumption) :
  PS X (.AugAssign (.Name x ZK) op e pos) (zfg i te ti):=by
 intro pins s σ H D I h;obtain⟨v,e1,h⟩:=h;obtain⟨m,hn,hl⟩:=I.loc;have vis:Vis X.env.scope x:=by rcases hx with k|k;exact .inl k;exact .inr (.inl k)
 obtain⟨u,r,l⟩:=hl i x v hi e1 vis;refine wpAny_AugAssign_Name ?_;have go:wpAny (model X.prog X.w) X.A (eval e X.env) (λw s₂=>wpAny (model X.prog X.w) X.A (inplaceOp op u w) (λr s₃=>wpAny (model X.prog X.w) X.A (storeName X.env x r) (λ_=>SP X pins D .next) X.xe s₃) X.xe s₂) X.xe s:=by
  refine n8 (he pins s σ H _ I h) λw s1 ⟨y,H1,I1,r1,q1⟩=>?_;refine n8 (ho pins s1 σ H1 v y u w _ I1 r r1 q1) λz s2 ⟨zv,H2,I2,r2,q2⟩=>?_;exact dL I2 hN hi hx r2 (λs3 I3=>⟨_,H2,I3,q2⟩) hf
 rcases l with⟨hk,hm⟩|⟨hk,c,hc,Xo⟩
 .exact wpAny_loadName_local I.ok.kind hk hn hm go
 .rcases hk with hk|hk
  .exact wpAny_loadName_cell I.ok.kind hk hc Xo go
  .rcases hx with k|k
   .have:X.env.scope.names.lookup x=some .free:=hk;grind
   .have:X.env.scope.names.lookup x=some .free:=hk;grind
def ipI(f:Int->Int->Int):TIp:=λx y H Q=>∃i j,x=.int i/\y=.int j/\Q (.int (f i j)) H
theorem mY:PIp X .Add (ipI λi j=>i+j):=by
 intro pins s σ H x y v u Q I r1 r2 h;obtain⟨i,j,e1,e2,q⟩:=h;subst e1;subst e2;obtain⟨t,rfl⟩:=r1;obtain⟨t',rfl⟩:=r2;exact iadd_int ⟨.int _,H,I.tok _,⟨_,rfl⟩,q⟩
theorem zcY:PIp X .Sub (ipI λi j=>i-j):=by
 intro pins s σ H x y v u Q I r1 r2 h;obtain⟨i,j,e1,e2,q⟩:=h;subst e1;subst e2;obtain⟨t,rfl⟩:=r1;obtain⟨t',rfl⟩:=r2;exact isub_int ⟨.int _,H,I.tok _,⟨_,rfl⟩,q⟩
def Bu(c:TT)(tb:TS):TS:=λD σ H=>∃W:Nat->St->Hp->Prop,(∃m,W m σ H)/\∀m σ H,W m σ H->
 c σ H λb H1=>if b=true then ∃N:St->Hp->Prop,(∀σ' H',N σ' H'->∃m',m'<m/\W m' σ' H')/\tb {D with nx:=N,ct:=N,bk:=D.nx} σ H1 else D.nx σ H1
theorem KN{body:List Stmt}{tb:TS}(hp:PassesOwn (model X.prog X.w) X.A X.env X.xe) (hc:PT X c tc) (hb:Ys X body tb):PS X (.While c body [] pos) (Bu tc tb):=by
 intro pins s σ H D I h;obtain⟨W,⟨m0,w0⟩,turn⟩:=h;refine wpAny_While (codeAny_whileLoop (λn s'=>∃σ' H',V2 X pins σ' H' s'/\W n σ' H') ?_ m0 ⟨σ,H,I,w0⟩);rintro n s1 ⟨σ1,H1,I1,w1⟩;refine fA hp (n8 (hc pins s1 σ1 H1 _ I1 (turn n σ1 H1 w1)) λb s2 ⟨H2,I2,q2⟩=>?_);cases b with
 |true=>
  obtain⟨N,hN,q2⟩:=q2;rw[J0 rfl];refine fA hp (n8 (hb pins s2 σ1 H2 _ I2 q2) λf s3 q3=>?_);cases f with
  |next=>
   obtain⟨σ3,H3,I3,n3⟩:=q3;obtain⟨m',hm,w3⟩:=hN σ3 H3 n3;exact⟨m',hm,σ3,H3,I3,w3⟩
  |cont=>
   obtain⟨σ3,H3,I3,n3⟩:=q3;obtain⟨m',hm,w3⟩:=hN σ3 H3 n3;exact⟨m',hm,σ3,H3,I3,w3⟩
  |brk=>exact q3
  |ret v=>exact q3
 |false=>
  rw[D0 X1];exact ZC ⟨σ1,H2,I2,q2⟩
structure It where
 go:Nat->Hp->Prop
 yld:Nat->Hp->V->Hp->Prop
 stop:Nat->Hp->Prop
def iL(X:Cx)(pins:List (Addr×Obj))(H:Hp)(b:Addr):Prop:=
 H b=none/\b≠X.env.locals/\b∉X.fs/\(b∈X.ex\/X.s_0.heap.objs.size<=b)/\(∀x c,X.env.cells.lookup x=some c->c≠b)/\∀p∈X.pn++pins,p.1≠b
theorem V2.fpOk{H':Hp}{b:Addr}(I:V2 X pins σ H s) (hb:s.heap.objs.size<=b) (hn:H' b=none):iL X pins H' b:=by
 refine⟨hn,bG (P2 I.lt hb),I.nofs hb,.inr (k4 I.sz hb),λx c e z=>?_,λp hp z=>?_⟩
 .obtain⟨v,q⟩:=I.cell x c e;exact absurd (P2 q.lt (by rw[z];exact hb)) (L5 _)
 .exact absurd (P2 (K2 (I.pin p hp).1) (by rw[z];exact hb)) (L5 _)
structure XS(P:Program)(w:World)(K:Frag)(tg:Expr)(J:It)(fp:List Addr)(it:Addr)(tn:Nat->Heap->Prop):Prop where
 mem:it∈fp
 obj:∀i h,tn i h->∀b∈fp,∃o,h.get? b=some o/\∀v,o.data≠.cell v
 keep:∀i h h',tn i h->(∀b∈fp,∀o,h.get? b=some o->h'.get? b=some o)->tn i h'
 item:∀(X:Cx),X.prog=P->X.w=w->X.K=K->X.calm=true->∀(i:Nat)(pins:List (Addr×Obj))(s:Shared)(σ:St)(H:Hp)(E:Value->Shared->Prop),V2 X pins σ H s->(∀b∈fp,iL X pins H b)->tn i s.heap->J.go i H->
  wpAny (model P w) X.A (pyNext (.ref it)) (λr s1=>∃u,r=some u/\
   wpAny (model P w) X.A (letOwnedTupleGo tg (.ref it) u) (λ_ s2=>∃x H',V2 X pins σ H' s2/\T4 x u/\J.yld i H x H'/\tn (i+1) s2.heap/\∀b∈fp,H' b=none) E s1) E s
 done:∀(X:Cx),X.prog=P->X.w=w->X.K=K->X.calm=true->∀(i:Nat)(pins:List (Addr×Obj))(s:Shared)(σ:St)(H:Hp)(E:Value->Shared->Prop),V2 X pins σ H s->(∀b∈fp,iL X pins H b)->tn i s.heap->J.stop i H->
  wpAny (model P w) X.A (pyNext (.ref it)) (λr s1=>r=none/\V2 X pins σ H s1) E s
 self:∀(A:Around)(i:Nat)(s:Shared)(Q:Value->Shared->Prop)(E:Value->Shared->Prop),tn i s.heap->Q (.ref it) s->wpAny (model P w) A (pyIter (.ref it)) Q E s
abbrev TI:=St->Hp->(It->Hp->Prop)->Prop
inductive PIE(X:Cx)(pins:List (Addr×Obj))(σ:St)(tg:Expr)(R:It->Hp->Prop)(itv:Value)(s2:Shared):Prop
 |mk (it:Addr) (fp:List Addr) (tn:Nat->Heap->Prop) (J:It) (H':Hp):itv=.ref it->V2 X pins σ H' s2->XS X.prog X.w X.K tg J fp it tn->tn 0 s2.heap->(∀b∈fp,iL X pins H' b)->R J H'->PIE X pins σ tg R itv s2
def PI(X:Cx)(tg PF:Expr)(wi:TI):Prop:=
 ∀(pins:List (Addr×Obj))(s:Shared)(σ:St)(H:Hp)(R:It->Hp->Prop),V2 X pins σ H s->wi σ H R->
  wpAny (model X.prog X.w) X.A (eval PF X.env) (λv s1=>wpAny (model X.prog X.w) X.A (pyIter v) (PIE X pins σ tg R) X.xe s1) X.xe s
theorem YS{M:Model}{A:Around}{it:Addr}{o:Obj}{n:String}{vs:Array Value}{Q:Unit->Shared->Prop}(ho:s.heap.get? it=some o) (hc:o.cls=.type n) (hd:o.data=.fields vs)
 (hn:["enumerate","zip","dict_itemiterator","dict_reverseitemiterator","odict_iterator","itertools.zip_longest","itertools.pairwise"].contains n=false) (hQ:Q () s):wpAny M A (letOwnedTupleGo tg (.ref it) u) Q E s:=by
  unfold letOwnedTupleGo;cases tg<;>first
   |exact S0 hQ
   |(cases u<;>first
      |exact S0 hQ
      |(refine z0 (wpAny_load ho ?_)
        rw[hc,hd];show wpAny M A (if (["enumerate","zip","dict_itemiterator","dict_reverseitemiterator","odict_iterator","itertools.zip_longest","itertools.pairwise"].contains n&&vs[0]? == some (rawInt _))=true then _ else _) Q E s;rw[D0 (by intro h;rw[hn,QB]at h;cases h)];exact S0 hQ))
def Cu(K:Frag)(a:Addr):It:=
 ⟨λi H=>∃xs x,SqL K H a xs/\xs[i]?=some x,λi H x H'=>H'=H/\∀xs,SqL K H a xs->xs[i]?=some x,λi H=>∃xs,SqL K H a xs/\xs.length<=i⟩
def Itt(K:Frag)(a:Addr):It:=
 ⟨λi H=>∃xs x,eA K H a xs/\xs[i]?=some x,λi H x H'=>H'=H/\∀xs,eA K H a xs->xs[i]?=some x,λi H=>∃xs,eA K H a xs/\xs.length<=i⟩
def Itr(lo:Int)(n:Nat):It:=⟨λi _=>i<n,λi H x H'=>H'=H/\x=.int (lo+i),λi _=>n<=i⟩
theorem Jp(a it:Addr):XS P w K tg (Cu K a) [it] it (λi h=>h.IsListIter it a i) where
 mem:=by simp
 obj:=λi h st b hb=>by
  have e:b=it:=by simpa using hb
  subst e;obtain⟨o,e,c,d⟩:=st;grind
 keep:=λi h h' st k=>st.at λo e=>k it (by simp) o e
 item:=by
  intro X hP hw hK hc i pins s σ H E I hf st hg;subst hP hw hK;obtain⟨xs,x,hq,hx⟩:=hg;obtain⟨its,rv,p,hz⟩:=I.list hq;obtain⟨u,hu,ru⟩:=rv.get hx;obtain⟨f0,f1,f2,f3,f4,f5⟩:=hf it (by simp);refine wpAny_pyNext_list_item st p.isList (x:=u) (by simpa using hu) λh' O9 sb=>?_;have I1:V2 X pins σ H {s with heap:=h'}:=I.turned (t':=s.toks) (λb o hb e=>(sb.2 b hb).trans e) f0 f1 f3 f4 f5;obtain⟨o,e,c,d⟩:=id O9;exact⟨u,rfl,YS (s:={s with heap:=h'}) e c d (by decide) ⟨x,H,I1,ru,⟨rfl,λys hy=>by rw[I.list_inj hy hq];exact hx⟩,O9,λb hb=>(hf b hb).1⟩⟩
 done:=by
  intro X hP hw hK hc i pins s σ H E I hf st hg;subst hP hw hK;obtain⟨xs,hq,hx⟩:=hg;obtain⟨its,rv,p,hz⟩:=I.list hq;obtain⟨f0,f1,f2,f3,f4,f5⟩:=hf it (by simp);have hl:=rv.length;exact wpAny_pyNext_list_end (I.ok.hd hc) st p.isList (by simp;lia) λh' eb=>⟨rfl,I.turned (t':=s.toks) (λb o hb e=>eb b o hb e) f0 f1 f3 f4 f5⟩
 self:=λ_ _ _ _ _ st h=>wpAny_pyIter_listiter st h
theorem Ah(a it:Addr):XS P w K tg (Itt K a) [it] it (λi h=>h.IsTupleIter it a i) where
 mem:=by simp
 obj:=λi h st b hb=>by
  have e:b=it:=by simpa using hb
  subst e;obtain⟨o,e,c,d⟩:=st;grind
 keep:=λi h h' st k=>st.at λo e=>k it (by simp) o e
 item:=by
  intro X hP hw hK hc i pins s σ H E I hf st hg;subst hP hw hK;obtain⟨xs,x,hq,hx⟩:=hg;obtain⟨its,rv,p,hz⟩:=I.tuple hq;obtain⟨u,hu,ru⟩:=rv.get hx;obtain⟨f0,f1,f2,f3,f4,f5⟩:=hf it (by simp);refine wpAny_pyNext_tuple_item st (show s.heap.IsTuple a its.toArray from p) (x:=u) (by simpa using hu) λh' O9 sb=>?_;have I1:V2 X pins σ H {s with heap:=h'}:=I.turned (t':=s.toks) (λb o hb e=>(sb.2 b hb).trans e) f0 f1 f3 f4 f5;obtain⟨o,e,c,d⟩:=id O9;exact⟨u,rfl,YS (s:={s with heap:=h'}) e c d (by decide) ⟨x,H,I1,ru,⟨rfl,λys hy=>by rw[I.tuple_inj hy hq];exact hx⟩,O9,λb hb=>(hf b hb).1⟩⟩
 done:=by
  intro X hP hw hK hc i pins s σ H E I hf st hg;subst hP hw hK;obtain⟨xs,hq,hx⟩:=hg;obtain⟨its,rv,p,hz⟩:=I.tuple hq;obtain⟨f0,f1,f2,f3,f4,f5⟩:=hf it (by simp);have hl:=rv.length;exact wpAny_pyNext_tuple_end (I.ok.hd hc) st (show s.heap.IsTuple a its.toArray from p) (by simp;lia) λh' eb=>⟨rfl,I.turned (t':=s.toks) (λb o hb e=>eb b o hb e) f0 f1 f3 f4 f5⟩
 self:=λ_ _ _ _ _ st h=>wpAny_pyIter_tupleiter st h
theorem Bh(it:Addr)(lo:Int)(n:Nat):XS P w K tg (Itr lo n) [it] it (λi h=>IsRangeIter h it (lo+(i:Nat)*1) ((n:Int)-(i:Nat)) 1) where
 mem:=by simp
 obj:=λi h st b hb=>by
  grind
 keep:=λi h h' st k=>k it (by simp) _ st
 item:=by
  intro X hP hw hK hc i pins s σ H E I hf st hg;subst hP hw hK;obtain⟨f0,f1,f2,f3,f4,f5⟩:=hf it (by simp);have W:=Walks.range (prog:=X.prog) (w:=X.w) (I.ok.hd hc) it lo 1 n;refine W.item i s _ _ hg st λv h' tk hv O9 kk=>?_;obtain⟨t,rfl⟩:=hv;have I1:V2 X pins σ H {s with heap:=h',toks:=tk}:=I.turned (λb o hb e=>kk b o (by simpa using hb) e) f0 f1 f3 f4 f5;refine⟨_,rfl,YS (s:={s with heap:=h',toks:=tk}) (n:= "range_iterator") O9 rfl rfl (by decide) ⟨.int (lo+i),H,I1,⟨t,?_⟩,⟨rfl,rfl⟩,O9,λb hb=>(hf b hb).1⟩⟩;rw[Int.mul_one]
 done:=by
  intro X hP hw hK hc i pins s σ H E I hf st hg;subst hP hw hK;obtain⟨f0,f1,f2,f3,f4,f5⟩:=hf it (by simp);exact sJ (I.ok.hd hc) st (by have:n<=i:=hg;lia) λh' eb=>⟨rfl,I.turned (t':=s.toks) (λb o hb e=>eb b o hb e) f0 f1 f3 f4 f5⟩
 self:=λ_ _ _ _ _ st h=>tJ st h
end L2
namespace L2
open PySem PySem.Spec PyProof.Rows
variable {D:eL}{l a:Expr}{h:Heap}{H:Hp}{lo:Int}{pins:List (Addr×Obj)}{fp:List Addr}{xs:List V}{pos:Pos}{K:Frag}{s:Shared}{σ:St}{ta:TA}{g:TG}{tb:TS}
section
variable {X:Cx}{tg:Expr}
inductive Du(K:Frag)(R:It->Hp->Prop)(x:V)(H1:Hp):Prop
 |mk (a:_):x=.ref a->(∃xs,SqL K H1 a xs)->R (Cu K a) H1->Du K R x H1
def zfh(K:Frag)(tl:TE):TI:=λσ H R=>tl σ H (Du K R)
inductive zbQ(K:Frag)(R:It->Hp->Prop)(x:V)(H1:Hp):Prop
 |mk (a:_):x=.ref a->(∃xs,eA K H1 a xs)->R (Itt K a) H1->zbQ K R x H1
def zia(K:Frag)(tl:TE):TI:=λσ H R=>tl σ H (zbQ K R)
theorem W7{tl:TE}(hl:PE X l tl):PI X tg l (zfh X.K tl):=by
 intro pins s σ H R I h;refine n8 (hl pins s σ H _ I h) λv s1 ⟨x,H1,I1,r1,q1⟩=>?_;obtain⟨a,e,⟨xs,hq⟩,q⟩:=q1;subst e;cases r1;obtain⟨its,rv,p,hz⟩:=I1.list hq;refine rH p.isList ?_;refine⟨s1.heap.objs.size,[s1.heap.objs.size],_,_,H1,rfl,I1.kept (t':=s1.toks) λb o e=>V0 _ e,Jp a _,⟨_,V1 _ rfl,rfl,rfl⟩,λb hb=>?_,q⟩;have e:b=s1.heap.objs.size:=by simpa using hb
 subst e;exact I1.fpOk (j1 _) (I1.hok.fresh (j1 _))
theorem FP{tl:TE}(hl:PE X l tl):PI X tg l (zia X.K tl):=by
 intro pins s σ H R I h;refine n8 (hl pins s σ H _ I h) λv s1 ⟨x,H1,I1,r1,q1⟩=>?_;obtain⟨a,e,⟨xs,hq⟩,q⟩:=q1;subst e;cases r1;obtain⟨its,rv,p,hz⟩:=I1.tuple hq;refine zG (show s1.heap.IsTuple a its.toArray from p) ?_;refine⟨s1.heap.objs.size,[s1.heap.objs.size],_,_,H1,rfl,I1.kept (t':=s1.toks) λb o e=>V0 _ e,Ah a _,⟨_,V1 _ rfl,rfl,rfl⟩,λb hb=>?_,q⟩;have e:b=s1.heap.objs.size:=by simpa using hb
 subst e;exact I1.fpOk (j1 _) (I1.hok.fresh (j1 _))
theorem Ba{R:It->Hp->Prop}{E:Value->Shared->Prop}{hi:Int}{t u v:Tok}{tk:Nat}(I:V2 X pins σ H s) (h1:-(2^62)<=lo) (h2:lo<2^62) (h3:-(2^62)<=hi) (h4:hi<2^62)
 (q:R (Itr lo (hi-lo).toNat) H):wpAny (model X.prog X.w) X.A (pyIter (.ref s.heap.objs.size)) (PIE X pins σ tg R) E {s with heap:=s.heap.push {cls:=.type "range",data:=.fields #[.int lo t,.int hi u,.int 1 v]},toks:=tk}:=by
  refine wpAny_pyIter_range (IsRange.new ..) (small_one h1 h2 h3 h4) ?_;have I1:V2 X pins σ H {s with heap:=s.heap.push {cls:=.type "range",data:=.fields #[.int lo t,.int hi u,.int 1 v]},toks:=tk}:=I.kept λb o e=>V0 _ e;refine⟨(s.heap.push {cls:=.type "range",data:=.fields #[.int lo t,.int hi u,.int 1 v]}).objs.size,[(s.heap.push {cls:=.type "range",data:=.fields #[.int lo t,.int hi u,.int 1 v]}).objs.size],_,_,H,rfl,
   I1.kept (t':=tk) λb o e=>V0 _ e,Bh _ lo (hi-lo).toNat,?_,λb hb=>?_,q⟩
  .have e1:lo+((0:Nat):Int)*1=lo:=by simp
   have e2:(((hi-lo).toNat:Nat):Int)-((0:Nat):Int)=Builtin.Range.rangeSize lo hi 1:=by rw[rangeSize_one];split<;>lia
   show IsRangeIter _ _ (lo+((0:Nat):Int)*1) ((((hi-lo).toNat:Nat):Int)-((0:Nat):Int)) 1;rw[e1,e2];exact V1 _ rfl
  .have e:b=(s.heap.push {cls:=.type "range",data:=.fields #[.int lo t,.int hi u,.int 1 v]}).objs.size:=by simpa using hb
   subst e;exact I1.fpOk (j1 _) (I1.hok.fresh (j1 _))
inductive Eu(R:It->Hp->Prop)(vs:List V)(H1:Hp):Prop
 |mk (j:Int):vs=[.int j]->-(2^62)<=j->j<2^62->R (Itr 0 j.toNat) H1->Eu R vs H1
def zfi(ta:TA):TI:=λσ H R=>ta σ H (Eu R)
inductive Fu(R:It->Hp->Prop)(vs:List V)(H1:Hp):Prop
 |mk (i j:Int):vs=[.int i,.int j]->(-(2^62)<=i/\i<2^62/\-(2^62)<=j/\j<2^62)->R (Itr i (j-i).toNat) H1->Fu R vs H1
def zfj(ta:TA):TI:=λσ H R=>ta σ H (Fu R)
theorem sI{p:Pos}(hg:Gl X "range") (hm:X.mg "range"= none) (ha:PA X [a] ta) (hs:starEach [a] X.env=[(false,eval a X.env)]:=by rfl):PI X tg (.Call (.Name "range" p) [a] [] pos) (zfi ta):=by
 intro pins s σ H R I h;refine Call_ (JH I hg hm boot_range (j5 (n8 (ha pos pins s σ H _ I h) λus s1 ⟨vs,H1,I1,r1,q1⟩=>?_) hs rfl));obtain⟨j,e,q1,q2,q⟩:=q1;subst e;cases r1 with
 |cons r rr=>
  cases rr;obtain⟨t,rfl⟩:=r;exact call_range_1 (Ba I1 (by lia) (by lia) q1 q2 (by simpa using q))
theorem GP{b:Expr}{p:Pos}(hg:Gl X "range") (hm:X.mg "range"= none) (ha:PA X [a,b] ta) (hs:starEach [a,b] X.env=[(false,eval a X.env),(false,eval b X.env)]:=by rfl) (hs2:starEach [b] X.env=[(false,eval b X.env)]:=by rfl) :
  PI X tg (.Call (.Name "range" p) [a,b] [] pos) (zfj ta):=by
 intro pins s σ H R I h;refine Call_ (JH I hg hm boot_range (j5 (n8 (ha pos pins s σ H _ I h) λus s1 ⟨vs,H1,I1,r1,q1⟩=>?_) (by rw[hs,hs2]) (by rw[hs2];rfl)));obtain⟨i,j,e,⟨q1,q2,q3,q4⟩,q⟩:=q1;subst e;cases r1 with
 |cons r rr=>
  cases rr with
  |cons r' rr=>
   cases rr;obtain⟨t,rfl⟩:=r;obtain⟨t',rfl⟩:=r';exact call_range_2 (Ba I1 q1 q2 q3 q4 q)
def zib(wi:TI)(g:TG)(tb:TS):TS:=λD σ H=>wi σ H λJ H1=>∃W:Nat->Nat->St->Hp->Prop,(∃m,W 0 m σ H1)/\∀i m σ H,W i m σ H->
 (J.stop i H/\D.nx σ H)\/(J.go i H/\∃N:St->Hp->Prop,(∀σ' H',N σ' H'->∃m',m'<m/\W (i+1) m' σ' H')/\∀x H',J.yld i H x H'->g x σ H' λσ2 H2=>tb {D with nx:=N,ct:=N,bk:=D.nx} σ2 H2)
def ZS(fp:List Addr)(h:Heap):List (Addr×Obj):=fp.filterMap λb=>(h.get? b).map λo=>(b,o)
theorem uJ{b:Addr}{o:Obj}(hb:b∈fp) (e:h.get? b=some o):(b,o)∈ZS fp h:=C6.mpr ⟨b,hb,by rw[e];rfl⟩
theorem Kp{p:Addr×Obj}(hp:p∈ZS fp h):p.1∈fp/\h.get? p.1=some p.2:=by
 obtain⟨b,hb,e⟩:=C6.mp hp;cases q:h.get? b with
 |none=>grind
 |some o=>
  rw[q]at e;have e':(b,o)=p:=M0 e;subst e';grind
theorem V2.pinned(I:V2 X pins σ H s)(hf:∀b∈fp,iL X pins H b)(ho:∀b∈fp,∃o,s.heap.get? b=some o/\∀v,o.data≠.cell v):V2 X (pins++ZS fp s.heap) σ H s:=
 I.pins_of λp hp=>(F2.mp hp).elim (λz=>I.pin p (i4 _ z)) λz=>by
  obtain⟨hb,e⟩:=Kp z;obtain⟨f0,f1,f2,_⟩:=hf p.1 hb;obtain⟨o,e',d⟩:=ho p.1 hb;grind
theorem V2.unpinned{pl:List (Addr×Obj)}(I:V2 X (pins++pl) σ H s):V2 X pins σ H s:=I.pins_of λp hp=>I.pin p (i4 _ (B6 _ hp))
theorem t8{PF:Expr}{body:List Stmt}{wi:TI}(hp:PassesOwn (model X.prog X.w) X.A X.env X.xe) (hc:X.calm=true) (hi:PI X tg PF wi) (hg:PG X tg g) (hb:Ys X body tb)
 (hs:∀x,foldedSetIterable PF X.env x=pure x:=by intro _;rfl):PS X (.For tg PF body [] pos) (zib wi g tb):=by
  intro pins s σ H D I h;refine wpAny_For (n8 (hi pins s σ H _ I h) λv s1 h1=>n8 h1 λitv s2 h2=>?_) hs;obtain⟨it,fp,tn,J,H2,e,I2,T,Uk,f2,W,⟨m0,w0⟩,turn⟩:=h2;subst e;have Vk:∀{H':Hp},(∀b∈fp,H' b=none)->∀b∈fp,iL X pins H' b:=λhn b hb=>⟨hn b hb,(f2 b hb).2⟩
  refine codeAny_forLoop_any (λn s'=>∃i σ' H',V2 X pins σ' H' s'/\tn i s'.heap/\(∀b∈fp,H' b=none)/\W i n σ' H') ?_ m0 ⟨0,σ,H2,I2,Uk,λb hb=>(f2 b hb).1,w0⟩;rintro n s3 ⟨i,σ3,H3,I3,Bz,fr3,w3⟩;rcases turn i n σ3 H3 w3 with⟨stop,qn⟩|⟨go,N,hN,step⟩
  .refine fA hp (n8 (T.done X rfl rfl rfl hc i pins s3 σ3 H3 X.xe I3 (Vk fr3) Bz stop) λr s4 ⟨hr,I4⟩=>?_);subst hr;exact ZC ⟨σ3,H3,I4,qn⟩
  .refine fA hp (n8 (T.item X rfl rfl rfl hc i pins s3 σ3 H3 X.xe I3 (Vk fr3) Bz go) λr s4 ⟨u,hr,h4⟩=>?_);subst hr;refine fA hp (n8 h4 λ_ s5 ⟨x,H5,I5,r5,y5,st5,fr5⟩=>?_);have I5':=I5.pinned (Vk fr5) (T.obj _ _ st5);refine fA hp (n8 (hg _ s5 σ3 H5 x u _ I5' r5 (step x H5 y5)) λ_ s6 ⟨σ6,H6,I6,q6⟩=>?_);refine fA hp (n8 (hb _ s6 σ6 H6 _ I6 q6) λf s7 q7=>?_);have again:∀{σ7:St}{H7:Hp},V2 X (pins++ZS fp s5.heap) σ7 H7 s7->N σ7 H7->∃m,m<n/\∃i σ' H',V2 X pins σ' H' s7/\tn i s7.heap/\(∀b∈fp,H' b=none)/\W i m σ' H':=λ{σ7 H7} I7 n7=>by
    obtain⟨m',hm,w7⟩:=hN σ7 H7 n7;refine⟨m',hm,i+1,σ7,H7,I7.unpinned,T.keep _ _ _ st5 λb hb o e=>(I7.pin (b,o) (i4 _ (i4 _ (uJ hb e)))).1,λb hb=>?_,w7⟩;obtain⟨o,e,d⟩:=T.obj _ _ st5 b hb;exact(I7.pin (b,o) (i4 _ (i4 _ (uJ hb e)))).2.1
   cases f with
   |next=>obtain⟨σ7,H7,I7,n7⟩:=q7;exact again I7 n7
   |cont=>obtain⟨σ7,H7,I7,n7⟩:=q7;exact again I7 n7
   |brk=>obtain⟨σ7,H7,I7,q7⟩:=q7;exact⟨σ7,H7,I7.unpinned,q7⟩
   |ret v=>obtain⟨x7,σ7,H7,I7,r7,q7⟩:=q7;exact⟨x7,σ7,H7,I7.unpinned,r7,q7⟩
end
theorem LA{a:Addr}(Pv:Nat->St->Hp->Prop) (h0:Pv 0 σ H) (hl:∀i σ H,i<=xs.length->Pv i σ H->SqL K H a xs)
 (hs:∀i x σ H,xs[i]?=some x->Pv i σ H->g x σ H λσ2 H2=>tb {D with nx:=Pv (i+1),ct:=Pv (i+1),bk:=D.nx} σ2 H2) (hd:∀σ H,Pv xs.length σ H->D.nx σ H) :
   ∃W:Nat->Nat->St->Hp->Prop,(∃m,W 0 m σ H)/\∀i m σ H,W i m σ H->
    ((Cu K a).stop i H/\D.nx σ H)\/((Cu K a).go i H/\∃N:St->Hp->Prop,(∀σ' H',N σ' H'->∃m',m'<m/\W (i+1) m' σ' H')/\∀x H',(Cu K a).yld i H x H'->g x σ H' λσ2 H2=>tb {D with nx:=N,ct:=N,bk:=D.nx} σ2 H2):=by
  refine⟨λi m σ H=>m=xs.length-i/\i<=xs.length/\Pv i σ H,⟨xs.length,by simp,D1 _,h0⟩,?_⟩;rintro i m σ H ⟨rfl,hi,p⟩;have q:=hl i σ H hi p;by_cases DC:i<xs.length
  .refine .inr ⟨⟨xs,xs[i],q,by simp[DC]⟩,Pv (i+1),λσ' H' p'=>⟨xs.length-(i+1),by lia,rfl,DC,p'⟩,λx H' y=>?_⟩;obtain⟨e,y⟩:=y;subst e;grind
  .have e:i=xs.length:=by lia
   subst e;exact .inl ⟨⟨xs,q,j1 _⟩,hd σ H p⟩
theorem Fl{a:Addr}(Pv:Nat->St->Hp->Prop) (h0:Pv 0 σ H) (hl:∀i σ H,i<=xs.length->Pv i σ H->eA K H a xs)
 (hs:∀i x σ H,xs[i]?=some x->Pv i σ H->g x σ H λσ2 H2=>tb {D with nx:=Pv (i+1),ct:=Pv (i+1),bk:=D.nx} σ2 H2) (hd:∀σ H,Pv xs.length σ H->D.nx σ H) :
   ∃W:Nat->Nat->St->Hp->Prop,(∃m,W 0 m σ H)/\∀i m σ H,W i m σ H->
    ((Itt K a).stop i H/\D.nx σ H)\/((Itt K a).go i H/\∃N:St->Hp->Prop,(∀σ' H',N σ' H'->∃m',m'<m/\W (i+1) m' σ' H')/\∀x H',(Itt K a).yld i H x H'->g x σ H' λσ2 H2=>tb {D with nx:=N,ct:=N,bk:=D.nx} σ2 H2):=by
  refine⟨λi m σ H=>m=xs.length-i/\i<=xs.length/\Pv i σ H,⟨xs.length,by simp,D1 _,h0⟩,?_⟩;rintro i m σ H ⟨rfl,hi,p⟩;have q:=hl i σ H hi p;by_cases DC:i<xs.length
  .refine .inr ⟨⟨xs,xs[i],q,by simp[DC]⟩,Pv (i+1),λσ' H' p'=>⟨xs.length-(i+1),by lia,rfl,DC,p'⟩,λx H' y=>?_⟩;obtain⟨e,y⟩:=y;subst e;exact hs i x σ _ (y xs q) p
  .have e:i=xs.length:=by lia
   subst e;exact .inl ⟨⟨xs,q,j1 _⟩,hd σ H p⟩
theorem tI{n:Nat}(Pv:Nat->St->Hp->Prop) (h0:Pv 0 σ H)
 (hs:∀i σ H,i<n->Pv i σ H->g (.int (lo+i)) σ H λσ2 H2=>tb {D with nx:=Pv (i+1),ct:=Pv (i+1),bk:=D.nx} σ2 H2) (hd:∀σ H,Pv n σ H->D.nx σ H) :
   ∃W:Nat->Nat->St->Hp->Prop,(∃m,W 0 m σ H)/\∀i m σ H,W i m σ H->
    ((Itr lo n).stop i H/\D.nx σ H)\/((Itr lo n).go i H/\∃N:St->Hp->Prop,(∀σ' H',N σ' H'->∃m',m'<m/\W (i+1) m' σ' H')/\∀x H',(Itr lo n).yld i H x H'->g x σ H' λσ2 H2=>tb {D with nx:=N,ct:=N,bk:=D.nx} σ2 H2):=by
  refine⟨λi m σ H=>m=n-i/\i<=n/\Pv i σ H,⟨n,by simp,D1 _,h0⟩,?_⟩;rintro i m σ H ⟨rfl,hi,p⟩;by_cases DC:i<n
  .refine .inr ⟨DC,Pv (i+1),λσ' H' p'=>⟨n-(i+1),by lia,rfl,DC,p'⟩,λx H' y=>?_⟩;obtain⟨e,y⟩:=y;subst e y;exact hs i σ _ DC p
  .have e:i=n:=by lia
   subst e;exact .inl ⟨j1 _,hd σ H p⟩
theorem LN{c:TT}(Pv:St->Hp->Prop) (μ:St->Hp->Nat) (h0:Pv σ H)
 (hs:∀σ H,Pv σ H->c σ H λb H1=>if b=true then tb {D with nx:=λσ' H'=>Pv σ' H'/\μ σ' H'<μ σ H,ct:=λσ' H'=>Pv σ' H'/\μ σ' H'<μ σ H,bk:=D.nx} σ H1 else D.nx σ H1)
 (mono:∀σ H Q Q',(∀b H1,Q b H1->Q' b H1)->c σ H Q->c σ H Q'):Bu c tb D σ H:=by
  refine⟨λm σ H=>m=μ σ H/\Pv σ H,⟨_,rfl,h0⟩,?_⟩;rintro m σ H ⟨rfl,p⟩;refine mono σ H _ _ (λb H1 q=>?_) (hs σ H p);cases b with
  |true=>exact⟨_,λσ' H' ⟨p',l⟩=>⟨_,l,rfl,p'⟩,q⟩
  |false=>exact q
end L2
namespace L2
open PySem PySem.Spec PyProof.Rows
variable {op op':CmpOp}{X:Cx}{a b c:Expr}{H:Hp}{g:Int->Int->Int}{pins:List (Addr×Obj)}{pos:Pos}{s:Shared}{σ:St}{ta tb tc:TE}{f:Value->Value->Sem Value}
abbrev R2:=V->V->Hp->VK->Prop
variable {r':R2}
def vJ(X:Cx)(f:Value->Value->Sem Value)(r:R2):Prop:=
 ∀(pins:List (Addr×Obj))(s:Shared)(σ:St)(H:Hp)(x y:V)(v u:Value)(Q:VK),V2 X pins σ H s->T4 x v->T4 y u->r x y H Q->
  wpAny (model X.prog X.w) X.A (f v u) (EP X pins σ Q) X.xe s
def UnR(X:Cx)(f:Value->Sem Value)(r:V->Hp->VK->Prop):Prop:=
 ∀(pins:List (Addr×Obj))(s:Shared)(σ:St)(H:Hp)(x:V)(v:Value)(Q:VK),V2 X pins σ H s->T4 x v->r x H Q->
  wpAny (model X.prog X.w) X.A (f v) (EP X pins σ Q) X.xe s
def EM(X:Cx)(f:Value)(r:List V->Hp->VK->Prop):Prop:=
 ∀(pins:List (Addr×Obj))(s:Shared)(σ:St)(H:Hp)(xs:List V)(us:List Value)(Q:VK),V2 X pins σ H s->D4 xs us->r xs H Q->
  wpAny (model X.prog X.w) X.A (call f us) (EP X pins σ Q) X.xe s
def tOp(r:R2)(ta tb:TE):TE:=λσ H Q=>ta σ H λx H1=>tb σ H1 λy H2=>r x y H2 Q
def tUn(r:V->Hp->VK->Prop)(ta:TE):TE:=λσ H Q=>ta σ H λx H1=>r x H1 Q
inductive rI(C:Int->Int->Prop)(g:Int->Int->V)(x:V)(y:V)(H:Hp)(Q:VK):Prop
 |mk (i j:_):x=.int i->y=.int j->C i j->Q (g i j) H->rI C g x y H Q
inductive OV(g:Int->Int->V)(x:V)(y:V)(H:Hp)(Q:VK):Prop
 |mk (i j:_):x=.int i->y=.int j->Q (g i j) H->OV g x y H Q
inductive rU(g:Int->V)(x:V)(H:Hp)(Q:VK):Prop
 |mk (i:_):x=.int i->Q (g i) H->rU g x H Q
theorem zc0(ha:PE X a ta)(hb:PE X b tb){R:V->V->Hp->Prop}(I:V2 X pins σ H s)
 (h:ta σ H λx H1=>tb σ H1 λy H2=>R x y H2) {Q:Value->Shared->Prop}
 (hf:∀v u s2 x y H2,V2 X pins σ H2 s2->T4 x v->T4 y u->R x y H2->wpAny (model X.prog X.w) X.A (f v u) Q X.xe s2) :
   wpAny (model X.prog X.w) X.A (eval a X.env) (λv s₁=>wpAny (model X.prog X.w) X.A (eval b X.env) (λu s₂=>wpAny (model X.prog X.w) X.A (f v u) Q X.xe s₂) X.xe s₁) X.xe s:=by
  refine n8 (ha pins s σ H _ I h) λv s1 ⟨x,H1,I1,r1,q1⟩=>?_;refine n8 (hb pins s1 σ H1 _ I1 q1) λu s2 ⟨y,H2,I2,r2,q2⟩=>?_;exact hf v u s2 x y H2 I2 r1 r2 q2
theorem X4{op:Operator}{r:R2}(ho:vJ X (binaryOp op) r) (ha:PE X a ta) (hb:PE X b tb):PE X (.BinOp a op b pos) (tOp r ta tb):=by
 intro pins s σ H Q I h;exact wpAny_BinOp (zc0 ha hb I h λv u s2 x y H2 I2 rx ry q=>ho pins s2 σ H2 x y v u Q I2 rx ry q)
theorem rK{op:UnaryOp}{r:V->Hp->VK->Prop}(ho:UnR X (unaryOp op) r) (ha:PE X a ta):PE X (.UnaryOp op a pos) (tUn r ta):=by
 intro pins s σ H Q I h;exact UnaryOp_ (n8 (ha pins s σ H _ I h) λv s1 ⟨x,H1,I1,r1,q1⟩=>ho pins s1 σ H1 x v Q I1 r1 q1)
theorem opI{C:Int->Int->Prop}
 (rule:∀(i j:Int)(t u:Tok)(s:Shared)(Q:Value->Shared->Prop)(E:Value->Shared->Prop),C i j->Q (.int (g i j) s.toks) {s with toks:=s.toks+1}->wpAny (model X.prog X.w) X.A (f (.int i t) (.int j u)) Q E s) :
   vJ X f (rI C λi j=>.int (g i j)):=by
  intro pins s σ H x y v u Q I rx ry h;obtain⟨i,j,rfl,rfl,hc,q⟩:=h;obtain⟨t,rfl⟩:=rx;obtain⟨t',rfl⟩:=ry;exact rule i j t t' s _ _ hc ⟨.int (g i j),H,I.tok _,⟨_,rfl⟩,q⟩
theorem zar
 (rule:∀(i j:Int)(t u:Tok)(s:Shared)(Q:Value->Shared->Prop)(E:Value->Shared->Prop),Q (.int (g i j) s.toks) {s with toks:=s.toks+1}->wpAny (model X.prog X.w) X.A (f (.int i t) (.int j u)) Q E s) :
   vJ X f (OV λi j=>.int (g i j)):=by
  intro pins s σ H x y v u Q I rx ry h;obtain⟨i,j,rfl,rfl,q⟩:=h;obtain⟨t,rfl⟩:=rx;obtain⟨t',rfl⟩:=ry;exact rule i j t t' s _ _ ⟨.int (g i j),H,I.tok _,⟨_,rfl⟩,q⟩
theorem zas{g:Int->Int->Bool}
 (rule:∀(i j:Int)(t u:Tok)(s:Shared)(Q:Value->Shared->Prop)(E:Value->Shared->Prop),Q (.bool (g i j)) s->wpAny (model X.prog X.w) X.A (f (.int i t) (.int j u)) Q E s) :
   vJ X f (OV λi j=>.bl (g i j)):=by
  intro pins s σ H x y v u Q I rx ry h;obtain⟨i,j,rfl,rfl,q⟩:=h;obtain⟨t,rfl⟩:=rx;obtain⟨t',rfl⟩:=ry;exact rule i j t t' s _ _ ⟨.bl (g i j),H,I,rfl,q⟩
def zic(i j:Int):Prop:=0<=j/\j<=1000000/\i.natAbs<2^64
def zc1(i j:Int):Prop:=(-(2^64)<i/\i<2^64)\/(-(2^64)<j/\j<2^64)
theorem zc1.ok{i j:Int}(h:zc1 i j):IntMulOk i j:=by
 rcases h with⟨h1,h2⟩|⟨h1,h2⟩
 .exact .of_left (intBits_le_64 h1 h2)
 .exact .of_right (intBits_le_64 h1 h2)
theorem Ch(k:Nat):(0:Int)<=2^k:=by
 grind
theorem AB:vJ X (binaryOp .Add) (OV λi j=>.int (i+j)):=zar λ_ _ _ _ _ _ _ q=>add_int q
theorem EC:vJ X (binaryOp .Sub) (OV λi j=>.int (i-j)):=zar λ_ _ _ _ _ _ _ q=>sub_int q
theorem zc2:vJ X (binaryOp .Mult) (rI zc1 λi j=>.int (i*j)):=opI λ_ _ _ _ _ _ _ hc q=>mul_int q hc.ok
theorem Dh:vJ X (binaryOp .Mod) (rI (λ_ j=>0<j) λi j=>.int (i%j)):=opI λi j _ _ _ _ _ hc q=>by
 have h1:(0:Int)<j:=hc;exact mod_int' (by lia) (by rw[Int.fmod_eq_emod_of_nonneg i (by lia)];exact q)
theorem aT:vJ X (binaryOp .LShift) (rI zic λi j=>.int (i*2^j.toNat)):=opI λ_ _ _ _ _ _ _ hc q=>lshift_int_small hc.1 hc.2.1 hc.2.2 q
theorem Gu:vJ X (binaryOp .RShift) (rI (λ_ j=>0<=j) λi j=>.int (i/2^j.toNat)):=opI λi j _ _ _ _ _ hc q=>
 rshift_int hc (by rw[Int.fdiv_eq_ediv_of_nonneg i (Ch _)];exact q)
theorem nY:vJ X (binaryOp .BitAnd) (OV λi j=>.int (Builtin.bitAnd i j)):=zar λ_ _ _ _ _ _ _ q=>and_int q
theorem Ca:vJ X (binaryOp .BitOr) (OV λi j=>.int (Builtin.bitOr i j)):=zar λ_ _ _ _ _ _ _ q=>or_int q
theorem unI{f:Value->Sem Value}{g:Int->Int}
 (rule:∀(i:Int)(t:Tok)(s:Shared)(Q:Value->Shared->Prop)(E:Value->Shared->Prop),Q (.int (g i) s.toks) {s with toks:=s.toks+1}->wpAny (model X.prog X.w) X.A (f (.int i t)) Q E s) :
   UnR X f (rU λi=>.int (g i)):=by
  intro pins s σ H x v Q I rx h;obtain⟨i,rfl,q⟩:=h;obtain⟨t,rfl⟩:=rx;exact rule i t s _ _ ⟨.int (g i),H,I.tok _,⟨_,rfl⟩,q⟩
theorem AG:UnR X (unaryOp .USub) (rU λi=>.int (-i)):=unI λ_ _ _ _ _ q=>neg_int q
theorem zc3:UnR X (unaryOp .Invert) (rU λi=>.int (Builtin.bitNot i)):=unI λ_ _ _ _ _ q=>invert_int q
def zfk:V->V->Bool
 |.non,.non=>true|.non,.int _=>true|.int _,.non=>true|.non,.bl _=>true|.bl _,.non=>true|.non,.str _=>true|.str _,.non=>true
 |.int _,.int _=>true|.bl _,.bl _=>true|.str _,.str _=>true|.byt _,.byt _=>true
 |.int _,.str _=>true|.str _,.int _=>true|.bl _,.str _=>true|.str _,.bl _=>true
 |_,_=>false
def rEq:R2:=λx y H Q=>zfk x y=true/\Q (.bl (decide (x=y))) H
def rNe:R2:=λx y H Q=>zfk x y=true/\Q (.bl (!decide (x=y))) H
theorem Hl{i j:Int}:decide (V.int i=V.int j)=(i==j):=by
 rw[d3];simp
theorem Hu{i j:Bool}:decide (V.bl i=V.bl j)=(i==j):=by
 rw[d3];simp
theorem Il{i j:Str}:decide (V.str i=V.str j)=(i==j):=by
 rw[d3];simp
theorem Jl{i j:Array UInt8}:decide (V.byt i=V.byt j)=(i.toList==j.toList):=by
 rw[d3];cases i;cases j;simp
theorem M7{Q:VK}{k k':Bool}(I:V2 X pins σ H s) (q:Q (.bl k) H) (e:k=k'):EP X pins σ Q (.bool k') s:=by
 subst e;exact⟨.bl k,H,I,rfl,q⟩
theorem AC:vJ X (compareOp .Eq) rEq:=by
 intro pins s σ H x y v u Q I rx ry h;obtain⟨hs,q⟩:=h;cases x with
 |non=>
  cases rx;cases y with
  |non=>cases ry;exact PySem.EqNone.eq_none_none (M7 I q (by simp))
  |bl j=>cases ry;exact PySem.EqNone.eq_none_bool (M7 I q (by simp))
  |int j=>obtain⟨t',rfl⟩:=ry;exact PySem.EqNone.eq_none_int (M7 I q (by simp))
  |str j=>obtain⟨t',rfl⟩:=ry;exact PySem.EqNone.eq_none_str (M7 I q (by simp))
  |_=>exact absurd (show false=true from hs) X1
 |bl i=>
  cases rx;cases y with
  |non=>cases ry;exact PySem.EqNone.eq_bool_none (M7 I q (by simp))
  |bl j=>cases ry;exact eq_bool (M7 I q Hu)
  |str j=>obtain⟨t',rfl⟩:=ry;exact PySem.EqMixed.eq_bool_str (M7 I q (by simp))
  |_=>exact absurd (show false=true from hs) X1
 |int i=>
  obtain⟨t,rfl⟩:=rx;cases y with
  |non=>cases ry;exact PySem.EqNone.eq_int_none (M7 I q (by simp))
  |int j=>obtain⟨t',rfl⟩:=ry;exact eq_int (M7 I q Hl)
  |str j=>obtain⟨t',rfl⟩:=ry;exact PySem.EqMixed.eq_int_str (M7 I q (by simp))
  |_=>exact absurd (show false=true from hs) X1
 |str i=>
  obtain⟨t,rfl⟩:=rx;cases y with
  |non=>cases ry;exact PySem.EqNone.eq_str_none (M7 I q (by simp))
  |bl j=>cases ry;exact PySem.EqMixed.eq_str_bool (M7 I q (by simp))
  |int j=>obtain⟨t',rfl⟩:=ry;exact PySem.EqMixed.eq_str_int (M7 I q (by simp))
  |str j=>obtain⟨t',rfl⟩:=ry;exact eq_str (M7 I q Il)
  |_=>exact absurd (show false=true from hs) X1
 |byt i=>
  obtain⟨t,rfl⟩:=rx;cases y with
  |byt j=>obtain⟨t',rfl⟩:=ry;exact PySem.W.eq_bytes (M7 I q Jl)
  |_=>exact absurd (show false=true from hs) X1
 |_=>cases y<;>exact absurd (show false=true from hs) X1
theorem Kl:vJ X (compareOp .NotEq) rNe:=by
 intro pins s σ H x y v u Q I rx ry h;obtain⟨hs,q⟩:=h;cases x with
 |non=>
  cases rx;cases y with
  |non=>cases ry;exact PySem.EqNone.ne_none_none (M7 I q (by simp))
  |bl j=>cases ry;exact PySem.EqNone.ne_none_bool (M7 I q (by simp))
  |int j=>obtain⟨t',rfl⟩:=ry;exact PySem.EqNone.ne_none_int (M7 I q (by simp))
  |str j=>obtain⟨t',rfl⟩:=ry;exact PySem.EqNone.ne_none_str (M7 I q (by simp))
  |_=>exact absurd (show false=true from hs) X1
 |bl i=>
  cases rx;cases y with
  |non=>cases ry;exact PySem.EqNone.ne_bool_none (M7 I q (by simp))
  |bl j=>cases ry;exact ne_bool (M7 I q (V6 not Hu))
  |str j=>obtain⟨t',rfl⟩:=ry;exact PySem.EqMixed.ne_bool_str (M7 I q (by simp))
  |_=>exact absurd (show false=true from hs) X1
 |int i=>
  obtain⟨t,rfl⟩:=rx;cases y with
  |non=>cases ry;exact PySem.EqNone.ne_int_none (M7 I q (by simp))
  |int j=>obtain⟨t',rfl⟩:=ry;exact ne_int (M7 I q (V6 not Hl))
  |str j=>obtain⟨t',rfl⟩:=ry;exact PySem.EqMixed.ne_int_str (M7 I q (by simp))
  |_=>exact absurd (show false=true from hs) X1
 |str i=>
  obtain⟨t,rfl⟩:=rx;cases y with
  |non=>cases ry;exact PySem.EqNone.ne_str_none (M7 I q (by simp))
  |bl j=>cases ry;exact PySem.EqMixed.ne_str_bool (M7 I q (by simp))
  |int j=>obtain⟨t',rfl⟩:=ry;exact PySem.EqMixed.ne_str_int (M7 I q (by simp))
  |str j=>obtain⟨t',rfl⟩:=ry;exact ne_str (M7 I q (V6 not Il))
  |_=>exact absurd (show false=true from hs) X1
 |byt i=>
  obtain⟨t,rfl⟩:=rx;cases y with
  |byt j=>obtain⟨t',rfl⟩:=ry;exact PySem.W.ne_bytes (M7 I q (V6 not Jl))
  |_=>exact absurd (show false=true from hs) X1
 |_=>cases y<;>exact absurd (show false=true from hs) X1
theorem Ml:vJ X (compareOp .Lt) (OV λi j=>.bl (decide (i<j))):=zas λ_ _ _ _ _ _ _ q=>lt_int q
theorem NC:vJ X (compareOp .LtE) (OV λi j=>.bl (decide (i<=j))):=zas λ_ _ _ _ _ _ _ q=>le_int q
theorem MQ:vJ X (compareOp .Gt) (OV λi j=>.bl (decide (j<i))):=zas λ_ _ _ _ _ _ _ q=>gt_int q
theorem zbR:vJ X (compareOp .GtE) (OV λi j=>.bl (decide (j<=i))):=zas λ_ _ _ _ _ _ _ q=>ge_int q
theorem Nl:vJ X (compareOp .IsNot) (λx y H Q=>y=.non/\Q (.bl (!decide (x=.non))) H):=by
 intro pins s σ H x y v u Q I rx ry h;obtain⟨rfl,q⟩:=h;cases ry;refine isnot_none_gen (M7 I q ?_);cases x<;>first
  |(cases rx;rfl)
  |(obtain⟨t,rfl⟩:=rx;rfl)
theorem V3(b:Expr)(h:op≠.In:=by decide)(h2:op≠.NotIn:=by decide):behindInMarks op b=false:=by
 have e1:(op==CmpOp.In)=false:=by grind
 have e2:(op==CmpOp.NotIn)=false:=by grind
 cases b<;>simp[behindInMarks,e1,e2]
theorem FA{r:R2}(ho:vJ X (compareOp op) r) (ha:PE X a ta) (hb:PE X b tb) (hm:behindInMarks op b=false):PE X (.Compare a [op] [b] pos) (tOp r ta tb):=by
 intro pins s σ H Q I h;exact wpAny_Compare1 (zc0 ha hb I h λv u s2 x y H2 I2 rx ry q=>ho pins s2 σ H2 x y v u Q I2 rx ry q) hm
inductive Iu(Q:Bool->Hp->Prop)(x:V)(H':Hp):Prop
 |mk (k:_):x=.bl k->Q k H'->Iu Q x H'
def Ju(t:TE):TT:=λσ H Q=>t σ H (Iu Q)
theorem W3{r:R2}(ho:vJ X (compareOp op) r) (ha:PE X a ta) (hb:PE X b tb) (hm:behindInMarks op b=false):PT X (.Compare a [op] [b] pos) (Ju (tOp r ta tb)):=by
 intro pins s σ H Q I h;refine CK (n8 (ha pins s σ H _ I h) λv s1 ⟨x,H1,I1,r1,q1⟩=>n8 (hb pins s1 σ H1 _ I1 q1) λu s2 ⟨y,H2,I2,r2,q2⟩=>
  n8 (ho pins s2 σ H2 x y v u _ I2 r1 r2 q2) λc s3 ⟨z,H3,I3,r3,k,e,q3⟩=>?_) hm
 subst e;cases r3;exact M5 ⟨H3,I3,q3⟩
def HP(r r':R2)(ta tb tc:TE):TE:=λσ H Q=>ta σ H λx H1=>tb σ H1 λy H2=>r x y H2 λz H3=>∃k,z=.bl k/\
 (if k=true then tc σ H3 λw' H4=>r' y w' H4 Q else Q (.bl false) H3)
theorem uI{r:R2}(ho:vJ X (compareOp op) r) (Sg:vJ X (compareOp op') r') (ha:PE X a ta) (hb:PE X b tb) (hc:PE X c tc)
 (hm:lastMarks [op,op'] [b,c]=false:=by with_unfolding_all rfl):PE X (.Compare a [op,op'] [b,c] pos) (HP r r' ta tb tc):=by
  intro pins s σ H Q I h;refine Compare_chain (n8 (ha pins s σ H _ I h) λv s1 ⟨x,H1,I1,r1,q1⟩=>chain_link (n8 (hb pins s1 σ H1 _ I1 q1) λu s2 ⟨y,H2,I2,r2,q2⟩=>
   n8 (ho pins s2 σ H2 x y v u _ I2 r1 r2 q2) λd s3 ⟨z,H3,I3,r3,k,e,q3⟩=>?_)) hm
  subst e;cases r3;refine M5 ?_;cases k with
  |false=>exact ite_ff ⟨.bl false,H3,I3,rfl,q3⟩
  |true=>exact ite_tt (chain_last (n8 (hc pins s3 σ H3 _ I3 q3) λw' s4 ⟨z',H4,I4,r4,q4⟩=>Sg pins s4 σ H4 y z' u w' Q I4 r2 r4 q4))
theorem Da{r:R2}(ho:vJ X (compareOp op) r) (Sg:vJ X (compareOp op') r') (ha:PE X a ta) (hb:PE X b tb) (hc:PE X c tc)
 (hm:lastMarks [op,op'] [b,c]=false:=by with_unfolding_all rfl):PT X (.Compare a [op,op'] [b,c] pos) (Ju (HP r r' ta tb tc)):=by
  intro pins s σ H Q I h;refine isTrue_chain (n8 (ha pins s σ H _ I h) λv s1 ⟨x,H1,I1,r1,q1⟩=>test_link (n8 (hb pins s1 σ H1 _ I1 q1) λu s2 ⟨y,H2,I2,r2,q2⟩=>
   n8 (ho pins s2 σ H2 x y v u _ I2 r1 r2 q2) λd s3 ⟨z,H3,I3,r3,k,e,q3⟩=>?_)) hm
  subst e;cases r3;refine M5 ?_;cases k with
  |false=>
   obtain⟨k',e',q'⟩:=q3;cases e';exact ite_ff ⟨H3,I3,q'⟩
  |true=>
   refine ite_tt (test_last (n8 (hc pins s3 σ H3 _ I3 q3) λw' s4 ⟨z',H4,I4,r4,q4⟩=>n8 (Sg pins s4 σ H4 y z' u w' _ I4 r2 r4 q4) λd' s5 ⟨z2,H5,I5,r5,k2,e2,q5⟩=>?_));subst e2;cases r5;exact M5 ⟨H5,I5,q5⟩
theorem bT:(sizeLine:Nat)<2^63:=by rw[kF];decide
theorem Ku{x:V}{us:List Value}(r:D4 [x] us):∃u,us=[u]/\T4 x u:=by
 cases r with
 |cons r1 r2=>cases r2;exact⟨_,rfl,r1⟩
theorem Ea:EM X (.builtin "ord") (λxs H Q=>∃x,xs=[.str x]/\x.length=1/\Q (.int (x.cps.getD 0 0:Nat)) H):=by
 intro pins s σ H xs us Q I r h;obtain⟨x,rfl,hz,q⟩:=h;obtain⟨u,rfl,t,rfl⟩:=Ku r;exact ord_of_one hz ⟨.int _,H,I.tok _,⟨_,rfl⟩,q⟩
end L2
namespace L2
open PySem PySem.Spec PyProof.Rows
variable {dx x C a:Addr}{A:Around}{b:Bool}{X:Cx}{e:Expr}{h:Heap}{H:Hp}{pins:List (Addr×Obj)}{o:Option Value}{pos:Pos}{prog:Program}{K:Frag}{pl:Sem Bool}{s:Shared}{σ:St}{f:Str}{mA:Str->Option Value}{u:Value}{E Q:Value->Shared->Prop}{w:World}
structure Eh(h:Heap)(x dx C:Addr)(mA:Str->Option Value):Prop where
 obj:h.get? x=some (instObj C dx)
 ns:h.Ns1 dx mA
 ne:dx≠x
theorem IP(n:h.Ns1 dx mA):∃od,h.get? dx=some od/\∀name,lookIn name od=some (mA name):=by
 obtain⟨o,es,ep,ho,hd,hk,_,hm⟩:=n;refine⟨o,ho,λname=>?_⟩;have e:=hm name;unfold nsFind findBy at e;rw[<-Array.find?_toList]at e;unfold lookIn;rw[hd];dsimp only;split
 .grind
 .rename_i q;rw[q]at e;have a:es.toList.any (·.refKey)=false:=by
   rw[List.any_eq_false];intro y hy;obtain⟨z,t,zec⟩:=hk y (Array.mem_toList_iff.mp hy);simp[DictEntry.refKey,zec]
  grind
theorem Eh.look(I:Eh h x dx C mA):∃od,PySem.W.InstAt h x (instObj C dx) C (some od)/\∀name,lookIn name od=some (mA name):=
 let ⟨od,ho,hl⟩:=IP I.ns
 ⟨od,⟨I.obj,rfl,rfl,ho⟩,hl⟩
section
variable {f:Addr}{name:Str}{v:Value}
theorem zat{ziF:Bool}(X:K.In s.heap) (I:Eh s.heap x dx C mA) (hg:plainGet K C name=true) (hh:hasDictIn K C=true)
 (ha:findIn K (.ref C) name=some none) (hv:mA name=some v) (hv':handedIn v=true) (h:Q v {s with toks:=s.toks+1}) :
   wpAny (model prog w) A (getAttr (.ref x) name ziF) Q E s:=by
  obtain⟨od,J,hl⟩:=I.look;exact PySem.W.get_value X J (TF hg).1 (findObj_own hh ha rfl (by rw[hl,hv])) hv' h
theorem Lu{Q:Value×List Value->Shared->Prop}(X:K.In s.heap) (I:Eh s.heap x dx C mA) (hg:plainGet K C name=true)
 (hf:findIn K (.ref C) name=some (some (.ref f))) (ht:isFn K (.ref f)=true) (hv:mA name=none) (h:Q (.ref f,[.ref x]) s) :
   wpAny (model prog w) A (getMethod (.ref x) name pl) Q E s:=by
  obtain⟨od,J,hl⟩:=I.look;exact PySem.W.method_fn X J (TF hg).1 (TF hg).2 hf (O4.mp ht) (by show(lookIn name od).map (·.isSome)=some false;rw[hl,hv];rfl) h
theorem zau{ns:List Str}{Q:Unit->Shared->Prop}(X:K.In s.heap) (I:Eh s.heap x dx C mA)
 (hs:findIn K (.ref C) "__setattr__"= some (some (.builtin "object.__setattr__"))) (hp:plainOver K C=true) (ht:takerIn K C name=some none) (hh:hasDictIn K C=true)
 (hw:PySem.Within mA ns) (hsz:ns.length<=sizeLine)
 (h:∀h',Eh h' x dx C (λy=>if y=name then some v else mA y)->Heap.SameBut dx s.heap h'->Q () {s with heap:=h',toks:=s.toks+2}) :
   wpAny (model prog w) A (setAttr (.ref x) name v) Q E s:=by
  obtain⟨od,J,hl⟩:=I.look;refine sH X J hs (PySem.W.osa_open (s:={s with toks:=s.toks+1}) (r:=none) X J hp ht λb=>?_);obtain⟨cd,hc,hd'⟩:=lC hh;have hx:s.heap.get? x=some ⟨.ref C,some dx,.plain,#[]⟩:=I.obj;refine z0 (S0 (z0 (z0 (MA hx (z0 (BG (s:={s with toks:=s.toks+1}) (GA X hc) ?_))))));rw[hd'];refine S0 (a:=some dx) (z0 (S0 (z0 ?_)));refine MN (s:={s with toks:=s.toks+1}) I.ns λh' hn2 hs2=>?_;obtain⟨oD,esD,epD,hoD,hdD,hcD⟩:=hn2.count (tH name v hw);refine z0 (vI hoD (by rw[hdD];exact wI (k4 hcD (by rw[N1];lia))) ?_);exact S0 (h _ ⟨(hs2.2 _ (N2 I.ne)).trans I.obj,hn2,I.ne⟩ hs2)
theorem Mu{R:Result->Shared->Prop}{vs:List Value}{kw:List (Str×Value)}(X:K.In s.heap) (hm:makesIn K C=true)
 (hi:findIn K (.ref C) "__init__"= some (some (.ref f))) (hf:typeIn K (.ref f)=some (.type "function"))
 (h:codeAny (model prog w) (A.under (.builtin "type.__call__" ⟨.ref C::vs,kw⟩)) (.call (.ref f) ⟨.ref (s.heap.objs.size+1)::vs,kw⟩) (InitBack (s.heap.objs.size+1) R)
 {s with heap:=(s.heap.push emptyDict).push (instObj C s.heap.objs.size)}) :
   codeAny (model prog w) A (.call (.ref C) ⟨vs,kw⟩) R s:=by
  obtain⟨hh,g,d,t,os⟩:=s;exact PySem.W.make_core (PySem.W.makes_of X hm) (qA X hi) (λself=>bind_fn X self hf) (.inl rfl) h
end
def CG(f:Str)(v:V):List (Str×V)->List (Str×V)
 |[]=>[(f,v)]
 |(g,x)::r=>if g=f then(g,v)::r else(g,x)::CG f v r
theorem jL(f g:Str)(v:V):∀fs:List (Str×V),(CG f v fs).lookup g=if g=f then some v else fs.lookup g
 |[]=>by
  show List.lookup g [(f,v)]=_;by_cases h:g=f
  all_goals grind
 |(k,x)::r=>by
  have ih:=jL f g v r;rw[show CG f v ((k,x)::r)=(if k=f then(k,v)::r else(k,x)::CG f v r)from rfl];by_cases hk:k=f
  .rw[J0 hk];by_cases h:g=k
   .grind
   .have hb:(g==k)=false:=c6.mpr h;simp only[List.lookup,hb,D0 (λe:g=f=>h (e.trans hk.symm))]
  .rw[D0 hk];grind
theorem xI(f:Str)(v:V):∀fs:List (Str×V),f∈(CG f v fs).map (·.1)/\∀g,g∈fs.map (·.1)->g∈(CG f v fs).map (·.1)
 |[]=>⟨by simp[CG],λg h=>by simp at h⟩
 |(k,x)::r=>by
  obtain⟨i1,i2⟩:=xI f v r;rw[show CG f v ((k,x)::r)=(if k=f then(k,v)::r else(k,x)::CG f v r)from rfl];by_cases hk:k=f
  .grind
  .rw[D0 hk];refine⟨?_,λg h=>?_⟩
   .grind
   .rw[L3]at h ⊢;rcases S1.mp h with e|e
    .grind
    .exact i3 _ (i2 g e)
theorem kL(f:Str)(v:V):∀fs:List (Str×V),(CG f v fs).length<=fs.length+1
 |[]=>by simp[CG]
 |(k,x)::r=>by
  have ih:=kL f v r;rw[show CG f v ((k,x)::r)=(if k=f then(k,v)::r else(k,x)::CG f v r)from rfl];by_cases hk:k=f
  all_goals grind
theorem wG.some_of{v:V}(r:wG (some v) o):∃u,o=some u/\T4 v u:=by
 cases o with
 |none=>exact(show False from r).elim
 |some u=>exact⟨u,rfl,r⟩
theorem wG.none_of(r:wG none o):o=none:=by
 cases o with
 |none=>rfl
 |some u=>exact(show False from r).elim
theorem MW{v:V}(r:T4 v u):handedIn u=true:=by
 cases v with
 |non=>cases (show u=Value.none from r);rfl
 |bl b=>cases (show u=Value.bool b from r);rfl
 |int i=>obtain⟨t,e⟩:=(show ∃t,u=Value.int i t from r);cases e;rfl
 |str x=>obtain⟨t,e⟩:=(show ∃t,u=Value.str x t from r);cases e;rfl
 |byt b=>obtain⟨t,e⟩:=(show ∃t,u=Value.bytes b t from r);cases e;rfl
 |flt b=>obtain⟨t,e⟩:=(show ∃t,u=Value.float b t from r);cases e;rfl
 |ref a=>cases (show u=Value.ref a from r);rfl
 |ty n=>cases (show u=Value.type n from r);rfl
section
variable {P:Program}{H':Hp}{h':Heap}{fs Az:List (Str×V)}
theorem oY(hok:pK P w H h)(e:H a=some (.ins C dx fs)):∃mA,Eh h a dx C mA/\(∀f,wG (fs.lookup f) (mA f))/\PySem.Within mA (fs.map (·.1))/\fs.length<=1000/\H dx=some (.own a):=by
 obtain⟨d,z,ne,ob,mA,n,r,q⟩:=(show u9 P w H h a (.ins C dx fs)from hok a _ e)
 exact⟨mA,⟨ob,n,ne⟩,r,q,z,d⟩
end
structure Lp(K:Frag)(C:Addr):Prop where
 pg:plainGet K C Str.empty=true
 hd:hasDictIn K C=true
 po:plainOver K C=true
 sa:findIn K (.ref C) "__setattr__"= some (some (.builtin "object.__setattr__"))
theorem Lp.get(c:Lp K C)(f:Str):plainGet K C f=true:=c.pg
def M3(K:Frag)(C:Addr)(f:Str):Prop:=findIn K (.ref C) f=some none
theorem M3.taker(n:M3 K C f):takerIn K C f=some none:=by
 unfold takerIn;rw[show findIn K (.ref C) f=some none from n];rfl
structure Mp(K:Frag)(C:Addr)(m:Str)(f:Addr):Prop where
 at_:findIn K (.ref C) m=some (some (.ref f))
 fn:isFn K (.ref f)=true
 kp:keepIn K (.ref f)=true
section
variable {fs:List (Str×V)}{v:V}
theorem cT(I:V2 X pins σ H s)(e:H a=some (.ins C dx fs))(c:Lp X.K C)(n:M3 X.K C f)(l:fs.lookup f=some v)
 (h:∀u s',V2 X pins σ H s'->T4 v u->Q u s'):wpAny (model X.prog X.w) A (getAttr (.ref a) f b) Q E s:=by
  obtain⟨mA,O,r,_,_,_⟩:=oY I.hok e;obtain⟨u,hu,ru⟩:=wG.some_of (v:=v) (o:=mA f) (by rw[<-l];exact r f);exact zat I.kIn O (c.get f) c.hd n hu (MW ru) (h u _ (I.tok _) ru)
theorem eT{m:Str}{g:Addr}{Q:Value×List Value->Shared->Prop}(I:V2 X pins σ H s) (e:H a=some (.ins C dx fs)) (c:Lp X.K C) (k:Mp X.K C m g) (l:fs.lookup m=none)
 (h:Q (.ref g,[.ref a]) s):wpAny (model X.prog X.w) A (getMethod (.ref a) m pl) Q E s:=by
  obtain⟨mA,O,r,_,_,_⟩:=oY I.hok e;have hn:mA m=none:=wG.none_of (by rw[<-l];exact r m);exact Lu I.kIn O (c.get m) k.at_ k.fn hn h
theorem fT{y:V}{Q:Unit->Shared->Prop}(I:V2 X pins σ H s) (e:H a=some (.ins C dx fs)) (c:Lp X.K C) (n:M3 X.K C f) (hl:fs.length<1000) (ry:T4 y u)
 (h:∀s',V2 X pins σ (upd H a (.ins C dx (CG f y fs))) s'->Q () s'):wpAny (model X.prog X.w) A (setAttr (.ref a) f u) Q E s:=by
  obtain⟨mA,O,r,wi,_,ho⟩:=oY I.hok e;have hz:(fs.map (·.1)).length<=sizeLine:=by rw[B0,kF];lia
  refine zau I.kIn O c.sa c.po n.taker c.hd wi hz λh' O' sb=>h _ ?_;have hd:∃o,h'.get? dx=some o:=let ⟨o,_,_,e',_⟩:=O'.ns;⟨o,e'⟩
  refine I.write (x:=a) (e:=dx) (by rw[e];exact g9) (.inr ho) (λb q hb z=>(sb.2 b hb).trans z) hd ?_;refine⟨by rw[N0 O.ne];exact ho,?_,O.ne,O'.obj,_,O'.ns,λg=>?_,λg hg=>?_⟩
  .have:=kL f y fs;lia
  .show wG ((CG f y fs).lookup g) (if g=f then some u else mA g);rw[jL];by_cases q:g=f
   .rw[J0 q,J0 q];exact ry
   all_goals grind
  .by_cases q:g=f
   .rw[q];exact(xI f y fs).1
   .refine(xI f y fs).2 g (wi g λz=>hg ?_);grind
theorem V2.made(I:V2 X pins σ H s):V2 X pins σ (upd (upd H s.heap.objs.size (.own (s.heap.objs.size+1))) (s.heap.objs.size+1) (.ins C s.heap.objs.size []))
  {s with heap:=(s.heap.push emptyDict).push (instObj C s.heap.objs.size)}:=by
 have e1:(s.heap.push emptyDict).get? s.heap.objs.size=some emptyDict:=V1 s.heap rfl;have e2:((s.heap.push emptyDict).push (instObj C s.heap.objs.size)).get? (s.heap.objs.size+1)=some (instObj C s.heap.objs.size):=by
  have:=V1 (s.heap.push emptyDict) (o:=instObj C s.heap.objs.size) rfl
  simp_all
 have e3:(s.heap.push emptyDict).Ns s.heap.objs.size (λ_=>none):=⟨emptyDict,#[],_,e1,rfl,(λe he=>absurd he (by simp)),λ_=>rfl⟩
 have I1:=I.laid (a:=s.heap.objs.size) (o:=.own (s.heap.objs.size+1)) (h':=s.heap.push emptyDict) (t':=s.toks) (λb u q=>V0 _ q) (j1 _) ⟨_,e1⟩;refine I1.laid (a:=s.heap.objs.size+1) (o:=.ins C s.heap.objs.size []) (t':=s.toks) (λb u q=>V0 _ q) (mC (Z4 _ _)) ?_;have ne:s.heap.objs.size≠s.heap.objs.size+1:=K3 (ME _);refine⟨by rw[N0 ne,C0],D1 _,ne,e2,λ_=>none,(Heap.Ns1.of_empty e3).at λo q=>V0 _ q,λ_=>g9,λy hy=>absurd rfl hy⟩
theorem Ol{env:Env}(hb:attributeBase e f env (eval e env)=eval e env)
 (h:wpAny (model prog w) A (eval e env) (λo s₁=>wpAny (model prog w) A (getAttr o f true) Q E s₁) E s):wpAny (model prog w) A (eval (.Attribute e f pos) env) Q E s:=
  Attribute_any_ h (by rw[arm_eval_Attribute,hb])
end
inductive zbS(K:Frag)(f:Str)(Q:VK)(x:V)(H1:Hp):Prop
 |mk (a C dx fs v:_):x=.ref a->H1 a=some (.ins C dx fs)->Lp K C->M3 K C f->fs.lookup f=some v->Q v H1->zbS K f Q x H1
def KH(K:Frag)(ta:TE)(f:Str):TE:=λσ H Q=>ta σ H (zbS K f Q)
inductive zbT(K:Frag)(f:Str)(D:eL)(σ:St)(y:V)(x:V)(H2:Hp):Prop
 |mk (a C dx fs:_):x=.ref a->H2 a=some (.ins C dx fs)->Lp K C->M3 K C f->fs.length<1000->D.nx σ (upd H2 a (.ins C dx (CG f y fs)))->zbT K f D σ y x H2
def zid(K:Frag)(ta tv:TE)(f:Str):TS:=λD σ H=>tv σ H λy H1=>ta σ H1 (zbT K f D σ y)
def zfl(X:Cx)(op:Operator)(rd:V->V->Hp->VK->Prop):Prop:=
 ∀(pins:List (Addr×Obj))(s:Shared)(σ:St)(H:Hp)(x y:V)(u v:Value)(Q:VK),V2 X pins σ H s->T4 x u->T4 y v->rd x y H Q->wpAny (model X.prog X.w) X.A (inplaceOp op u v) (EP X pins σ Q) X.xe s
def Pl(K:Frag)(ta tv:TE)(rd:V->V->Hp->VK->Prop)(f:Str):TS:=λD σ H=>ta σ H λx H1=>∃a C dx fs v,x=.ref a/\H1 a=some (.ins C dx fs)/\Lp K C/\M3 K C f/\fs.lookup f=some v/\
 tv σ H1 λy H2=>rd v y H2 λz H3=>∃Rs Az,H3 a=some (.ins C Rs Az)/\Az.length<1000/\D.nx σ (upd H3 a (.ins C Rs (CG f z Az)))
section
variable {o XC:Expr}{ZK Hg:Pos}{ta tv:TE}
theorem U2(he:PE X e ta)(hb:attributeBase e f X.env (eval e X.env)=eval e X.env):PE X (.Attribute e f pos) (KH X.K ta f):=by
 intro pins s σ H Q I h;refine Ol hb (n8 (he pins s σ H _ I h) λu s1 ⟨x,H1,I1,rx,a,C,dx,fs,v,ex,ea,c,n,l,q⟩=>?_);subst ex;obtain rfl:u=Value.ref a:=rx;exact cT I1 ea c n l λu' s2 I2 ru=>⟨v,H1,I2,ru,q⟩
theorem D6(ha:PE X o ta)(hv:PE X XC tv)(hs:swapsWith XC (some (.Attribute o f ZK)) pos.line X.env=pure false):PS X (.Assign [.Attribute o f ZK] XC pos) (zid X.K ta tv f):=by
 intro pins s σ H D I h;refine vE (n8 (hv pins s σ H _ I h) λu s1 ⟨y,H1,I1,ry,q⟩=>n8 (ha pins s1 σ H1 _ I1 q) λov s2 ⟨x,H2,I2,rx,a,C,dx,fs,ex,ea,c,n,l,q2⟩=>?_) hs;subst ex;obtain rfl:ov=Value.ref a:=rx;exact fT I2 ea c n l ry λs3 I3=>⟨σ,_,I3,q2⟩
theorem JP{op:Operator}{rd:V->V->Hp->VK->Prop}(ha:PE X o ta) (hv:PE X XC tv) (hop:zfl X op rd):PS X (.AugAssign (.Attribute o f Hg) op XC pos) (Pl X.K ta tv rd f):=by
 intro pins s σ H D I h;refine wpAny_AugAssign_AttributeAny (n8 (ha pins s σ H _ I h) λov s1 ⟨x,H1,I1,rx,a,C,dx,fs,v,ex,ea,c,n,l,q⟩=>?_);subst ex;obtain rfl:ov=Value.ref a:=rx;refine cT I1 ea c n l λu s2 I2 ru=>n8 (hv pins s2 σ H1 _ I2 q) λw3 s3 ⟨y,H2,I3,ry,q3⟩=>n8 (hop pins s3 σ H2 v y u w3 _ I3 ru ry q3) λw4 s4 ⟨z,H3,I4,rz,Rs,Az,ea',l',q4⟩=>?_;exact fT I4 ea' c n l' rz λs5 I5=>⟨σ,_,I5,q4⟩
inductive zc4(x:V)(y:V)(H:Hp)(Q:VK):Prop
 |mk (i j:_):x=.int i->y=.int j->Q (.int (i+j)) H->zc4 x y H Q
theorem Fh:zfl X .Add zc4:=by
 rintro pins s σ H x y u v Q I rx ry ⟨i,j,rfl,rfl,q⟩;obtain⟨t,rfl⟩:=(show ∃t,u=Value.int i t from rx)
 obtain⟨t',rfl⟩:=(show ∃t',v=Value.int j t' from ry)
 exact PyProof.Rows.iadd_int ⟨.int (i+j),H,I.tok _,⟨_,rfl⟩,q⟩
end
section
variable {c:Value}
end
end L2
namespace L2
open PySem PySem.Spec PyProof.Rows
variable {C f:Addr}{A:Around}{cm:Bool}{X:Cx}{e o:Expr}{fd:FuncData}{base:Heap}{H:Hp}{pins:List (Addr×Obj)}{kw:List (Str×Value)}{outer:List Env}{es:List Expr}{ps N:List Str}{vs:List V}{us:List Value}{j:Nat}{pos p yE:Pos}{P:Program}{K:Frag}{scope:Scope}{pl:Sem Bool}{s:Shared}{σ:St}{E:St->XK}{x m OB:Str}{kindOf:Str->Option NameKind}{mg:Str->Option Value}{t:TA}{te ta:TE}{Q:VK}{v:Value}{w:World}
structure R8(cm:Bool)(k:Nat)(A:Around):Prop where
 hd:cm=true->A.handled=none
 dp:A.depth+3*k+5<recursionLimit
 un:A.units+16*k+200<cLine
theorem R8.mono{k:Nat}(r:R8 cm k A) (h:j<=k):R8 cm j A:=⟨r.hd,by have:=r.dp;lia,by have:=r.un;lia⟩
theorem R8.deeper{k:Nat}(r:R8 cm (k+1) A) (env:Env):R8 cm k (A.deeper env):=
 ⟨r.hd,by have:=r.dp;show A.depth+1+3*k+5<_;lia,by have:=r.un;show A.units+3+16*k+200<_;lia⟩
theorem R8.in1{k:Nat}(r:R8 cm (k+1) A):R8 cm k A.in1:=
 ⟨r.hd,by have:=r.dp;show A.depth+3*k+5<_;lia,by have:=r.un;show A.units+1+16*k+200<_;lia⟩
theorem Gh:(A.under (.builtin "type.__call__" ⟨.ref C::us,kw⟩)).depth=A.depth+1:=by
 first|rfl|simp[Around.under,Code.weight,Code.isCreation,Code.isGuard,Code.isCaller,Code.frames,Code.isFrame,guardIds]
theorem Hh:(A.under (.builtin "type.__call__" ⟨.ref C::us,kw⟩)).units=A.units+1:=by
 first|rfl|simp[Around.under,Code.cUnits,Code.frames,Code.isFrame]
theorem R8.make{k:Nat}(r:R8 cm (k+1) A) (C:Addr) (us:List Value) (kw:List (Str×Value)):R8 cm k (A.under (.builtin "type.__call__" ⟨.ref C::us,kw⟩)):=
 ⟨r.hd,by have:=r.dp;rw[Gh];lia,by have:=r.un;rw[Hh];lia⟩
theorem R8.depth{k:Nat}(r:R8 cm k A):A.depth<recursionLimit:=by have:=r.dp;lia
theorem R8.units{k:Nat}(r:R8 cm k A):A.units+64<cLine:=by have:=r.un;lia
theorem R8.units0{k:Nat}(r:R8 cm k A):A.units<cLine:=by have:=r.un;lia
def Fa:TA:=λ_ H Q=>Q [] H
def Ql(ta:TE)(tr:TA):TA:=λσ H Q=>ta σ H λx H1=>tr σ H1 λxs H2=>Q (x::xs) H2
theorem Z0:PA X [] Fa:=λ_ _ _ _ H Q I h=>uH ⟨[],H,I,.nil,h⟩
theorem F0(ha:PE X e te)(hr:PA X es t)(hs:starEach (e::es) X.env=(false,eval e X.env)::starEach es X.env:=by rfl):PA X (e::es) (Ql te t):=by
 intro pos pins s σ H Q I h;rw[hs];show wpAny _ _ (spliced ((false,eval e X.env)::backTo pos (starEach es X.env))) _ _ s;refine eB (n8 (ha pins s σ H _ I h) λu s1 ⟨x,H1,I1,r1,q1⟩=>?_);exact n8 (hr pos pins s1 σ H1 _ I1 q1) λus s2 ⟨xs,H2,I2,r2,q2⟩=>⟨x::xs,H2,I2,.cons r1 r2,q2⟩
def zie(t:TA):TE:=λσ H Q=>t σ H λxs H1=>xs.length<=sizeLine/\∀p,H1 p=none->Q (.ref p) (upd H1 p (.tup xs))
def zif(t:TA):TE:=λσ H Q=>t σ H λxs H1=>xs.length<=sizeLine/\∀p,H1 p=none->Q (.ref p) (upd H1 p (.lst xs))
theorem LD{x1}(h:PA X es t):PE X (.Tuple es x1 pos) (zie t):=by
 intro pins s σ H Q I hq;refine wpAny_Tuple_spliced (n8 (h pos pins s σ H _ I hq) λus s1 ⟨xs,H1,I1,r,z,q⟩=>⟨by rw[<-r.length];exact z,?_⟩);have hf:H1 s1.heap.objs.size=none:=I1.hok.fresh (j1 _);refine⟨.ref s1.heap.objs.size,upd H1 s1.heap.objs.size (.tup xs),I1.laid (t':=s1.toks) (λb u e=>V0 _ e) (j1 _) ?_,rfl,q _ hf⟩;exact⟨z,us,r,⟨_,V1 _ rfl,rfl,_,rfl⟩⟩
theorem d6(h:PA X es t):PE X (.List es pos) (zif t):=by
 intro pins s σ H Q I hq;refine wpAny_List_spliced (n8 (h pos pins s σ H _ I hq) λus s1 ⟨xs,H1,I1,r,z,q⟩=>⟨by rw[<-r.length];exact z,?_⟩);have hf:H1 s1.heap.objs.size=none:=I1.hok.fresh (j1 _);refine⟨.ref s1.heap.objs.size,upd H1 s1.heap.objs.size (.lst xs),I1.laid (t':=s1.toks) (λb u e=>V0 _ e) (j1 _) ?_,rfl,q _ hf⟩;exact⟨z,us,0,r,V1 _ rfl⟩
abbrev Sp:=List V->Hp->VK->XK->Prop
variable {sp:Sp}
abbrev Zs:=List Env->Hp->Shared->XK->Value->Shared->Prop
variable {CX:Zs}
structure iT(P:Program)(w:World)(K:Frag)(mg:Str->Option Value)(base:Heap)(A:Around)(outer:List Env)(s:Shared)(H:Hp):Prop where
 frames:A.frames=some outer
 mod:Mod K mg base
 bs:∀b o,base.get? b=some o->s.heap.get? b=some o/\H b=none
 bsz:base.objs.size<=s.heap.objs.size
 funs:s.heap.FunFrames base outer
 frf:∀b∈Bl outer,H b=none
 hok:pK P w H s.heap
 bare:AllBare s.gens
inductive CE(outer:List Env)(P:Program)(w:World)(H:Hp)(s:Shared)(Q:VK)(u:Value)(s':Shared):Prop
 |mk (v:V) (H':Hp):s'.os=s.os->AllBare s'.gens->Un (Bl outer) [] H H' s.heap s'.heap->pK P w H' s'.heap->T4 v u->Q v H'->CE outer P w H s Q u s'
def CR(CX:Zs)(outer:List Env)(P:Program)(w:World)(H:Hp)(s:Shared)(Q:VK)(E:XK)(r:Result)(s':Shared):Prop:=
 match r with
 |.ok (.ret u)=>CE outer P w H s Q u s'
 |.ok _=>False
 |.error e=>CX outer H s E e s'
structure EA(P:Program)(w:World)(K:Frag)(mg:Str->Option Value)(base:Heap)(CX:Zs)(cm:Bool)(k:Nat)(f:Addr)(fd:FuncData)(ps:List Str)(sp:Sp):Prop where
 len:∀vs H Q E,sp vs H Q E->vs.length=ps.length
 run:∀(A:Around)(outer:List Env)(s:Shared)(H:Hp)(args:Args)(us:List Value)(vs:List V)(Q:VK)(E:XK),R8 cm k A->iT P w K mg base A outer s H->BindsTo s fd args (ps.zip us)->D4 vs us->sp vs H Q E->
  codeAny (model P w) A (.call (.ref f) args) (CR CX outer P w H s Q E) s
theorem EA.mono{k:Nat}(F:EA P w K mg base CX cm j f fd ps sp) (h:j<=k) :
  EA P w K mg base CX cm k f fd ps sp:=⟨F.len,λA outer s H args us vs Q E hr=>F.run A outer s H args us vs Q E (hr.mono h)⟩
theorem EA.imp{k:Nat}{sp':Sp}(F:EA P w K mg base CX cm k f fd ps sp)
 (h:∀vs H Q E,sp' vs H Q E->sp vs H Q E):EA P w K mg base CX cm k f fd ps sp':=
  ⟨λvs H Q E q=>F.len vs H Q E (h _ _ _ _ q),λA outer s H args us vs Q E hr he hb hv hs=>F.run A outer s H args us vs Q E hr he hb hv (h _ _ _ _ hs)⟩
theorem iT.make(e:iT P w K mg base A outer s H)(C:Addr)(us:List Value)(kw:List (Str×Value)) :
  iT P w K mg base (A.under (.builtin "type.__call__" ⟨.ref C::us,kw⟩)) outer s H:=⟨by first|exact e.frames|(simpa[Around.under,Code.envs,Code.isFrame,pushEnvs]using e.frames),e.mod,e.bs,e.bsz,e.funs,e.frf,e.hok,e.bare⟩
theorem iT.in1(e:iT P w K mg base A outer s H) :
  iT P w K mg base A.in1 outer s H:=⟨e.frames,e.mod,e.bs,e.bsz,e.funs,e.frf,e.hok,e.bare⟩
section
variable {s':Shared}
theorem V2.env0(I:V2 X pins σ H s):iT X.prog X.w X.K X.mg X.base X.A X.stack s H:=
 ⟨I.ok.frames,I.ok.mod,I.bs,k4 I.ok.bsz I.sz,I.stack,I.stkFree,I.hok,I.bare⟩
theorem V2.after{u:Value}(I:V2 X pins σ H s) (h:CE X.stack X.prog X.w H s Q u s'):EP X pins σ Q u s':=by
 obtain⟨v,H',os,bare,un,hok,r,q⟩:=h;obtain⟨hh,g,d,t,os'⟩:=s';obtain rfl:os'=s.os:=os;exact⟨v,H',I.call (h':=hh) (g':=g) (d':=d) (t':=t) (ch:=[]) un hok bare (λb z=>absurd z (by simp)),r,q⟩
end
def Rl(sp:Sp)(FR:List V)(E:St->XK)(t:TA):TE:=λσ H Q=>t σ H λvs H1=>sp (vs++FR) H1 Q (E σ)
inductive Nu(C:Addr)(m:Str)(sp:Sp)(FR:List V)(E:St->XK)(t:TA)(σ:St)(Q:VK)(x:V)(H1:Hp):Prop
 |mk (a dx fs:_):x=.ref a->H1 a=some (.ins C dx fs)->fs.lookup m=none->(t σ H1 λvs H2=>sp (x::(vs++FR)) H2 Q (E σ))->Nu C m sp FR E t σ Q x H1
def zbU(C:Addr)(m:Str)(sp:Sp)(FR:List V)(E:St->XK)(ta:TE)(t:TA):TE:=λσ H Q=>ta σ H (Nu C m sp FR E t σ Q)
def zbV(C:Addr)(sp:Sp)(FR:List V)(E:St->XK)(t:TA):TE:=λσ H Q=>t σ H λvs H1=>∀x dx,H1 x=none->H1 dx=none->dx≠x->
 sp (.ref x::(vs++FR)) (upd (upd H1 dx (.own x)) x (.ins C dx [])) (λv H2=>v=.non/\Q (.ref x) H2) (E σ)
def IB(K:Frag)(fd:FuncData)(ps:List Str)(ds:List Value):Prop:=
 ∀(s:Shared)(us:List Value),K.In s.heap->(us++ds).length=ps.length->BindsTo s fd ⟨us,[]⟩ (ps.zip (us++ds))
theorem IB.all(h:∀us:List Value,us.length=ps.length->bindArgs fd ⟨us,[]⟩=pure (ps.zip us)):IB K fd ps []:=λs us _ hl=>by
 rw[D3]at hl ⊢;exact .of_eq (h us hl)
def BB(CX:Zs)(X:Cx)(E:St->XK):Prop:=∀(pins:List (Addr×Obj))(σ:St)(H:Hp)(s:Shared)(e:Value)(s':Shared),V2 X pins σ H s->CX X.stack H s (E σ) e s'->X.xe e s'
section
variable {k:Nat}{FR:List V}{ds:List Value}
theorem pY(F:EA X.prog X.w X.K X.mg X.base CX cm k f fd ps sp)(hr:R8 cm k X.A)(hb:IB X.K fd ps ds)(hd:D4 FR ds)(hx:BB CX X E)
 (I:V2 X pins σ H s) (r:D4 vs us) (h:sp (vs++FR) H Q (E σ)):wpAny (model X.prog X.w) X.A (call (.ref f) us) (EP X pins σ Q) X.xe s:=by
  have r2:D4 (vs++FR) (us++ds):=r.append hd;have hl:(us++ds).length=ps.length:=by rw[<-r2.length];exact F.len _ _ _ _ h
  refine OE (oC (F.run X.A X.stack s H ⟨us,[]⟩ (us++ds) (vs++FR) Q (E σ) hr I.env0 (hb s us I.kIn hl) r2 h) λr s' hq=>?_);cases r with
  |error e=>exact hx pins σ H s e s' I hq
  |ok fl=>
   cases fl with
   |ret u=>exact I.after hq
   |next=>exact False.elim hq
   |brk=>exact False.elim hq
   |cont=>exact False.elim hq
theorem zav(F:EA X.prog X.w X.K X.mg X.base CX cm k f fd ps sp)(hr:R8 cm k X.A)(hg:Gl X x)(hm:X.mg x=some (.ref f))(hk:keepIn X.K (.ref f)=true)(hb:IB X.K fd ps ds)(hd:D4 FR ds)(hx:BB CX X E)
 (ha:PA X (e::es) t) (LZ:(x==("__debug__": Str))=false:=by decide) (he:starEach (e::es) X.env=(false,eval e X.env)::starEach es X.env:=by rfl) (IH:(backTo pos (starEach es X.env)).any (·.1)=false:=by rfl) :
   PE X (.Call (.Name x p) (e::es) [] pos) (Rl sp FR E t):=by
  intro pins s σ H Q I h;refine F6 (oH I hg hm ?_ LZ);refine fB (h₀:=X.base) I.ok.mod.kin hk (n8 (ha pos pins s σ H _ I h) λus s1 ⟨vs,H1,I1,r,q⟩=>⟨I1.kIn,?_⟩) he IH;exact pY F hr hb hd hx I1 r q
theorem MD(he:PE X o ta)(c:Lp X.K C)(hm:Mp X.K C m f)(F:EA X.prog X.w X.K X.mg X.base CX cm k f fd ps sp)(hr:R8 cm k X.A)(hb:IB X.K fd ps ds)(hd:D4 FR ds)(hx:BB CX X E)(ha:PA X (e::es) t)
 (RM:starEach (e::es) X.env=(false,eval e X.env)::starEach es X.env:=by rfl) (IH:(backTo pos (starEach es X.env)).any (·.1)=false:=by rfl)
 (ht:eval (.Call (.Attribute o m yE) (e::es) [] pos) X.env=(do
 let ov <-eval o X.env
 standAt yE.atName
 let (f,first) <-holding [ov] (getMethod ov m pl)
 callWith pos f first (backTo pos (starEach (e::es) X.env)) (backToKw pos (keywordEach [] X.env))):=by rfl) :
   PE X (.Call (.Attribute o m yE) (e::es) [] pos) (zbU C m sp FR E ta t):=by
  intro pins s σ H Q I h;refine AE (pl:=pl) (n8 (he pins s σ H _ I h) λu s1 ⟨x,H1,I1,rx,a,dx,fs,ex,ea,l,q⟩=>?_) ht;subst ex;obtain rfl:u=Value.ref a:=rx;refine eT I1 ea c hm l ?_;refine fB (first:=[.ref a]) (h₀:=X.base) I.ok.mod.kin hm.kp (n8 (ha pos pins s1 σ H1 _ I1 q) λus s2 ⟨vs,H2,I2,r,q2⟩=>⟨I2.kIn,?_⟩) RM IH;exact pY (us:=.ref a::us) (vs:=.ref a::vs) F hr hb hd hx I2 (.cons rfl r) q2
theorem Ga(he:PE X o ta)(c:Lp X.K C)(hm:Mp X.K C m f)(F:EA X.prog X.w X.K X.mg X.base CX cm k f fd ps sp)(hr:R8 cm k X.A)(hb:IB X.K fd ps ds)(hd:D4 FR ds)(hx:BB CX X E)
 (ht:eval (.Call (.Attribute o m yE) [] [] pos) X.env=(do
 let ov <-eval o X.env
 standAt yE.atName
 let (f,first) <-holding [ov] (getMethod ov m pl)
 callWith pos f first (backTo pos (starEach [] X.env)) (backToKw pos (keywordEach [] X.env))):=by rfl) :
   PE X (.Call (.Attribute o m yE) [] [] pos) (zbU C m sp FR E ta Fa):=by
  intro pins s σ H Q I h;refine AE (pl:=pl) (n8 (he pins s σ H _ I h) λu s1 ⟨x,H1,I1,rx,a,dx,fs,ex,ea,l,q⟩=>?_) ht;subst ex;obtain rfl:u=Value.ref a:=rx;refine eT I1 ea c hm l ?_;exact UF (first:=[.ref a]) I1.kIn hm.kp (pY (us:=[.ref a]) (vs:=[.ref a]) F hr hb hd hx I1 (.cons rfl .nil) q)
structure Mk(K:Frag)(C f:Addr):Prop where
 makes:makesIn K C=true
 init:findIn K (.ref C) "__init__"= some (some (.ref f))
 fn:isFn K (.ref f)=true
 kp:keepIn K (.ref C)=true
theorem Ha(M:Mk X.K C f)(F:EA X.prog X.w X.K X.mg X.base CX cm k f fd ps sp)(hr:R8 cm (k+1) X.A)(hb:IB X.K fd ps ds)(hd:D4 FR ds)
 (hx:BB CX X E) (I:V2 X pins σ H s) (r:D4 vs us)
 (h:∀x dx,H x=none->H dx=none->dx≠x->sp (.ref x::(vs++FR)) (upd (upd H dx (.own x)) x (.ins C dx [])) (λv H2=>v=.non/\Q (.ref x) H2) (E σ)) :
   wpAny (model X.prog X.w) X.A (call (.ref C) us) (EP X pins σ Q) X.xe s:=by
  have hq:=h (s.heap.objs.size+1) s.heap.objs.size (I.hok.fresh (lL _)) (I.hok.fresh (j1 _)) (K3 (ME _));have I2:=V2.made (C:=C) I;have r2:D4 (V.ref (s.heap.objs.size+1)::(vs++FR)) (Value.ref (s.heap.objs.size+1)::(us++ds)):=.cons rfl (r.append hd);have hl:(Value.ref (s.heap.objs.size+1)::us++ds).length=ps.length:=by
   have e:=r2.length;rw[F.len _ _ _ _ hq]at e;exact e.symm
  refine OE (Mu (f:=f) I.kIn M.makes M.init (O4.mp M.fn) (oC (F.run _ X.stack _ _ ⟨Value.ref (s.heap.objs.size+1)::us,[]⟩ (Value.ref (s.heap.objs.size+1)::(us++ds)) _ _ (E σ) (hr.make C us [])
   (I2.env0.make C us []) (hb _ (Value.ref (s.heap.objs.size+1)::us) I2.kIn hl) r2 hq) λr s' GR=>?_))
  cases r with
  |error e=>exact hx pins σ _ _ e s' I2 GR
  |ok fl=>
   cases fl with
   |ret u=>
    obtain⟨v,H',I3,rv,ev,q3⟩:=I2.after GR;subst ev;exact⟨rv,⟨V.ref (s.heap.objs.size+1),H',I3,rfl,q3⟩⟩
   |next=>exact False.elim GR
   |brk=>exact False.elim GR
   |cont=>exact False.elim GR
theorem kM(M:Mk X.K C f)(F:EA X.prog X.w X.K X.mg X.base CX cm k f fd ps sp)(hr:R8 cm (k+1) X.A)(hg:Gl X x)(hm:X.mg x=some (.ref C))(hb:IB X.K fd ps ds)(hd:D4 FR ds)(hx:BB CX X E)
 (ha:PA X (e::es) t) (LZ:(x==("__debug__": Str))=false:=by decide) (he:starEach (e::es) X.env=(false,eval e X.env)::starEach es X.env:=by rfl) (IH:(backTo pos (starEach es X.env)).any (·.1)=false:=by rfl) :
   PE X (.Call (.Name x p) (e::es) [] pos) (zbV C sp FR E t):=by
  intro pins s σ H Q I h;refine F6 (oH I hg hm ?_ LZ);refine fB (h₀:=X.base) I.ok.mod.kin M.kp (n8 (ha pos pins s σ H _ I h) λus s1 ⟨vs,H1,I1,r,q⟩=>⟨I1.kIn,?_⟩) he IH;exact Ha M F hr hb hd hx I1 r q
theorem Ia(M:Mk X.K C f)(F:EA X.prog X.w X.K X.mg X.base CX cm k f fd ps sp)(hr:R8 cm (k+1) X.A)(hg:Gl X x)(hm:X.mg x=some (.ref C))(hb:IB X.K fd ps ds)(hd:D4 FR ds)(hx:BB CX X E)
 (LZ:(x==("__debug__": Str))=false:=by decide):PE X (.Call (.Name x p) [] [] pos) (zbV C sp FR E Fa):=by
  intro pins s σ H Q I h;refine F6 (oH I hg hm ?_ LZ);exact UF I.kIn M.kp (Ha (us:=[]) M F hr hb hd hx I .nil h)
end
def PK(X:Cx)(kws:List Keyword)(t:TA):Prop:=
 ∀(pos:Pos)(pins:List (Addr×Obj))(s:Shared)(σ:St)(H:Hp)(Q:List V->Hp->Prop),V2 X pins σ H s->t σ H Q->wpAny (model X.prog X.w) X.A (evalAll ((backToKw pos (keywordEach kws X.env)).map (·.2))) (AP X pins σ Q) X.xe s
section
variable {k:Nat}{ks:List Str}{kpos:Pos}{kws:List Keyword}{tk:TA}{nm:Option Str}
theorem Ou:PK X [] Fa:=λ_ _ _ _ H Q I h=>wpAny_evalAll_nil ⟨[],H,I,.nil,h⟩
theorem qY(ha:PE X e te)(hr:PK X kws t):PK X (⟨nm,e,kpos⟩::kws) (Ql te t):=by
 intro pos pins s σ H Q I h;show wpAny _ _ (evalAll ((do let v <-eval e X.env;standAt pos;pure v)::(backToKw pos (keywordEach kws X.env)).map (·.2))) _ _ s;refine wpAny_evalAll_cons (z0 (n8 (ha pins s σ H _ I h) λu s1 ⟨x,H1,I1,r1,q1⟩=>z0 (w9 (S0 ?_))));exact n8 (hr pos pins s1 σ H1 _ I1 q1) λus s2 ⟨xs,H2,I2,r2,q2⟩=>⟨x::xs,H2,I2,.cons r1 r2,q2⟩
variable {g:List Value->List Value->List Value}{gV:List V->List V->List V}
end
structure ND(N P:List Str)(sc:Scope):Prop where
 kind:sc.kind=.function
 co:sc.isCoroutine=false
 gen:sc.isGenerator=false
 nd:N.Nodup
 pre:N.take P.length=P
 par:∀x∈P,sc.names.lookup x=some .local\/sc.names.lookup x=some .cell
 nofree:∀y∈sc.names,y.2≠.free
theorem NW{kindOf:Str->Option NameKind}{x:Str}:∀{binds:List (Str×Value)}{m:Str->Option Value},(∀v,(x,v)∉binds)->bindL kindOf binds m x=m x
 |[],_,_=>rfl
 |(n,v)::r,m,h=>by
  unfold bindL;rw[NW λw hw=>h w (i3 _ hw)];split
  .have:x≠n:=by rintro rfl;exact h v M4
   simp[this]
  .rfl
theorem OW{kindOf:Str->Option NameKind}{x:Str}:∀{binds:List (Str×Value)}{m:Str->Option Value},(∀v,(x,v)∉binds)->bindC kindOf binds m x=m x
 |[],_,_=>rfl
 |(n,v)::r,m,h=>by
  unfold bindC;rw[OW λw hw=>h w (i3 _ hw)];split
  .rfl
  .have:x≠n:=by rintro rfl;exact h v M4
   simp[this]
theorem QW{kindOf:Str->Option NameKind}{x:Str}{v:Value}:∀{P:List Str}{vs:List Value}{i:Nat}{m:Str->Option Value},P.Nodup->P[i]?=some x->vs[i]?=some v->kindOf x=some .local->
  bindL kindOf (P.zip vs) m x=some v
 |[],_,_,_,_,h,_,_=>by simp at h
 |_::_,[],_,_,_,_,h,_=>by simp at h
 |p::P,w::vs,0,m,nd,h1,h2,hk=>by
  simp at h1 h2;subst h1;subst h2;show bindL kindOf ((p,w)::P.zip vs) m p=_;unfold bindL;rw[NW λv hv=>(S5.mp nd).1 (gA hv).1,J0 hk];simp
 |p::P,w::vs,i+1,m,nd,h1,h2,hk=>by
  show bindL kindOf ((p,w)::P.zip vs) m x=_;unfold bindL;exact QW (i:=i) (S5.mp nd).2 (by simpa using h1) (by simpa using h2) hk
theorem RW{kindOf:Str->Option NameKind}{x:Str}{v:Value}:∀{P:List Str}{vs:List Value}{i:Nat}{m:Str->Option Value},P.Nodup->P[i]?=some x->vs[i]?=some v->kindOf x≠some .local->
  bindC kindOf (P.zip vs) m x=some v
 |[],_,_,_,_,h,_,_=>by simp at h
 |_::_,[],_,_,_,_,h,_=>by simp at h
 |p::P,w::vs,0,m,nd,h1,h2,hk=>by
  simp at h1 h2;subst h1;subst h2;show bindC kindOf ((p,w)::P.zip vs) m p=_;unfold bindC;rw[OW λv hv=>(S5.mp nd).1 (gA hv).1,D0 hk];simp
 |p::P,w::vs,i+1,m,nd,h1,h2,hk=>by
  show bindC kindOf ((p,w)::P.zip vs) m x=_;unfold bindC;exact RW (i:=i) (S5.mp nd).2 (by simpa using h1) (by simpa using h2) hk
def start(N:List Str)(vs:List V):St:=vs.map some++List.replicate (N.length-vs.length) none
def Ja(CX:Zs)(cm:Bool)(P:Program)(w:World)(K:Frag)(mg:Str->Option Value)(base:Heap)(N:List Str)(OB:Str)(scope:Scope)(f:Addr)(cd:Value)(A:Around)(outer:List Env)(s:Shared)(H:Hp)(E:XK):Cx where
 prog:=P
 w:=w
 K:=K
 mg:=mg
 base:=base
 A:=A.deeper (envOfC OB scope s.heap.objs.size f cd)
 N:=N
 s_0:=s
 H_0:=H
 env:=envOfC OB scope s.heap.objs.size f cd
 outer:=outer
 stack:=envOfC OB scope s.heap.objs.size f cd::outer
 ex:=[]
 calm:=cm
 fn:=λ_=>true
 pn:=[]
 xe:=λe s'=>wpAny (model P w) (A.deeper (envOfC OB scope s.heap.objs.size f cd)) (leaving (envOfC OB scope s.heap.objs.size f cd) e) (λ_ s''=>CX outer H s E e s'') (λe' s''=>CX outer H s E e' s'') s'
theorem Ka{sc:Scope}{n:Nat}(h:sc.names.lookup x=some .cell):∃c,(cellsFrom n sc.names []).lookup x=some c:=by
 simp_all [wJ,LH.mp]
theorem Np{cd:Value}{s1:Shared}{E:XK}
 (S:ND N ps scope) (hd:cm=true->A.handled=none) (e0:iT P w K mg base A outer s H) (hl:vs.length=ps.length) (r:D4 vs us)
 (x:InCallC s s.heap.objs.size (bindL (envOfC OB scope s.heap.objs.size f cd).kindOf (ps.zip us) λ_=>none) (cellsFrom (s.heap.objs.size+1) scope.names []) (bindC (envOfC OB scope s.heap.objs.size f cd).kindOf (ps.zip us) λ_=>none) s1) :
   V2 (Ja CX cm P w K mg base N OB scope f cd A outer s H E) [] (start N vs) H s1:=by
  have IH:ps.length<=N.length:=by grind [List.length,S.pre,Z1]
  obtain⟨h1,tk,rfl,hk⟩:=x.done;have noA:∀b:Addr,b∉(Ja CX cm P w K mg base N OB scope f cd A outer s H E).ex:=λb z=>absurd (show b∈([]:List Addr)from z) (by simp);refine⟨⟨e0.mod,S.kind,rfl,rfl,j1 _,λy z c h1 h2=>?_,λy hy=>?_,λy c _ h=>?_,hd,Around.frames_deeper e0.frames,.inr ⟨rfl,rfl⟩,λb z=>absurd z (noA b),e0.bs,e0.bsz,λb _ _=>noA b,λb z=>absurd z (noA b),e0.funs,e0.frf⟩,
   rfl,e0.bare,Un.kept hk,⟨_,x.toInCall.ns,λi y v h1 h2 h3=>?_⟩,λy c h=>⟨_,x.cell y c h⟩,e0.hok.fresh (j1 _),λy c h=>?_,λp hp=>absurd (show p∈([]:List (Addr×Obj))from hp) (by simp),e0.hok.kept hk,?_⟩
  .exact name_of_addr x.apart (O3 h1) (O3 h2)
  .have hy:scope.names.lookup y=some .cell\/scope.names.lookup y=some .free:=hy;rcases hy with hy|hy
   .exact Ka hy
   .exact absurd rfl (S.nofree _ (O3 hy))
  .exact rJ (x.above y c (O3 h))
  .have hi:i<vs.length:=by
    unfold start at h2;by_cases hi:i<vs.length
    .exact hi
    .rw[G6 (by simpa using hi)]at h2;rw[yI]at h2;grind
   have ha:vs[i]?=some v:=by
    unfold start at h2;rw[w8 (by simpa using hi),P1]at h2;grind
   obtain⟨u,hu,rv⟩:=r.get ha;have hp:ps[i]?=some y:=by
    rw[<-S.pre,MH (by lia)];exact h1
   have ndP:ps.Nodup:=by rw[<-S.pre];exact S.nd.sublist (List.take_sublist _ _)
   refine⟨u,rv,?_⟩;rcases S.par y (M1 hp)with k|k
   .exact .inl ⟨k,QW ndP hp hu k⟩
   .obtain⟨c,e⟩:=Ka (n:=s.heap.objs.size+1) k;refine .inr ⟨.inl k,c,e,?_⟩;have q:=x.cell y c e;rw[RW ndP hp hu (by show scope.names.lookup y≠_;rw[k];decide)]at q;exact q
  .exact e0.hok.fresh (rJ (x.above y c (O3 h)))
  .unfold start;show _=N.length;grind
theorem zfm{k:Nat}{name:Str}{params:Arguments}{body:List Stmt}{dV kV Yo pm NV ct oc:Value}{an od:Option Addr}
 {osl:Array (Option Value)} (lk:K.lookup f=some ⟨oc,od,.func (fnOf name OB params body scope dV kV Yo pm an NV ct),osl⟩) (Ht:codeIn K NV OB=true) (S:ND N ps scope)
 (len:∀vs H Q E,sp vs H Q E->vs.length=ps.length)
 (Zo:∀(A:Around)(outer:List Env)(s:Shared)(H:Hp)(vs:List V)(Q:VK)(E:XK),R8 cm k (A.deeper (envOfC OB scope s.heap.objs.size f NV))->sp vs H Q E->
 ∃t,Ys (Ja CX cm P w K mg base N OB scope f NV A outer s H E) body t/\t {nx:=λ_ H'=>Q .non H',rt:=Q} (start N vs) H) :
   EA P w K mg base CX cm (k+1) f (fnOf name OB params body scope dV kV Yo pm an NV ct) ps sp:=by
  refine⟨len,λA outer s H args us vs Q E hr e0 hb r hsp=>?_⟩;have hl:=len _ _ _ _ hsp;have KX:K.In s.heap:=e0.mod.kin.keeps λb o e=>(e0.bs b o e).1;have lim:s.heap.NoLimit:=e0.mod.nolimit.keeps λb o e=>(e0.bs b o e).1;have zgc:∀y∈ps.zip us,scope.names.lookup y.1=some .local\/(scope.names.lookup y.1=some .cell/\((cellsFrom (s.heap.objs.size+1) scope.names []).lookup y.1).isSome=true):=λ⟨n,v⟩ hy=>by
   rcases S.par n (gA hy).1 with q|q
   .exact .inl q
   .exact .inr ⟨q,wJ _ _ _ (.inl q)⟩
  refine codeAny_call_function hr.depth (KX _ _ lk) rfl S.co S.gen rfl (PySem.W.codeRec_of KX Ht) (hb _ _ _ _ ?_);refine wpAny_newFunctionEnv_cells S.kind zgc λenv he s1 x=>?_;subst he;refine⟨lim.keeps x.toInCall.keep,codeAny_func ?_⟩;obtain⟨t,ht,hq⟩:=Zo A outer s H vs Q E (hr.deeper _) hsp;have I:V2 (Ja CX cm P w K mg base N OB scope f NV A outer s H E) [] (start N vs) H s1:=Np S hr.hd e0 hl r x;refine P5 (ht [] s1 (start N vs) H _ I hq) (λfl s' hs=>?_) λe s' hs=>hs;have fin:∀{σ':St}{H':Hp}{v:V}{u:Value},V2 (Ja CX cm P w K mg base N OB scope f NV A outer s H E) [] σ' H' s'->T4 v u->Q v H'->CE outer P w H s Q u s':=
   λ{σ' H' v u} J rv q=>⟨v,H',J.os,J.bare,J.base,J.hok,rv,q⟩
  cases fl with
  |ret u=>
   obtain⟨v,σ',H',J,rv,q⟩:=hs;exact fin J rv q
  |next=>
   obtain⟨σ',H',J,q⟩:=hs;exact fin (v:=V.non) (u:=Value.none) J rfl q
  |brk=>
   obtain⟨_,_,_,q⟩:=hs;exact False.elim q
  |cont=>
   obtain⟨_,_,_,q⟩:=hs;exact False.elim q
end L2
namespace L2
open PySem PySem.Spec PyProof.Rows
section
variable {X:Cx}{x:Str}{p pos:Pos}{e:Expr}{es:List Expr}{t:TA}{id T:String}{r:List V->Hp->VK->Prop}
def tCB(r:List V->Hp->VK->Prop)(t:TA):TE:=λσ H Q=>t σ H λvs H1=>r vs H1 Q
theorem NA(hc:EM X (.builtin id) r)(hg:Gl X x)(hm:X.mg x=none)(hv:bootBuiltins x=some (.builtin id))(ha:PA X (e::es) t)(hn:x ≠ "__name__":= by decide)(LZ:(x==("__debug__": Str))=false:=by decide)
  (he:starEach (e::es) X.env=(false,eval e X.env)::starEach es X.env:=by rfl) (IH:(backTo pos (starEach es X.env)).any (·.1)=false:=by rfl):PE X (.Call (.Name x p) (e::es) [] pos) (tCB r t):=by
 intro pins s σ H Q I h;refine F6 (JH I hg hm hv ?_ hn LZ);exact PyProof.Rows.callWith_builtin1 (n8 (ha pos pins s σ H _ I h) λus s1 ⟨vs,H1,I1,r1,q1⟩=>hc pins s1 σ H1 vs us Q I1 r1 q1) he IH
theorem Op(hc:EM X (.type T) r)(hg:Gl X x)(hm:X.mg x=none)(hv:bootBuiltins x=some (.type T))(ha:PA X (e::es) t)(hn:x ≠ "__name__":= by decide)(LZ:(x==("__debug__": Str))=false:=by decide)
  (he:starEach (e::es) X.env=(false,eval e X.env)::starEach es X.env:=by rfl) (IH:(backTo pos (starEach es X.env)).any (·.1)=false:=by rfl):PE X (.Call (.Name x p) (e::es) [] pos) (tCB r t):=by
 intro pins s σ H Q I h;refine F6 (JH I hg hm hv ?_ hn LZ);exact j5 (n8 (ha pos pins s σ H _ I h) λus s1 ⟨vs,H1,I1,r1,q1⟩=>hc pins s1 σ H1 vs us Q I1 r1 q1) he IH
end
end L2
namespace HT
open PySem PyProof.Rows
variable {b t sl:Addr}{items:Array Value}{lo hi:Option Int}{vl vu:Value}{Q:Value->Shared->Prop}
def lexLt:List Int->List Int->Bool
 |[],[]=>false
 |[],_::_=>true
 |_::_,[]=>false
 |x::xs,y::ys=>if x=y then lexLt xs ys else decide (x<y)
theorem lexLt_cons(x y:Int)(xs ys:List Int):lexLt (x::xs) (y::ys)=if x=y then lexLt xs ys else decide (x<y):=rfl
theorem RV:lexLt [] []=false:=rfl
theorem jT(y:Int)(ys:List Int):lexLt [] (y::ys)=true:=rfl
theorem kT(x:Int)(xs:List Int):lexLt (x::xs) []=false:=rfl
theorem La(A:Around)(s:Shared)(a:Int)(t:Tok)(c:Int)(u:Tok):∃e,SeqAt.EqAt A s (.int a t) (.int c u) e/\(e=true↔a=c):=
 ⟨(a==c),DG a t c u,by simp⟩
theorem rcLt_int(A:Around)(s:Shared)(a:Int)(t:Tok)(c:Int)(u:Tok)(prog:Program)(w:World)(E:Value->Shared->Prop)(Q:Value->Shared->Prop)(h:Q (.bool (decide (a<c))) s) :
  wpAny (model prog w) A (richCompare .Lt (.int a t) (.int c u)) Q E s:=
 (PyProof.Rows.lt_int h:wpAny (model prog w) A (compareOp .Lt (.int a t) (.int c u)) Q E s)
section
open PySem.SeqAt
open PySem.AutoSeq1 (wpAny_loadPart')
open PySem.MeetsSeq PySem.MeetsSeq2 PySem.MeetsSeq3
theorem SV(l b:Addr)(items u7:Array Value)(n n2:Nat)(dd Tg:Option Addr)(sl Ug:Array (Option Value))(ns ms:List Int)(hi:IntsAre items.toList ns)(hj:IntsAre u7.toList ms) :
  Meets (Builtin.«tuple.__lt__» ⟨[.ref l,.ref b],[]⟩)
   (λ_ R s=>s.heap.get? l=some {cls:=.type "tuple",dict:=dd,data:=.seq items n,slots:=sl}/\s.heap.get? b=some {cls:=.type "tuple",dict:=Tg,data:=.seq u7 n2,slots:=Ug}/\
     R (.ok (.ret (.bool (lexLt ns ms)))) s):=
 .of_wp λprog w A R s h=>by
  obtain⟨hp,g,d,tk,os⟩:=s;obtain⟨hl,hb,h⟩:=h;have f2:=OC;have z1:items.size=ns.length:=by rw[<-hi.length];simp
  have z2:u7.size=ms.length:=by rw[<-hj.length];simp
  wp_walk using wpAny_loadPart' hl,wpAny_loadPart' hb,zI _ (λY7 b s'=>b.1=none/\s'=⟨hp,g,d,tk,os⟩/\∃(vs ws:List Value)(Vg Ss:List Int),Y7=vs.zip ws/\
   IntsAre vs Vg/\IntsAre ws Ss/\Vg.length+u7.size=Ss.length+items.size/\R (.ok (.ret (.bool (lexLt Vg Ss)))) ⟨hp,g,d,tk,os⟩) _
  case turn=>
   rintro⟨y,x⟩ Y7 b s' ⟨BP,rfl,vs,ws,Vg,Ss,hz,hvi,Ig,LC,hR⟩;cases hvi with
   |nil=>rw[List.zip_nil_left]at hz;cases hz
   |cons a t hvi'=>
    cases Ig with
    |nil=>rw[List.zip_nil_right]at hz;cases hz
    |cons c u hwi'=>
     rw[dD]at hz;injection hz with hyx hrest;injection hyx with hy hx;subst hy hx;rw[lexLt_cons]at hR;simp only[N1]at LC;obtain⟨e,he,Dz⟩:=La A.in1 ⟨hp,g,d,tk,os⟩ a t c u;refine z0 (he prog w _ _ ?_);cases e with
     |true=>
      rw[J0 (Dz.mp rfl)]at hR
      wp_walk
      exact⟨rfl,rfl,_,_,_,_,hrest,hvi',hwi',by lia,hR⟩
     |false=>
      rw[D0 (λq=>absurd (Dz.mpr q) X1)]at hR;have hri:=rcLt_int A.in1 ⟨hp,g,d,tk,os⟩ a t c u prog w
      wp_walk using hri
      exact⟨_,rfl,by simpa using hR⟩
  case fin=>
   rintro⟨b1,b2⟩ s' ⟨BP,rfl,vs,ws,Vg,Ss,hz,hvi,Ig,LC,hR⟩;simp only at BP;subst BP;have hv:lexLt Vg Ss=decide (items.size<u7.size):=by
    cases hvi with
    |nil=>
     cases Ig with
     |nil=>
      simp only[O6]at LC;rw[RV];exact(Y0 (by lia)).symm
     |cons c u hw=>
      simp only[O6,N1]at LC;rw[jT];exact(F1 (by lia)).symm
    |cons a t hv=>
     cases Ig with
     |nil=>
      simp only[O6,N1]at LC;rw[kT];exact(Y0 (by lia)).symm
     |cons c u hw=>
      rw[dD]at hz;cases hz
   rw[hv]at hR
   wp_walk
   exact⟨_,rfl,by simpa[Builtin.Tuple.tupleCompareSizes]using hR⟩
  case h=>
   exact⟨rfl,rfl,items.toList,u7.toList,ns,ms,rfl,hi,hj,by lia,h⟩
end
section
variable {prog:Program}{w:World}{A:Around}{E:Value->Shared->Prop}{s:Shared}
theorem lt_tupInts{l:Addr}{u7:Array Value}{ns ms:List Int}(hl:IsTup s.heap l items) (hb:IsTup s.heap b u7) (hi:IntsAre items.toList ns) (hj:IntsAre u7.toList ms)
 (hu:A.units<cLine) (h:Q (.bool (lexLt ns ms)) s):wpAny (model prog w) A (compareOp .Lt (.ref l) (.ref b)) Q E s:=by
  obtain⟨⟨cls,dd,data,sl⟩,ho,hc,n,hd⟩:=id hl;obtain⟨⟨zbx,Tg,data2,Ug⟩,jY,VZ,n2,HW⟩:=id hb;simp only at hc hd VZ HW;subst hc hd VZ HW;exact OD (op:=.Lt) ⟨_,ho,rfl⟩ ⟨_,jY,rfl⟩ DK xJ (AI _ _) (SV l b items u7 n n2 dd Tg sl Ug ns ms hi hj)
   ⟨ho,jY,show Value.bool (lexLt ns ms)≠Value.notImplemented/\Q (.bool (lexLt ns ms)) s from⟨(λx=>nomatch x),h⟩⟩ hu
theorem zaw{vs ws:List Value}(ht:IsTup s.heap t vs.toArray) (hb:IsTup s.heap b ws.toArray) (hv:vs≠[])
 (h1:ws=[]->Q (.ref t) s) (h2:ws≠[]->Q (.ref s.heap.objs.size) {s with heap:=s.heap.push {cls:=.type "tuple",data:=.seq (vs++ws).toArray}})
 (hsz:vs.length+ws.length<=sizeLine):wpAny (model prog w) A (binaryOp .Add (.ref t) (.ref b)) Q E s:=by
  obtain⟨⟨cls,dd,data,sl⟩,ho,hc,n,hd⟩:=id ht;obtain⟨⟨zbx,Tg,data2,Ug⟩,jY,VZ,n2,HW⟩:=id hb;simp only at hc hd VZ HW;subst hc hd VZ HW;have e:vs.toArray++ws.toArray=(vs++ws).toArray:=by simp
  by_cases hw:ws=[]
  .exact NN ⟨_,ho,rfl⟩ ⟨_,jY,rfl⟩ BI FM QD AD (QC _ _)
    (tuple_addW1 t b vs.toArray ws.toArray n n2 dd Tg sl Ug (by simpa using hv) (by simp[hw])) ⟨ho,jY,h1 hw⟩
  .refine NN ⟨_,ho,rfl⟩ ⟨_,jY,rfl⟩ BI FM QD AD (QC _ _)
    (tuple_addW2 t b vs.toArray ws.toArray n n2 dd Tg sl Ug (by simpa using hv) (by simpa using hw) (by rw[K1,K1];exact hsz)) ⟨ho,jY,?_⟩
   rw[e];exact h2 hw
def sIx(n d:Nat):Option Int->Nat
 |none=>d
 |some v=>if v<0 then(v+(n:Int)).toNat else min v.toNat n
theorem zc5(n d:Nat)(hd:d<=n)(o:Option Int):sIx n d o<=n:=by
 cases o with
 |none=>exact hd
 |some v=>
  show(if v<0 then(v+(n:Int)).toNat else min v.toNat n)<=n;by_cases hv:v<0
  .rw[J0 hv];lia
  .rw[D0 hv];exact QE _ _
theorem Sl(v:Int)(n d:Nat):(if v<0 then max (v+(n:Int)) 0 else min v (n:Int))=(sIx n d (some v):Int):=by
 show(if v<0 then max (v+(n:Int)) 0 else min v (n:Int))=(((if v<0 then(v+(n:Int)).toNat else min v.toNat n):Nat):Int);by_cases hv:v<0
 .grind
 .simp only[D0 hv];lia
theorem Ih(lo hi:Option Int)(n:Nat):Builtin.Slice.sliceAdjust lo hi 1 (n:Int)=(((sIx n 0 lo:Nat):Int),(sIx n n hi:Int)):=by
 have h1:¬((1:Int)<0):=by lia
 unfold Builtin.Slice.sliceAdjust;simp only[h1,N7];refine ON ?_ ?_
 .cases lo with
  |none=>rfl
  |some v=>exact Sl v n 0
 .cases hi with
  |none=>rfl
  |some v=>exact Sl v n n
theorem Jh(i j:Nat):Builtin.Slice.slicePlaces (i:Int) (j:Int) 1=j-i:=by
 unfold Builtin.Slice.slicePlaces
 lia
theorem lT{v:Value}{o:Option Int}{Q:Option Int->Shared->Prop}(p:IsPart v o) (h:Q o s):wpAny (model prog w) A (Builtin.Slice.slicePartIndex v) Q E s:=by
 cases p with
 |none=>exact slicePart_none h
 |int i t=>exact slicePart_int h
theorem CI{n:Nat}{Q:Int×Int×Nat->Shared->Prop}(hs:s.heap.IsSliceOf sl vl vu .none) (pl:IsPart vl lo) (pu:IsPart vu hi)
 (h:Q (((sIx n 0 lo:Nat):Int),1,sIx n n hi-sIx n 0 lo) s):wpAny (model prog w) A (Builtin.Slice.sliceApplied (.ref sl) (pure (n:Int))) Q E s:=by
  obtain⟨os,hos,hcs,MZ⟩:=id hs;unfold Builtin.Slice.sliceApplied Builtin.Slice.sliceFields;refine z0 (z0 (O5 hos MZ (x:=vl) rfl (z0 (O5 hos MZ (x:=vu) rfl (z0 (O5 hos MZ (x:=.none) rfl (S0 ?_)))))));refine z0 (slicePart_none ?_);show wpAny _ _ (if ((1:Int)==0)=true then _ else _) _ _ s;rw[D0 (by decide)];refine z0 (lT pl (z0 (lT pu (z0 (S0 ?_)))));show wpAny _ _ (match Builtin.Slice.sliceAdjust lo hi 1 (n:Int)with|(lo,hi)=>pure (lo,(1:Int),Builtin.Slice.slicePlaces lo hi 1)) _ _ s;rw[Ih lo hi n];show wpAny _ _ (pure (((sIx n 0 lo:Nat):Int),(1:Int),Builtin.Slice.slicePlaces ((sIx n 0 lo:Nat):Int) (sIx n n hi:Int) 1)) _ _ s;rw[Jh];exact S0 h
theorem Pu(xs:Array Value)(i k:Nat):((List.range k).filterMap λ(m:Nat)=>xs[((i:Int)+(m:Int)*1).toNat]?).toArray=((xs.toList.drop i).take k).toArray:=by
 have e:(λ(m:Nat)=>xs[((i:Int)+(m:Int)*1).toNat]?)=λm=>xs[i+m]?:=by
  funext m;have:((i:Int)+(m:Int)*1).toNat=i+m:=by lia
  rw[this]
 rw[e];have:=pick_run xs i k;rw[List.filterMap_map]at this;have e2:((λx=>xs[x]?) ∘ λx=>i+x)=λm=>xs[i+m]?:=rfl;grind
theorem getItem_tuple_cut(ht:IsTup s.heap t items)(hs:s.heap.IsSliceOf sl vl vu .none)(pl:IsPart vl lo)(pu:IsPart vu hi)
 (hw:¬(sIx items.size 0 lo=0/\sIx items.size items.size hi=items.size))
 (h:Q (.ref s.heap.objs.size) {s with heap:=s.heap.push {cls:=.type "tuple",data:=.seq ((items.toList.drop (sIx items.size 0 lo)).take (sIx items.size items.size hi-sIx items.size 0 lo)).toArray}})
 (hsz:items.size<=sizeLine):wpAny (model prog w) A (getItem (.ref t) (.ref sl)) Q E s:=by
  have Ap:sizeOk (.seq ((items.toList.drop (sIx items.size 0 lo)).take (sIx items.size items.size hi-sIx items.size 0 lo)).toArray):=by
   show((items.toList.drop (sIx items.size 0 lo)).take (sIx items.size items.size hi-sIx items.size 0 lo)).toArray.size<=sizeLine;rw[K1,Z1,pC,VF]
   lia
  have hj:sIx items.size items.size hi<=items.size:=zc5 _ _ (j1 _) hi;obtain⟨os,hos,hcs,MZ⟩:=id hs;have hTs:s.TypeIs (.ref sl) "slice":= ⟨os,hos,hcs⟩;unfold getItem
  try with_reducible refine W4 ?_
  first|refine z0 (S0 ?_)|skip
  refine z0 (wpAny_sequenceKey ht.typeIs (by decide) ?_);refine z0 (O7 (name:=Str.ofString "__getitem__") ht.typeIs B5
   (J9 B5 ht.typeIs entry_tuple_getitem ?_ (args_tuple_getitem _ _)))
  show wpAny _ _ (Builtin.Tuple.tupleItemsOf (.ref t)>>=_) _ _ s;refine z0 (tupleItemsOf_ ht ?_);refine z0 (PN hTs ?_);rw[J0 (by decide)];refine z0 (CI hs pl pu ?_);have hno:¬((((sIx items.size 0 lo:Nat):Int)==0&&(1:Int)==1&&(sIx items.size items.size hi-sIx items.size 0 lo)==items.size)=true):=by
   grind
  show wpAny _ _ (if (((sIx items.size 0 lo:Nat):Int)==0&&(1:Int)==1&&(sIx items.size items.size hi-sIx items.size 0 lo)==items.size)=true then _ else _) _ _ s;rw[D0 hno,Pu]
  first
   |exact z0 (m:=Builtin.Tuple.tupleExact _) (N5 (S0 ⟨_,rfl,S0 h⟩) Ap)
   |exact z0 (m:=Builtin.Tuple.tupleExact _) (N5 (z0 (S0 (S0 ⟨_,rfl,S0 h⟩))) Ap)
   |exact z0 (z0 (m:=Builtin.Tuple.tupleExact _) (N5 (S0 (S0 ⟨_,rfl,S0 h⟩)) Ap))
   |exact z0 (z0 (m:=Builtin.Tuple.tupleExact _) (N5 (S0 ⟨_,rfl,S0 h⟩) Ap))
end
end HT
namespace L2
open PySem PySem.Spec PyProof.Rows
abbrev TO:=St->Hp->(Option Int->Hp->Prop)->Prop
def PO(X:Cx)(e:Option Expr)(t:TO):Prop:=
 ∀(pins:List (Addr×Obj))(s:Shared)(σ:St)(H:Hp)(Q:Option Int->Hp->Prop),V2 X pins σ H s->t σ H Q->
  wpAny (model X.prog X.w) X.A (evalPart e X.env) (λu s'=>∃o H',V2 X pins σ H' s'/\IsPart u o/\Q o H') X.xe s
def zax:TO:=λ_ H Q=>Q none H
inductive Qu(Q:Option Int->Hp->Prop)(x:V)(H1:Hp):Prop
 |mk (i:_):x=.int i->Q (some i) H1->Qu Q x H1
def zfn(t:TE):TO:=λσ H Q=>t σ H (Qu Q)
theorem yJ{ns:List Int}:∀{us:List Value},D4 (ns.map V.int) us->IntsAre us ns:=by
 induction ns with
 |nil=>intro us r;rw[RD]at r;cases r;exact .nil
 |cons n ns ih=>
  intro us r;rw[L3]at r;cases r with
  |cons r1 r2=>
   obtain⟨t,e⟩:=r1;subst e;exact .cons n t (ih r2)
section
variable {X:Cx}{e:Expr}{te:TE}{lo hi:Option Expr}{tl th:TO}{pos p2:Pos}
theorem ES:PO X none zax:=by
 intro pins s σ H Q I h;rw[evalPart_none];exact S0 ⟨none,H,I,.none,h⟩
theorem FS(h:PE X e te):PO X (some e) (zfn te):=by
 intro pins s σ H Q I hw;rw[evalPart_some];refine n8 (h pins s σ H _ I hw) λu s1 ⟨x,H1,I1,r1,q1⟩=>?_;obtain⟨i,rfl,q⟩:=q1;obtain⟨t,rfl⟩:=r1;exact⟨some i,H1,I1,.int i t,q⟩
def SlR(X:Cx)(r:V->Option Int->Option Int->Hp->VK->Prop):Prop:=
 ∀(pins:List (Addr×Obj))(s:Shared)(σ:St)(H:Hp)(x:V)(v vl vu:Value)(lo hi:Option Int)(sl:Addr)(Q:VK),V2 X pins σ H s->T4 x v->s.heap.IsSliceOf sl vl vu .none->IsPart vl lo->IsPart vu hi->r x lo hi H Q->
  ∃T id,typeLookup (.type T) "__getitem__"= pure (some (.builtin id))/\s.TypeIs v T/\wpAny (model X.prog X.w) X.A (getItem v (.ref sl)) (EP X pins σ Q) X.xe s
def tSl(r:V->Option Int->Option Int->Hp->VK->Prop)(te:TE)(tl th:TO):TE:=λσ H Q=>te σ H λx H1=>tl σ H1 λl H2=>th σ H2 λu H3=>r x l u H3 Q
theorem QN{r:V->Option Int->Option Int->Hp->VK->Prop}(hr:SlR X r) (he:PE X e te) (hl:PO X lo tl) (hu:PO X hi th):PE X (.Subscript e (.Slice lo hi none p2) pos) (tSl r te tl th):=by
 intro pins s σ H Q I h;refine Subscript_ (n8 (he pins s σ H _ I h) λv s1 ⟨x,H1,I1,r1,q1⟩=>?_);refine wpAny_Slice (n8 (hl pins s1 σ H1 _ I1 q1) λvl s2 ⟨l,H2,I2,pl,q2⟩=>n8 (hu pins s2 σ H2 _ I2 q2) λvu s3 ⟨u,H3,I3,pu,q3⟩=>?_);rw[evalPart_none];refine S0 ?_;have I4:V2 X pins σ H3 {s3 with heap:=s3.heap.push {cls:=.type "slice",data:=.fields #[vl,vu,.none]}}:=I3.kept (t':=s3.toks) λb ob q=>V0 _ q;obtain⟨T,id,hT,ht,hg⟩:=hr pins {s3 with heap:=s3.heap.push {cls:=.type "slice",data:=.fields #[vl,vu,.none]}} σ H3 x v vl vu l u s3.heap.objs.size Q I4 r1 (Heap.IsSliceOf.new ..) pl pu q3;show wpAny (model X.prog X.w) X.A (subscriptTail e (.Slice lo hi none p2) v (.ref s3.heap.objs.size)) (EP X pins σ Q) X.xe {s3 with heap:=s3.heap.push {cls:=.type "slice",data:=.fields #[vl,vu,.none]}};exact tail_any (ops:=[.ref s3.heap.objs.size,v]) ht hT hg (by with_unfolding_all rfl)
def vM(xs:List V)(lo hi:Option Int):List V:=(xs.drop (HT.sIx xs.length 0 lo)).take (HT.sIx xs.length xs.length hi-HT.sIx xs.length 0 lo)
theorem NQ(xs:List V)(lo hi:Option Int):(vM xs lo hi).length<=xs.length:=by
 unfold vM;rw[Z1,pC]
 lia
inductive zfo(K:Frag)(x:V)(lo:Option Int)(hi:Option Int)(H:Hp)(Q:VK):Prop
 |mk (a xs:_):x=.ref a->eA K H a xs->(¬(HT.sIx xs.length 0 lo=0/\HT.sIx xs.length xs.length hi=xs.length))->(∀p,H p=none->Q (.ref p) (upd H p (.tup (vM xs lo hi))))->zfo K x lo hi H Q
theorem zc6:SlR X (zfo X.K):=by
 intro pins s σ H x v vl vu lo hi sl Q I rx hs pl pu h;obtain⟨a,xs,rfl,hx,hw,q⟩:=h;cases rx;obtain⟨its,r,ht,hz⟩:=I.tuple hx;have LC:its.toArray.size=xs.length:=by rw[K1];exact r.length.symm
 refine⟨"tuple",_,B5.lookup,ht.typeIs,?_⟩;refine HT.getItem_tuple_cut ht hs pl pu (by rw[LC];exact hw) ?_ (by rw[LC];exact hz);rw[LC];refine⟨.ref s.heap.objs.size,_,I.laid (t':=s.toks) (o:=.tup (vM xs lo hi)) (λb ob q=>V0 _ q) (j1 _) ?_,rfl,q _ (I.hok.fresh (j1 _))⟩;exact⟨k4 (NQ xs lo hi) hz,_,(r.drop (HT.sIx xs.length 0 lo)).take (HT.sIx xs.length xs.length hi-HT.sIx xs.length 0 lo),IsTup.new _ _⟩
theorem D4.nil_iff{xs:List V}{us:List Value}(r:D4 xs us):us=[]↔xs=[]:=by
 cases r<;>grind
end
end L2
namespace L2
open PySem PySem.Spec PyProof.Rows
variable {p:Addr}{A:Around}{H:Hp}{i:Int}{pins:List (Addr×Obj)}{xs:List V}{n j:Nat}{s:Shared}{σ:St}{T:String}{α:Type}{y x:V}{u v:Value}
def Ru(n:Nat)(i:Int):Option Nat:=if 0<=i then(if i<n then some i.toNat else none)else if -(n:Int)<=i then some (i+n).toNat else none
def At{α:Type}(xs:List α) (i:Int):Option α:=(Ru xs.length i).bind λj=>xs[j]?
theorem Tl(h:Ru n i=some j):seqIndex? i n=some j/\j<n/\-(n:Int)<=i/\i<n:=by
 unfold Ru at h;by_cases h0:0<=i
 .rw[J0 h0]at h;by_cases h1:i<n
  .rw[J0 h1]at h;have e:i.toNat=j:=M0 h;exact⟨by rw[seqIndex_of h0 h1,e],by lia,by lia,h1⟩
  all_goals grind
 .rw[D0 h0]at h;by_cases h1:-(n:Int)<=i
  .rw[J0 h1]at h;have e:(i+n).toNat=j:=M0 h;exact⟨by rw[RN (by lia) h1,e],by lia,h1,by lia⟩
  all_goals grind
theorem rY{xs:List α}{v:α}(h:At xs i=some v):∃j,seqIndex? i xs.length=some j/\xs[j]?=some v/\j<xs.length/\-(xs.length:Int)<=i/\i<xs.length:=by
 unfold At at h;cases e:Ru xs.length i with
 |none=>rw[e]at h;cases h
 |some j=>
  rw[e]at h;obtain⟨h1,h2,h3,h4⟩:=Tl e;exact⟨j,h1,h,h2,h3,h4⟩
theorem X5{xs:List α}{v:α}(h:xs[j]?=some v):At xs (j:Int)=some v:=by
 have hj:j<xs.length:=(P0.mp h).1;have e:Ru xs.length (j:Int)=some j:=by
  unfold Ru;rw[J0 (by lia),J0 (by lia)];simp
 unfold At;rw[e];exact h
theorem SN(xs:List α)(v:α):At (xs++[v]) (-1)=some v:=by
 have hl:(xs++[v]).length=xs.length+1:=by simp
 have e:Ru (xs++[v]).length (-1)=some xs.length:=by
  unfold Ru;rw[hl,D0 (by decide),J0 (by lia)];congr 1
  lia
 unfold At;grind
def zay(b:Expr):Prop:=∀o i,subscripted b false o i=operate [o,i] (getItem o i)
def IxR(X:Cx)(r:R2):Prop:=
 ∀(XC SM:Expr)(pins:List (Addr×Obj))(s:Shared)(σ:St)(H:Hp)(x y:V)(v u:Value)(Q:VK),V2 X pins σ H s->T4 x v->T4 y u->r x y H Q->
  subscripted SM false v u=operate [v,u] (getItem v u)->wpAny (model X.prog X.w) X.A (subscriptTail XC SM v u) (EP X pins σ Q) X.xe s
def MtR(X:Cx)(id:String)(r:V->List V->Hp->VK->Prop):Prop:=
 ∀(pins:List (Addr×Obj))(s:Shared)(σ:St)(H:Hp)(x:V)(xs:List V)(v:Value)(us:List Value)(Q:VK),V2 X pins σ H s->T4 x v->D4 xs us->r x xs H Q->
  wpAny (model X.prog X.w) X.A (call (.builtin id) (v::us)) (EP X pins σ Q) X.xe s
section
variable {X:Cx}{a b:Expr}{ta tb:TE}{pos:Pos}
theorem P7{r:R2}(hr:IxR X r) (ha:PE X a ta) (hb:PE X b tb) (hs:zay b):PE X (.Subscript a b pos) (tOp r ta tb):=by
 intro pins s σ H Q I h;exact Subscript_ (zc0 ha hb I h λv u s2 x y H2 I2 rx ry q=>hr a b pins s2 σ H2 x y v u Q I2 rx ry q (hs _ _))
inductive zc7(K:Frag)(x:V)(y:V)(H:Hp)(Q:VK):Prop
 |mk (p xs i v:_):x=.ref p->y=.int i->SqL K H p xs->At xs i=some v->Q v H->zc7 K x y H Q
inductive zc8(K:Frag)(x:V)(y:V)(H:Hp)(Q:VK):Prop
 |mk (p xs i v:_):x=.ref p->y=.int i->eA K H p xs->At xs i=some v->Q v H->zc8 K x y H Q
inductive zfp(x:V)(y:V)(H:Hp)(Q:VK):Prop
 |mk (z i c:_):x=.str z->y=.int i->z.length<=sizeLine->At z.cps.toList i=some c->Q (.str ⟨#[c]⟩) H->zfp x y H Q
theorem B7:IxR X (zc7 X.K):=by
 intro XC SM pins s σ H x y v u Q I rx ry h hs;obtain⟨p,xs,i,z,rfl,rfl,hq,he,q⟩:=h;cases rx;obtain⟨t,rfl⟩:=ry;obtain⟨its,r,pl,hz⟩:=I.list hq;obtain⟨j,h1,h2,h3,h4,h5⟩:=rY he;obtain⟨w,ew,WZ⟩:=r.get h2;have hl:=r.length;have hn:=bT;have fin:EP X pins σ Q w s:=⟨z,H,I,WZ,q⟩
 by_cases h0:0<=i
 .have hj:i.toNat=j:=by
   rw[seqIndex_of h0 h5]at h1;exact M0 h1
  exact item_listR pl.isList h0 (by lia) (by rw[hj];simpa using ew) fin hs
 .have hj:(i+(its.toArray.size:Int)).toNat=j:=by
   rw[RN (by lia) h4]at h1;grind
  exact subscriptTail_builtinR (x:=w) pl.isList.typeIs slot_list_getitem.lookup
   (wpAny_getItem_list_neg (Q:=λr s'=>r=w/\EP X pins σ Q r s') pl.isList (by lia) (by rw[K1]<;>lia) (by lia) (by rw[hj];simpa using ew) ⟨rfl,fin⟩) hs
theorem eD:IxR X (zc8 X.K):=by
 intro XC SM pins s σ H x y v u Q I rx ry h hs;obtain⟨p,xs,i,z,rfl,rfl,hq,he,q⟩:=h;cases rx;obtain⟨t,rfl⟩:=ry;obtain⟨its,r,pl,hz⟩:=I.tuple hq;obtain⟨j,h1,h2,h3,h4,h5⟩:=rY he;obtain⟨w,ew,WZ⟩:=r.get h2;have hl:=r.length;have hn:=bT;have fin:EP X pins σ Q w s:=⟨z,H,I,WZ,q⟩
 exact subscriptTail_builtinR (x:=w) pl.typeIs slot_tuple_getitem.lookup
  (getItem_tuple (j:=j) (Q:=λr s'=>r=w/\EP X pins σ Q r s') pl (by lia) (by lia) (by rw[K1,<-hl];exact h1) (by simpa using ew) ⟨rfl,fin⟩) hs
theorem zc9:IxR X zfp:=by
 intro XC SM pins s σ H x y v u Q I rx ry h hs;obtain⟨z,i,c,rfl,rfl,hz,he,q⟩:=h;obtain⟨t,rfl⟩:=rx;obtain⟨t',rfl⟩:=ry;obtain⟨j,h1,h2,h3,h4,h5⟩:=rY he;have hl:z.cps.toList.length=z.length:=by simp[Str.length]
 rw[hl]at h1 h4 h5;have hn:=bT;exact tail_any (typeIs_str s z t) slot_str_getitem.lookup (getItem_str (c:=c) (by
  have e1:decide (i < -(2^63:Int))=false:=Y0 (by lia);have e2:decide (i≥2^63)=false:=Y0 (by lia);rw[e1,e2,NH]) (by rw[h1];simpa using h2) ⟨.str ⟨#[c]⟩,H,I.tok _,⟨_,rfl⟩,q⟩) hs
theorem Kh(its:List Value)(n j:Nat)(u:Value):Obj.mapSeq (·.setIfInBounds j u) {cls:=.type "list",data:=.seq its.toArray n}={cls:=.type "list",data:=.seq (its.set j u).toArray n}:=by
 simp[Obj.mapSeq]
theorem V2.lst(I:V2 X pins σ H s)(h:H p=some (.lst xs)) :
  ∃(its:List Value)(n:Nat),D4 xs its/\s.heap.get? p=some {cls:=.type "list",data:=.seq its.toArray n}/\xs.length<=sizeLine:=by
 obtain⟨z,its,n,r,e⟩:=I.hok p _ h;exact⟨its,n,r,e,z⟩
theorem V2.lstUpd{ys:List V}{its its':List Value}{n':Nat}{f:Obj->Obj}(I:V2 X pins σ H s) (h:H p=some (.lst xs))
 (ho:s.heap.get? p=some {cls:=.type "list",data:=.seq its.toArray n}) (hf:f {cls:=.type "list",data:=.seq its.toArray n}={cls:=.type "list",data:=.seq its'.toArray n'}) (r:D4 ys its') (hz:ys.length<=sizeLine) (t:Nat) :
   V2 X pins σ (upd H p (.lst ys)) {s with heap:=s.heap.update p f,toks:=t}:=by
  have e:(s.heap.update p f).get? p=some {cls:=.type "list",data:=.seq its'.toArray n'}:=by
   rw[DB f ho (by rw[hf]<;>rfl),hf]
  refine I.write (x:=p) (e:=p) (by rw[h];trivial) (.inl rfl) (λb u hb q=>(Q5 _ _ (N2 hb)).trans q) ⟨_,e⟩ ?_;exact⟨hz,its',n',r,e⟩
inductive zbW(o:V)(i:V)(v:V)(H:Hp)(Q:Hp->Prop):Prop
 |mk (p xs k j:_):o=.ref p->i=.int k->H p=some (.lst xs)->Ru xs.length k=some j->Q (upd H p (.lst (xs.set j v)))->zbW o i v H Q
theorem Ma:zfd X zbW:=by
 intro pins s σ H o i v ov iv u Q I ro ri rv h;obtain⟨p,xs,k,j,rfl,rfl,hp,hj,q⟩:=h;cases ro;obtain⟨t,rfl⟩:=ri;obtain⟨its,n,r,ho,hz⟩:=I.lst hp;obtain⟨h1,h2,h3,h4⟩:=Tl hj;have hl:=r.length;have hn:=bT;have I':V2 X pins σ (upd H p (.lst (xs.set j v))) {s with heap:=s.heap.update p (Obj.mapSeq (·.setIfInBounds j u))}:=
  I.lstUpd hp ho (Kh its n j u) (r.set rv j) (by rw[oB];exact hz) s.toks
 by_cases h0:0<=k
 .have hk:k.toNat=j:=by
   rw[seqIndex_of h0 h4]at h1;exact M0 h1
  exact PySem.W.ki_setAt ho h0 (by lia) (by rw[K1,<-hl];exact h4) (by rw[hk];exact⟨_,I',q⟩)
 .have hk:(k+(its.toArray.size:Int)).toNat=j:=by
   rw[RN (by lia) h3]at h1;grind
  exact PySem.W.ki_setBack ho (by lia) (by rw[K1,<-hl];exact h3) (by lia) (by rw[hk];exact⟨_,I',q⟩)
theorem sY(lo hi:Option Int)(n:Nat):(sliceBounds lo hi none n).1=((HT.sIx n 0 lo:Nat):Int)/\(sliceBounds lo hi none n).2.1=(HT.sIx n n hi:Int)/\(sliceBounds lo hi none n).2.2=1:=by
 refine⟨?_,?_,rfl⟩
 .cases lo with
  |none=>simp[sliceBounds,HT.sIx]
  |some i=>
   simp only[sliceBounds,HT.sIx,Option.getD_none,show(1:Int)>0 by decide,cG];by_cases h:i<0
   .simp only[h,cG]<;>lia
   .simp only[h,N7]<;>lia
 .cases hi with
  |none=>simp[sliceBounds,HT.sIx]
  |some i=>
   simp only[sliceBounds,HT.sIx,Option.getD_none,show(1:Int)>0 by decide,cG];by_cases h:i<0
   .simp only[h,cG]<;>lia
   .simp only[h,N7]<;>lia
theorem TV(its:List Value)(lo hi:Option Int):slicePick its.toArray lo hi none=((its.drop (HT.sIx its.length 0 lo)).take (HT.sIx its.length its.length hi-HT.sIx its.length 0 lo)).toArray:=by
 obtain⟨h1,h2,h3⟩:=sY lo hi its.toArray.size;unfold slicePick;rw[h1,h2,h3];simp only[sliceRange_one,pick_run,K1]<;>rfl
inductive zfq(K:Frag)(x:V)(lo:Option Int)(hi:Option Int)(H:Hp)(Q:VK):Prop
 |mk (a xs:_):x=.ref a->SqL K H a xs->(∀p,H p=none->Q (.ref p) (upd H p (.lst (vM xs lo hi))))->zfq K x lo hi H Q
theorem tY:SlR X (zfq X.K):=by
 intro pins s σ H x v vl vu lo hi sl Q I rx hs pl pu h;obtain⟨a,xs,rfl,hx,q⟩:=h;cases rx;obtain⟨its,r,ht,hz⟩:=I.list hx;have LC:=r.length;refine⟨"list",_,slot_list_getitem.lookup,ht.isList.typeIs,?_⟩;refine wpAny_getItem_list_slice ht.isList hs pl pu .none (by simp) ?_ (by rw[K1]<;>lia);rw[TV,<-LC];refine⟨.ref s.heap.objs.size,_,I.laid (t':=s.toks) (o:=.lst (vM xs lo hi)) (λb ob q=>V0 _ q) (j1 _) ?_,rfl,q _ (I.hok.fresh (j1 _))⟩;exact⟨k4 (NQ xs lo hi) hz,_,0,(r.drop (HT.sIx xs.length 0 lo)).take (HT.sIx xs.length xs.length hi-HT.sIx xs.length 0 lo),V1 _ rfl⟩
def DI:V->Bool
 |.non=>true
 |.bl _=>true
 |.int _=>true
 |.str _=>true
 |_=>false
def eqV:V->V->Bool
 |.non,.non=>true
 |.bl a,.bl b=>a==b
 |.bl a,.int b=>(if a then 1 else 0)==b
 |.int a,.bl b=>a==(if b then 1 else 0)
 |.int a,.int b=>a==b
 |.str a,.str b=>a==b
 |_,_=>false
theorem zda(ry:T4 y u)(rx:T4 x v)(fy:DI y=true)(fx:DI x=true):SeqAt.EqAt A s u v (eqV y x):=by
 cases y with
 |non=>
  cases ry;cases x with
  |non=>cases rx;exact SeqAt.EqAt.same _
  |bl b=>cases rx;exact SeqAt.EqAt.none_bool b
  |int b=>obtain⟨t,rfl⟩:=rx;exact SeqAt.EqAt.none_int b t
  |str b=>obtain⟨t,rfl⟩:=rx;exact SeqAt.EqAt.none_str b t
  |_=>exact absurd (show false=true from fx) X1
 |bl a=>
  cases ry;cases x with
  |non=>cases rx;exact SeqAt.EqAt.bool_none a
  |bl b=>cases rx;exact SeqAt.EqAt.bool_bool a b
  |int b=>obtain⟨t,rfl⟩:=rx;exact SeqAt.EqAt.bool_int a b t
  |str b=>obtain⟨t,rfl⟩:=rx;exact SeqAt.EqAt.bool_str a b t
  |_=>exact absurd (show false=true from fx) X1
 |int a=>
  obtain⟨t',rfl⟩:=ry;cases x with
  |non=>cases rx;exact SeqAt.EqAt.int_none a t'
  |bl b=>cases rx;exact SeqAt.EqAt.int_bool a t' b
  |int b=>obtain⟨t,rfl⟩:=rx;exact DG a t' b t
  |str b=>obtain⟨t,rfl⟩:=rx;exact SeqAt.EqAt.int_str a t' b t
  |_=>exact absurd (show false=true from fx) X1
 |str a=>
  obtain⟨t',rfl⟩:=ry;cases x with
  |non=>cases rx;exact SeqAt.EqAt.str_none a t'
  |bl b=>cases rx;exact SeqAt.EqAt.str_bool a t' b
  |int b=>obtain⟨t,rfl⟩:=rx;exact SeqAt.EqAt.str_int a t' b t
  |str b=>obtain⟨t,rfl⟩:=rx;exact SeqAt.EqAt.str_str a t' b t
  |_=>exact absurd (show false=true from fx) X1
 |_=>exact absurd (show false=true from fy) X1
def eqU(x:V)(u:Value):Bool:=match u with
 |.none=>eqV .non x
 |.bool b=>eqV (.bl b) x
 |.int i _=>eqV (.int i) x
 |.str z _=>eqV (.str z) x
 |_=>false
theorem uY(r:T4 y u)(f:DI y=true):eqU x u=eqV y x:=by
 cases y with
 |non=>cases r;rfl
 |bl b=>cases r;rfl
 |int i=>obtain⟨t,rfl⟩:=r;rfl
 |str z=>obtain⟨t,rfl⟩:=r;rfl
 |_=>exact absurd (show false=true from f) X1
theorem vY{x:V}:∀{xs:List V}{us:List Value},D4 xs us->xs.all DI=true->us.any (eqU x)=xs.any λy=>eqV y x
 |_,_,.nil,_=>rfl
 |y::xs,u::us,.cons r t,f=>by
  rw[S8,E1]at f;rw[T8,T8,uY r f.1,vY t f.2]
theorem TN{A:Around}{s:Shared}{x:V}{v:Value}(rx:T4 x v) (fx:DI x=true):∀{xs:List V}{us:List Value},D4 xs us->xs.all DI=true->∀u∈us,SeqAt.EqAt A s u v (eqU x u)
 |_,_,.nil,_=>λu hu=>by cases hu
 |y::xs,u::us,.cons r t,f=>λu' hu=>by
  rw[S8,E1]at f;rcases S1.mp hu with rfl|hu
  .rw[uY r f.1];exact zda r rx f.1 fx
  .exact TN rx fx t f.2 u' hu
def inV(x:V)(xs:List V):Bool:=xs.any λy=>eqV y x
inductive rIn(K:Frag)(neg:Bool)(x:V)(y:V)(H:Hp)(Q:VK):Prop
 |mk (p xs:_):y=.ref p->(SqL K H p xs\/eA K H p xs)->DI x=true->xs.all DI=true->Q (.bl (if neg then !inV x xs else inV x xs)) H->rIn K neg x y H Q
theorem Pp:vJ X (compareOp .In) (rIn X.K false):=by
 intro pins s σ H x y v u Q I rx ry h;obtain⟨p,xs,rfl,hq,fx,fs,q⟩:=h;cases ry;rcases hq with hq|hq
 .obtain⟨its,r,pl,hz⟩:=I.list hq;refine SeqAt.in_listAt (eqU x) pl.isList (λw hw=>TN rx fx r fs w (by simpa using hw)) ⟨.bl _,H,I,rfl,?_⟩;rw[show its.toArray.any (eqU x)=its.any (eqU x) by simp,vY r fs];exact q
 .obtain⟨its,r,pl,hz⟩:=I.tuple hq;refine SeqAt.in_tupleAt (eqU x) pl (λw hw=>TN rx fx r fs w (by simpa using hw)) ⟨.bl _,H,I,rfl,?_⟩;rw[show its.toArray.any (eqU x)=its.any (eqU x) by simp,vY r fs];exact q
theorem UN:EM X (.builtin "len") (λxs H Q=>∃p ys,xs=[.ref p]/\(SqL X.K H p ys\/eA X.K H p ys)/\Q (.int ys.length) H):=by
 intro pins s σ H xs us Q I r h;obtain⟨p,ys,rfl,hq,q⟩:=h;obtain⟨u,rfl,rx⟩:=Ku r;cases rx;have hn:=bT;rcases hq with hq|hq
 .obtain⟨its,r',pl,hz⟩:=I.list hq;have LC:=r'.length;exact Calls.call_len_list pl.isList (by simp only[K1]<;>lia) ⟨.int ys.length,H,I.tok _,⟨s.toks+1,by rw[K1,LC]⟩,q⟩
 .obtain⟨its,r',pl,hz⟩:=I.tuple hq;have LC:=r'.length;exact len_tuple pl (by simp only[K1]<;>lia) ⟨.int ys.length,H,I.tok _,⟨s.toks+1,by rw[K1,LC]⟩,q⟩
theorem UV:EM X (.type "tuple") (λxs H Q=>∃p ys,xs=[.ref p]/\((SqL X.K H p ys/\∀l,H l=none->Q (.ref l) (upd H l (.tup ys)))\/(eA X.K H p ys/\Q (.ref p) H))):=by
 intro pins s σ H xs us Q I r h;obtain⟨p,ys,rfl,h⟩:=h;obtain⟨u,rfl,rx⟩:=Ku r;cases rx;rcases h with⟨hq,q⟩|⟨hq,q⟩
 .obtain⟨its,r',pl,hz⟩:=I.list hq;have LC:=r'.length;refine call_tuple_list pl.isList (λh' kp=>?_) (by simp only[K1]<;>lia);have I1:V2 X pins σ H {s with heap:=h'}:=I.kept (t':=s.toks) kp;have I2:V2 X pins σ (upd H h'.objs.size (.tup ys)) {s with heap:=h'.push {cls:=.type "tuple",data:=.seq its.toArray}}:=
   I1.laid (t':=s.toks) (λb o e=>V0 _ e) (j1 _) (show u9 X.prog X.w _ _ _ (.tup ys)from⟨hz,its,r',IsTup.new _ _⟩)
  exact⟨.ref h'.objs.size,_,I2,rfl,q _ (I1.hok.fresh (j1 _))⟩
 .obtain⟨its,r',pl,hz⟩:=I.tuple hq;exact call_tuple_same pl ⟨.ref p,H,I,rfl,q⟩
def tyV(K:Frag)(T:String)(x:V)(H:Hp):Prop:=match x with
 |.str _=>T = "str"
 |.int _=>T = "int"
 |.ref p=>(T = "list" /\ ∃xs,SqL K H p xs)\/(T = "tuple" /\ ∃o,K.lookup p=some o/\o.cls=.type "tuple" /\ o.dict=none)\/
   (T = "dict" /\ ((∃kvs,H p=some (.dK kvs))\/∃kvs,H p=some (.dT kvs)))\/(T = "set" /\ ∃S n,H p=some (.set S n))
 |_=>False
theorem zdb(I:V2 X pins σ H s)(r:T4 x v)(ty:tyV X.K T x H) :
  s.TypeIs v T/\∀a,v=.ref a->∃ob,s.heap.get? a=some ob/\ob.dict=none:=by
 cases x with
 |str z=>
  obtain⟨t,rfl⟩:=r;cases (show T = "str" from ty);exact⟨typeIs_str s z t,λ_ e=>nomatch e⟩
 |int i=>
  obtain⟨t,rfl⟩:=r;cases (show T = "int" from ty);exact⟨VM s i t,λ_ e=>nomatch e⟩
 |ref p=>
  cases r;rcases ty with⟨rfl,xs,hq⟩|⟨rfl,o,hk,hc,hd⟩|⟨rfl,hk⟩|⟨rfl,S,n,hk⟩
  .obtain⟨its,_,pl,_⟩:=I.list hq;refine⟨pl.isList.typeIs,λa e=>?_⟩;cases e;obtain⟨o,n,e,c,hd,_⟩:=pl;grind
  .refine⟨⟨o,I.kIn p o hk,hc⟩,λa e=>?_⟩;cases e;exact⟨o,I.kIn _ o hk,hd⟩
  .have z:∃o,s.heap.get? p=some o/\o.ExactDict:=by
    rcases hk with⟨kvs,hk⟩|⟨kvs,hk⟩
    .obtain⟨_,_,_,_,o,_,_,e,ex,_⟩:=I.hok p _ hk;grind
    .obtain⟨_,_,_,_,o,_,_,e,ex,_⟩:=I.hok p _ hk;grind
   obtain⟨o,e,ex⟩:=z;refine⟨⟨o,e,ex.1⟩,λa e2=>?_⟩;cases e2;exact⟨o,e,ex.2.1⟩
  .obtain⟨o,_,_,_,e,ex,_⟩:=I.hok p _ hk;refine⟨⟨o,e,ex.1⟩,λa e2=>?_⟩;cases e2;exact⟨o,e,ex.2.1⟩
 |_=>exact False.elim ty
def tBM(K:Frag)(T:String)(r:V->List V->Hp->VK->Prop)(to:TE)(t:TA):TE:=λσ H Q=>to σ H λx H1=>tyV K T x H1/\t σ H1 λxs H2=>r x xs H2 Q
variable {o e:Expr}{es:List Expr}{to:TE}{t:TA}{name:Str}{yE QF:Pos}{id:String}{r:V->List V->Hp->VK->Prop}
theorem BD(pa:PlainAttrs T)(slot:Slot T name id)(hty:typeOf (.builtin id)=pure (.type "method_descriptor"))(hm:MtR X id r)(ho:PE X o to)(ha:PA X (e::es) t)
 (Jg:attributeBase o name X.env (eval o X.env)=eval o X.env:=by rfl)
 (zee:((backTo QF (starEach (e::es) X.env)).all (λx=>!x.1)&&(backToKw QF (keywordEach [] X.env)).all (λx=>x.1.isSome)
 && decide ((e::es).length+([]:List Keyword).length+(if ([]:List Keyword).isEmpty then 0 else 1)<30))=true:=by rfl)
 (TM:(yE.endLine==QF.line)=true:=by rfl) (hs:starEach (e::es) X.env=(false,eval e X.env)::starEach es X.env:=by rfl) (Wk:(backTo QF (starEach es X.env)).any (·.1)=false:=by rfl) :
   PE X (.Call (.Attribute o name yE) (e::es) [] QF) (tBM X.K T r to t):=by
  intro pins s σ H Q I h;refine wpAny_Call_method_late Jg zee TM rfl (n8 (ho pins s σ H _ I h) λv s1 ⟨x,H1,I1,r1,ty,q1⟩=>?_);obtain⟨h1,h2⟩:=zdb I1 r1 ty;refine⟨T,id,pa,slot,hty,h1,h2,?_⟩;have hA:=ha QF pins s1 σ H1 _ I1 q1;rw[hs]at hA ⊢;refine gB (by show(false||(backTo QF (starEach es X.env)).any (·.1))=false;rw[Wk]<;>rfl) (mF ?_);exact n8 hA λus s2 ⟨vs,H2,I2,r2,q2⟩=>hm pins s2 σ H2 x vs v us Q I2 r1 r2 q2
end
end L2
namespace L2
open PySem PySem.Spec PyProof.Rows
variable {X:Cx}{xs:List V}{its:List Value}{n t':Nat}{s:Shared}
def MtM(X:Cx)(id:String)(r:V->List V->Hp->VK->Prop):Prop:=
 ∀(pins:List (Addr×Obj))(s:Shared)(σ:St)(H:Hp)(x:V)(xs:List V)(v:Value)(us:List Value)(Q:VK),V2 X pins σ H s->T4 x v->D4 xs us->r x xs H Q->
  wpAny (model X.prog X.w) X.A (call (.builtin id) (v::us)) (EP X pins σ Q) X.xe s
theorem D4.one:∀{x:V}{us:List Value},D4 [x] us->∃u,us=[u]/\T4 x u
 |_,_,.cons r .nil=>⟨_,rfl,r⟩
theorem D4.rep{us:List Value}(h:D4 xs us):∀k:Nat,D4 (List.replicate k xs).flatten (List.replicate k us).flatten
 |0=>.nil
 |k+1=>by
  rw[HA,HA,SD,SD];exact D4.append h (D4.rep h k)
theorem SW(its:List Value):∀(k:Nat)(acc:List Value),
  List.foldl (λx1 x2=>x1++x2) acc.toArray (List.replicate k its.toArray)=(acc++(List.replicate k its).flatten).toArray
 |0,acc=>by simp
 |k+1,acc=>by
  have e:acc.toArray++its.toArray=(acc++its).toArray:=by simp
  have e2:(acc++its)++(List.replicate k its).flatten=acc++(List.replicate (k+1) its).flatten:=by
   rw[HA,SD,b9]
  rw[<-e2,<-SW its k (acc++its),<-e,HA,h9]
section
variable {pins:List (Addr×Obj)}{σ:St}{H:Hp}{l b:Addr}{ys zs:List V}
theorem V2.lset{its':List Value}{f:Array Value->Array Value}(I:V2 X pins σ H s) (hH:H l=some (.lst xs))
 (e:s.heap.get? l=some {cls:=.type "list",data:=.seq its.toArray n}) (hf:f its.toArray=its'.toArray) (hv:D4 ys its') (hz:ys.length<=sizeLine) :
   V2 X pins σ (upd H l (.lst ys)) {s with heap:=s.heap.update l (Obj.mapSeq f),toks:=t'}:=by
  have q:=PySem.IsL.update e f;rw[hf]at q;refine I.write (x:=l) (e:=l) (by rw[hH];exact trivial) (.inl rfl) (λb' u hb hu=>(Q5 s.heap (Obj.mapSeq f) (N2 hb)).trans hu) ⟨_,q⟩ ?_;exact⟨hz,its',_,hv,q⟩
theorem V2.lnew(I:V2 X pins σ H s)(hv:D4 ys its)(hz:ys.length<=sizeLine) :
  V2 X pins σ (upd H s.heap.objs.size (.lst ys)) {s with heap:=s.heap.push {cls:=.type "list",data:=.seq its.toArray},toks:=t'}:=
 I.laid (λ_ _ q=>V0 _ q) (j1 _) ⟨hz,its,0,hv,V1 _ rfl⟩
theorem V2.fresh(I:V2 X pins σ H s):H s.heap.objs.size=none:=I.hok.fresh (j1 _)
theorem V2.lstM(I:V2 X pins σ H s)(hH:H l=some (.lst xs)):xs.length<=sizeLine/\∃(its:List Value)(n:Nat),D4 xs its/\xs.length=its.length/\s.heap.get? l=some {cls:=.type "list",data:=.seq its.toArray n}:=by
 obtain⟨z,its,n,r,e⟩:=I.hok l _ hH;exact⟨z,its,n,r,r.length,e⟩
theorem Na(h:n<=sizeLine):Builtin.List.listTooLong n=false:=by
 grind [Builtin.List.listTooLong]
end
inductive Ul(x:V)(vs:List V)(H:Hp)(Q:VK):Prop
 |mk (l xs y:_):x=.ref l->vs=[y]->H l=some (.lst xs)->xs.length<sizeLine->Q .non (upd H l (.lst (xs++[y])))->Ul x vs H Q
theorem K9:MtM X "list.append" Ul:=by
 intro pins s σ H x vs v us Q I rx rv h;obtain⟨l,xs,y,rfl,rfl,hH,hz,q⟩:=h;cases rx;obtain⟨u,rfl,ru⟩:=rv.one;obtain⟨z,its,n,r,hl,e⟩:=I.lstM hH;refine AJ F.slot_list_append ⟨_,e,rfl⟩ F.entry_list_append (F.args_list_append_2 _ _) (PySem.list_append l its.toArray n u (by rw[K1];lia)) ⟨e,?_⟩;refine⟨.non,_,I.lset (its':=its++[u]) hH e (by simp) (r.append (.cons ru .nil)) ?_,rfl,q⟩;rw[T1,D8]
 lia
inductive Vl(x:V)(vs:List V)(H:Hp)(Q:VK):Prop
 |mk (l b xs zs:_):x=.ref l->vs=[.ref b]->H l=some (.lst xs)->H b=some (.lst zs)->xs.length+zs.length<=sizeLine->Q .non (upd H l (.lst (xs++zs)))->Vl x vs H Q
theorem qG:MtM X "list.extend" Vl:=by
 intro pins s σ H x vs v us Q I rx rv h;obtain⟨l,b,xs,zs,rfl,rfl,hH,hB,hz,q⟩:=h;cases rx;obtain⟨u,rfl,ru⟩:=rv.one;cases ru;obtain⟨z,its,n,r,hl,e⟩:=I.lstM hH;obtain⟨z2,aL,n2,r2,Jt,e2⟩:=I.lstM hB;have hsz:its.toArray.size+aL.toArray.size<=sizeLine:=by grind
 have Ez:¬(!its.toArray.isEmpty&&Builtin.List.listTooLong (its.toArray.size+aL.toArray.size))=true:=by
  rw[Na hsz,Bool.and_false];exact X1
 refine AJ F.slot_list_extend ⟨_,e,rfl⟩ F.entry_list_extend (F.args_list_extend_2 _ _)
  (AutoSeq1.list_extend_list_list_0 l its.toArray n b aL.toArray n2 Ez (by rw[K1];lia) (by lia)) ⟨e,e2,?_⟩
 refine⟨.non,_,I.lset (its':=its++aL) hH e (by simp) (r.append r2) ?_,rfl,q⟩;grind
inductive zfr(x:V)(y:V)(H:Hp)(Q:VK):Prop
 |mk (l b xs zs:_):x=.ref l->y=.ref b->H l=some (.lst xs)->H b=some (.lst zs)->xs.length+zs.length<=sizeLine->(∀p,H p=none->Q (.ref p) (upd H p (.lst (xs++zs))))->zfr x y H Q
theorem Lh:vJ X (binaryOp .Add) zfr:=by
 intro pins s σ H x y v u Q I rx ry h;obtain⟨l,b,xs,zs,rfl,rfl,hH,hB,hz,q⟩:=h;cases rx;cases ry;obtain⟨z,its,n,r,hl,e⟩:=I.lstM hH;obtain⟨z2,aL,n2,r2,Jt,e2⟩:=I.lstM hB;refine PySem.P.add_list e e2 ?_ (by rw[K1,K1];lia);have ea:its.toArray++aL.toArray=(its++aL).toArray:=by simp
 rw[ea];exact⟨.ref _,_,I.lnew (t':=s.toks) (r.append r2) (by rw[T1];lia),rfl,q _ I.fresh⟩
inductive zfs(x:V)(y:V)(H:Hp)(Q:VK):Prop
 |mk (l k xs:_):x=.ref l->y=.int k->H l=some (.lst xs)->-(2^63)<=k->k<2^63->xs.length*k.toNat<=sizeLine->(∀p,H p=none->Q (.ref p) (upd H p (.lst (List.replicate k.toNat xs).flatten)))->zfs x y H Q
theorem zaz{α:Type}(xs:List α) (k:Nat):(List.replicate k xs).flatten.length=k*xs.length:=by
 simp_all
theorem zdc:vJ X (binaryOp .Mult) zfs:=by
 intro pins s σ H x y v u Q I rx ry h;obtain⟨l,k,xs,rfl,rfl,hH,h1,h2,hz,q⟩:=h;cases rx;obtain⟨t,rfl⟩:=ry;obtain⟨z,its,n,r,hl,e⟩:=I.lstM hH;have LC:its.toArray.size*k.toNat<=sizeLine:=by rw[K1,<-hl];exact hz
 have ziI:¬its.toArray.size*k.toNat>(2^63-1)/8:=by
  have:(sizeLine:Nat)<=(2^63-1)/8:=by decide
  lia
 have ziJ:¬(!Builtin.List.listFitsIndex k)=true:=by
  rw[fitsIndex_both h1 h2];exact X1
 have Ez:¬Builtin.List.listTooLong (its.toArray.size*k.toNat)=true:=by
  rw[Na LC];exact X1
 have ziK:List.foldl (λx1 x2=>x1++x2) #[] (List.replicate (if its.toArray.isEmpty=true then 0 else k.toNat) its.toArray)=(List.replicate k.toNat its).flatten.toArray:=by
  have f0:∀m:Nat,List.foldl (λx1 x2=>x1++x2) #[] (List.replicate m its.toArray)=(List.replicate m its).flatten.toArray:=λm=>by
   have:=SW its m [];rw[List.nil_append]at this;exact this
  rw[f0];cases its with
  |nil=>simp
  |cons a r'=>rw[D0 (by simp)]
 refine wpAny_binaryOp_repeat_ref (T:= "list") (U:= "int") (by decide) ⟨_,e,rfl⟩ (λs'=>VM s' k t) noFill_list_mul F.fills_int_mul F.slot_int_rmul repeat_list F.slot_int_index.lookup
  (AJ F.slot_int_rmul (VM s k t) F.entry_int_rmul (F.args_int_rmul_2 _ _) (int___rmul___int_list k t l its.toArray n)
    ⟨e,rfl,⟨_,e,rfl⟩,AJ F.slot_list_mul ⟨_,e,rfl⟩ F.entry_list_mul (F.args_list_mul_2 _ _) (AutoListH.list___mul___list_int_3 l its.toArray n k t ziJ ziI Ez) ⟨e,?_⟩⟩)
 rw[ziK];exact⟨.ref _,_,I.lnew (t':=s.toks) (r.rep k.toNat) (by rw[zaz,Nat.mul_comm];exact hz),rfl,q _ I.fresh⟩
section
variable {prog:Program}{w:World}{A:Around}{E:Value->Shared->Prop}
end
end L2
namespace L2
open PySem PySem.Spec PyProof.Rows
variable {l:Addr}{A:Around}{X:Cx}{its:List Value}{prog:Program}{s:Shared}{E Q:Value->Shared->Prop}{w:World}
theorem D4.ints:∀{ns:List Int}{us:List Value},D4 (ns.map V.int) us->IntsAre us ns
 |[],us,h=>by
  rw[RD]at h;cases h;exact IntsAre.nil
 |n::ns,us,h=>by
  rw[L3]at h;cases h with
  |cons r t=>
   obtain⟨k,rfl⟩:=r;exact IntsAre.cons n k (D4.ints t)
theorem D4.bls:∀{bs:List Bool}{us:List Value},D4 (bs.map V.bl) us->us=bs.map Value.bool
 |[],us,h=>by
  rw[RD]at h;cases h;rfl
 |b::bs,us,h=>by
  rw[L3]at h;cases h with
  |cons r t=>
   cases r;rw[D4.bls t,L3]
theorem D4.ref1{a:Addr}{us:List Value}(r:D4 [V.ref a] us):us=[Value.ref a]:=by
 cases r with
 |cons r t=>
  cases t;cases r;rfl
section
variable {ns:List Int}
theorem zaA(hh:A.handled=none)(hl:s.heap.IsList l its.toArray)(hi:IntsAre its ns)
 (h:∀h' tk t',(∀b o,s.heap.get? b=some o->h'.get? b=some o)->Q (.int ns.sum t') {s with heap:=h',toks:=tk}):wpAny (model prog w) A (call (.builtin "sum") [.ref l]) Q E s:=by
  obtain⟨xs,e⟩:=hi.allInts.items;have hn:numsOf (intItems xs).toList=ns:=by rw[<-e];exact hi.numsOf
  rw[nums_intItems]at hn;rw[e]at hl;refine PySem.sum_intListG hh hl λh' tk t' hk=>?_;have:=h h' tk t' hk;rw[preSum_eq,BJ (by simp),hn];exact this
end
inductive zft(K:Frag)(vs:List V)(H:Hp)(Q:VK):Prop
 |mk (a:Addr) (ns:List Int):vs=[V.ref a]->SqL K H a (ns.map V.int)->Q (.int ns.sum) H->zft K vs H Q
theorem zdd(hc:X.calm=true):EM X (.builtin "sum") (zft X.K):=by
 intro pins s σ H vs us Q I r h;obtain⟨a,ns,rfl,hs,q⟩:=h;obtain⟨its,rv,hl,_⟩:=I.list hs;rw[D4.ref1 r];exact zaA (I.ok.hd hc) hl.isList rv.ints λh' tk t' hk=>⟨.int _,H,I.kept hk,⟨_,rfl⟩,q⟩
inductive Mh(K:Frag)(x:V)(xs:List V)(H:Hp)(Q:VK):Prop
 |mk (a:Addr) (ys:List V) (y:V) (j:Nat) (z:V):x=V.ref a->xs=[y]->SqL K H a ys->DI y=true->ys.all DI=true->ys[j]?=some z->eqV z y=true->(∀(m:Nat)(z':V),m<j->ys[m]?=some z'->eqV z' y=false)->Q (.int (j:Nat)) H->Mh K x xs H Q
theorem Wl{ys:List V}(f:ys.all DI=true) {j:Nat}{z:V}(h:ys[j]?=some z):DI z=true:=Q7.mp f z (M1 h)
theorem Su:MtR X "list.index" (Mh X.K):=by
 intro pins s σ H x xs v us Q I rx rxs h;obtain⟨a,ys,y,j,z,rfl,rfl,hs,fy,fys,hz,hzj,hno,q⟩:=h;cases rx;cases rxs with
 |cons ry rt=>
  rename_i uy ut;cases rt;obtain⟨its,rv,⟨⟨cls,dd,data,sl⟩,n,ho,hc,hdn,hd⟩,LC⟩:=I.list hs;simp only at hc hd;subst hc hd;obtain⟨u,hu,ru⟩:=rv.get hz;obtain⟨hjl,hje⟩:=P0.mp hu;have hvl:=rv.length;have hj:j<its.toArray.size:=by simpa using hjl
  have hsl:=kF;refine AJ EI ⟨_,ho,rfl⟩ PySem.F.entry_list_index (PySem.F.args_list_index_2 _ _)
   (SeqAt.list_indexAt a its.toArray n dd sl uy (eqU y) j hj (by lia) ?_ ?_) ⟨ho,λu' hu'=>TN ry fy rv fys u' (by simpa using hu'),?_⟩
  .have e1:its.toArray[j]=u:=by simpa using hje
   rw[e1,uY ru (Wl fys hz)];exact hzj
  .intro m hm hmj;have hml:m<its.length:=by simpa using hm
   have hmy:m<ys.length:=by lia
   have hy':ys[m]?=some ys[m]:=K0 hmy;obtain⟨u2,hu2,ru2⟩:=rv.get hy';obtain⟨_,hme⟩:=P0.mp hu2;have e1:its.toArray[m]=u2:=by simpa using hme
   rw[e1,uY ru2 (Wl fys hy')];exact hno m _ hmj hy'
  .exact⟨.int (j:Nat),H,I.tok _,⟨_,rfl⟩,q⟩
theorem Oa{items:Array Value}(hl:s.heap.IsList l items)
 (h:∀s₂:Shared,s₂={s with heap:=s.heap.push {cls:=.type "list_iterator",data:=.fields #[.ref l,.int 0 0]}}->
 (s₂.heap.IsListIter s.heap.objs.size l 0/\s₂.heap.IsList l items)->l≠s.heap.objs.size->Q (.ref s.heap.objs.size) s₂):wpAny (model prog w) A (pyIter (.ref l)) Q E s:=by
  have DC:l<s.heap.objs.size:=by obtain⟨_,e,_⟩:=hl;exact K2 e
  exact rH hl (h _ rfl ⟨⟨_,V1 _ rfl,rfl,rfl⟩,hl.push _⟩ (K3 DC))
theorem OQ{bs:List Bool}(e:its=bs.map Value.bool) :
  TruthOf prog w A (λi v=>its.toArray[i]?=some v) (λi=>bs.getD i false):=λi v s Q E hv hq=>by
 have hv':its[i]?=some v:=by simpa using hv
 rw[e,P1]at hv';obtain⟨b,hb,rfl⟩:=CJ.mp hv';have hg:bs.getD i false=b:=by rw[Q2,hb]<;>rfl
 have GR:Q (bs.getD i false) s:=hq;rw[hg]at GR;exact M5 GR
theorem TW:∀bs:List Bool,(List.range bs.length).any (λi=>bs.getD i false)=bs.any id
 |[]=>rfl
 |b::bs=>by
  rw[N1,lB,T8,VN,T8,<-TW bs]
  all_goals rfl
theorem UW:∀bs:List Bool,(List.range bs.length).all (λi=>bs.getD i false)=bs.all id
 |[]=>rfl
 |b::bs=>by
  rw[N1,lB,S8,TD,S8,<-UW bs]
  all_goals rfl
inductive zfu(K:Frag)(vs:List V)(H:Hp)(Q:VK):Prop
 |mk (a:Addr) (bs:List Bool):vs=[V.ref a]->SqL K H a (bs.map V.bl)->Q (.bl (bs.any id)) H->zfu K vs H Q
inductive zfv(K:Frag)(vs:List V)(H:Hp)(Q:VK):Prop
 |mk (a:Addr) (bs:List Bool):vs=[V.ref a]->SqL K H a (bs.map V.bl)->Q (.bl (bs.all id)) H->zfv K vs H Q
theorem Tu(hc:X.calm=true):EM X (.builtin "any") (zfu X.K):=by
 intro pins s σ H vs us Q I r h;obtain⟨a,bs,rfl,hs,q⟩:=h;obtain⟨its,rv,hl,_⟩:=I.list hs;rw[D4.ref1 r];have hb:=rv.bls;refine call_any_walk (Oa hl.isList λs₂ e2 st bL=>?_);subst e2;refine⟨_,_,_,_,_,_,_,rfl,Walks.list (A:=X.A.in1) (I.ok.hd hc) _ a bL its.toArray,st,OQ hb,λh' tk hk=>?_⟩;refine⟨.bl _,H,I.kept λb o eo=>hk b o (λhmem=>?_) (V0 _ eo),?_,q⟩
 .rcases S1.mp hmem with e1|hmem
  .exact absurd (e1 ▸ K2 eo) (L5 _)
  .cases hmem
 .show Value.bool _=Value.bool _;rw[<-TW,hb,K1,B0]
theorem mT(hc:X.calm=true):EM X (.builtin "all") (zfv X.K):=by
 intro pins s σ H vs us Q I r h;obtain⟨a,bs,rfl,hs,q⟩:=h;obtain⟨its,rv,hl,_⟩:=I.list hs;rw[D4.ref1 r];have hb:=rv.bls;refine call_all_walk (Oa hl.isList λs₂ e2 st bL=>?_);subst e2;refine⟨_,_,_,_,_,_,_,rfl,Walks.list (A:=X.A.in1) (I.ok.hd hc) _ a bL its.toArray,st,OQ hb,λh' tk hk=>?_⟩;refine⟨.bl _,H,I.kept λb o eo=>hk b o (λhmem=>?_) (V0 _ eo),?_,q⟩
 .rcases S1.mp hmem with e1|hmem
  .exact absurd (e1 ▸ K2 eo) (L5 _)
  .cases hmem
 .show Value.bool _=Value.bool _;rw[<-UW,hb,K1,B0]
mutual
inductive Dp(K:Frag)(H:Hp):V->PyData->Prop
 |non:Dp K H .non .none
 |bl (b:Bool):Dp K H (.bl b) (.bool b)
 |int (i:Int):Dp K H (.int i) (.int i)
 |str (x:Str):Dp K H (.str x) (.str x)
 |lst {a:Addr} {xs:List V} {ds:List PyData}:SqL K H a xs->PQ K H xs ds->Dp K H (.ref a) (.list ds)
 |tup {a:Addr} {xs:List V} {ds:List PyData}:eA K H a xs->PQ K H xs ds->Dp K H (.ref a) (.tuple ds)
inductive PQ(K:Frag)(H:Hp):List V->List PyData->Prop
 |nil:PQ K H [] []
 |cons {v:V} {vs:List V} {d:PyData} {ds:List PyData}:Dp K H v d->PQ K H vs ds->PQ K H (v::vs) (d::ds)
end
section
variable {pins:List (Addr×Obj)}{σ:St}{H:Hp}
mutual
theorem Dp.reads(I:V2 X pins σ H s):∀(d:PyData)(v:V)(u:Value),Dp X.K H v d->T4 v u->∃as,Reads s.heap u d as
 |.none,_,_,h,r=>by
  cases h;cases r;exact⟨_,Reads.none⟩
 |.bool b,_,_,h,r=>by
  cases h;cases r;exact⟨_,Reads.bool b⟩
 |.int i,_,_,h,r=>by
  cases h;obtain⟨t,rfl⟩:=r;exact⟨_,Reads.int i t⟩
 |.str x,_,_,h,r=>by
  cases h;obtain⟨t,rfl⟩:=r;exact⟨_,Reads.str x t⟩
 |.list ds,_,_,h,r=>by
  cases h with
  |lst hs ha=>
   cases r;obtain⟨its,rv,⟨o,n,ho,hc,_,hd⟩,_⟩:=I.list hs;obtain⟨as,hr⟩:=Dp.readsAll I ds _ its ha rv;exact⟨_,Reads.list ho hc hd hr⟩
 |.tuple ds,_,_,h,r=>by
  cases h with
  |tup hs ha=>
   cases r;obtain⟨its,rv,⟨o,ho,hc,n,hd⟩,_⟩:=I.tuple hs;obtain⟨as,hr⟩:=Dp.readsAll I ds _ its ha rv;exact⟨_,Reads.tuple ho hc hd hr⟩
 |.dict _,_,_,h,_=>by cases h
theorem Dp.readsAll(I:V2 X pins σ H s):∀(ds:List PyData)(vs:List V)(us:List Value),PQ X.K H vs ds->D4 vs us->∃as,ReadsAll s.heap us ds as
 |[],_,_,h,r=>by
  cases h;cases r;exact⟨_,ReadsAll.nil⟩
 |d::ds,_,_,h,r=>by
  cases h with
  |cons h1 h2=>
   cases r with
   |cons r1 r2=>
    obtain⟨as,q1⟩:=Dp.reads I d _ _ h1 r1;obtain⟨bs,q2⟩:=Dp.readsAll I ds _ _ h2 r2;exact⟨_,ReadsAll.cons q1 q2⟩
end
end
inductive zfw(K:Frag)(x:V)(y:V)(H:Hp)(Q:VK):Prop
 |mk (d e:_):Dp K H x d->Dp K H y e->SeqAt.shaped d=true->SeqAt.shaped e=true->Q (.bl (PyData.eqv d e)) H->zfw K x y H Q
inductive zfx(K:Frag)(x:V)(y:V)(H:Hp)(Q:VK):Prop
 |mk (d e:_):Dp K H x d->Dp K H y e->SeqAt.shaped d=true->SeqAt.shaped e=true->Q (.bl (!PyData.eqv d e)) H->zfx K x y H Q
theorem Nh(hu:X.A.units+64<cLine):vJ X (compareOp .Eq) (zfw X.K):=by
 intro pins s σ H x y v u Q I rx ry h;obtain⟨d,e,hd,he,sd,se,q⟩:=h;obtain⟨as,r1⟩:=Dp.reads I d x v hd rx;obtain⟨bs,r2⟩:=Dp.reads I e y u he ry;exact SeqAt.compareEq_shaped r1 r2 sd se hu ⟨.bl _,H,I,rfl,q⟩
theorem Oh(hu:X.A.units+64<cLine):vJ X (compareOp .NotEq) (zfx X.K):=by
 intro pins s σ H x y v u Q I rx ry h;obtain⟨d,e,hd,he,sd,se,q⟩:=h;obtain⟨as,r1⟩:=Dp.reads I d x v hd rx;obtain⟨bs,r2⟩:=Dp.reads I e y u he ry;exact SeqAt.compareNe_shaped r1 r2 sd se hu ⟨.bl _,H,I,rfl,q⟩
end L2
namespace L2
open PySem PySem.Spec PyProof.Rows
variable {D a:Addr}{A:Around}{X:Cx}{env:Env}{H1:Hp}{Qd:Hp->Prop}{cells:List (Str×Addr)}{vs:List Nat}{xs:List V}{M:Model}{K:Frag}{scope:Scope}{s:Shared}{σ:St}{te:TE}{g:TG}{tt:TT}{α:Type}{E:Value->Shared->Prop}
abbrev Uu(h:Heap)(c:Addr)(v:Option Value):Prop:=h.IsCell c v
def zih(scope sc:Scope):Scope:=
 {scope with names:=scope.names.map λ(n,k)=>if (k == .free&&sc.kind == .function&&sc.names.lookup n==some .cell)then(n,.cell)else(n,k)}
def B8(cells:List (Str×Addr)):List (Str×NameKind)->List (Str×Addr)->List (Str×Addr)
 |[],acc=>acc
 |(n,k)::r,acc=>if k == .free then B8 cells r ((n,(cells.lookup n).getD 0)::acc)else B8 cells r acc
theorem WN(env:Env)(f:Str×NameKind->List (Str×Addr)->Sem (ForInStep (List (Str×Addr))))
  (hf:∀n k c,f (n,k) c=if k == .free then(do let a <-cellOf env n;pure (.yield ((n,a)::c)))else pure (.yield c)) :
  ∀(names:List (Str×NameKind))(acc:List (Str×Addr)),(∀y∈names,y.2=.free->∃c,env.cells.lookup y.1=some c)->forIn names acc f=pure (B8 env.cells names acc)
 |[],acc,_=>by rw[mL];rfl
 |(n,k)::r,acc,h=>by
  rw[pB,hf];have ih:=λacc=>WN env f hf r acc λy hy=>h y (i3 _ hy);unfold B8;by_cases hk:(k==NameKind.free)=true
  .rw[J0 hk,J0 hk];obtain⟨c,hc⟩:=h (n,k) M4 (by simpa using hk);have e:cellOf env n=pure c:=by unfold cellOf;rw[hc]
   grind
  all_goals grind
theorem Ph(h:∀y∈scope.names,y.2=.free->∃c,env.cells.lookup y.1=some c):closureFor scope env=pure (B8 env.cells scope.names []):=by
 simp only[closureFor];rw[WN env _ (λn k c=>rfl) scope.names [] h];rfl
theorem WM{α:Type}:∀{l:List (Str×α)}{n:Str}{c:α},(n,c)∈l->∃c',l.lookup n=some c'
 |(k,v)::r,n,c,h=>by
  rw[L9];cases hb:n==k with
  |true=>grind
  |false=>
   rcases S1.mp h with e|h
   .grind
   .exact WM h
theorem vH{cells:List (Str×Addr)}:∀{names:List (Str×NameKind)}{acc:List (Str×Addr)}{n:Str}{c:Addr},(n,c)∈B8 cells names acc->(n,c)∈acc\/((n,.free)∈names/\c=(cells.lookup n).getD 0)
 |[],_,_,_,h=>.inl h
 |(m,k)::r,acc,n,c,h=>by
  unfold B8 at h;split at h
  .rename_i hk;have hk:k=.free:=by simpa using hk
   rcases vH h with h|⟨h1,h2⟩
   .rcases S1.mp h with e|h
    all_goals grind
   all_goals grind
  .rcases vH h with h|⟨h1,h2⟩
   all_goals grind
theorem pL{cells:List (Str×Addr)}:∀{names:List (Str×NameKind)}{acc:List (Str×Addr)}{p:Str×Addr},p∈acc->p∈B8 cells names acc
 |[],_,_,h=>h
 |(m,k)::r,acc,p,h=>by
  unfold B8;split
  .exact pL (i3 _ h)
  .exact pL h
theorem qL{cells:List (Str×Addr)}:∀{names:List (Str×NameKind)}{acc:List (Str×Addr)}{n:Str},(n,.free)∈names->(n,(cells.lookup n).getD 0)∈B8 cells names acc
 |(m,k)::r,acc,n,h=>by
  unfold B8;rcases S1.mp h with e|h
  .cases e;exact pL M4
  .split
   .exact qL h
   .exact qL h
theorem FI:∀{names:List (Str×NameKind)}{h:Heap}{acc:List (Str×Addr)}{x:Str}{c:Addr},(x,c)∈cellsFrom h.objs.size names acc->
  (x,c)∈acc\/((x,.cell)∈names/\h.objs.size<=c/\Uu (pushCells h names) c none)
 |[],_,_,_,_,h=>.inl h
 |(n,k)::r,h,acc,x,c,hm=>by
  unfold cellsFrom at hm;unfold pushCells;split at hm
  .rename_i hk;rw[J0 hk];have hk:k=.cell:=by simpa using hk
   rw[<-Z4 h {cls:=.type "cell",data:=.cell none}]at hm;rcases FI hm with hm|⟨h1,h2,h3⟩
   .rcases S1.mp hm with e|hm
    .cases e;exact .inr ⟨hk ▸ M4,j1 _,_,xF r _ _ _ (V1 _ rfl),rfl⟩
    .exact .inl hm
   .rw[Z4]at h2;exact .inr ⟨i3 _ h1,UD h2,h3⟩
  .rename_i hk;rw[D0 hk];rcases FI hm with hm|⟨h1,h2,h3⟩
   .exact .inl hm
   .exact .inr ⟨i3 _ h1,h2,h3⟩
theorem lM:∀{names:List (Str×NameKind)}{n:Nat}{acc:List (Str×Addr)}{p:Str×Addr},p∈acc->p∈cellsFrom n names acc
 |[],_,_,_,h=>h
 |(m,k)::r,n,acc,p,h=>by
  unfold cellsFrom;split
  .exact lM (i3 _ h)
  .exact lM h
theorem KP:∀{names:List (Str×NameKind)}{n:Nat}{acc:List (Str×Addr)}{x:Str},(x,.cell)∈names->∃c,(x,c)∈cellsFrom n names acc
 |(m,k)::r,n,acc,x,h=>by
  unfold cellsFrom;rcases S1.mp h with e|h
  .cases e;exact⟨n,lM M4⟩
  .split
   .exact KP h
   .exact KP h
theorem LP:∀{names:List (Str×NameKind)}{h:Heap}{acc:List (Str×Addr)}{x y:Str}{c:Addr},(∀p∈acc,p.2<h.objs.size)->(∀x y c,(x,c)∈acc->(y,c)∈acc->x=y)->
  (x,c)∈cellsFrom h.objs.size names acc->(y,c)∈cellsFrom h.objs.size names acc->x=y
 |[],_,_,_,_,_,_,hi,h1,h2=>hi _ _ _ h1 h2
 |(n,k)::r,h,acc,x,y,c,hl,hi,h1,h2=>by
  unfold cellsFrom at h1 h2;split at h1
  .rename_i hk;rw[J0 hk]at h2;rw[<-Z4 h {cls:=.type "cell",data:=.cell none}]at h1 h2;refine LP (h:=h.push _) (λp hp=>?_) (λx y c a b=>?_) h1 h2
   .rw[Z4];rcases S1.mp hp with rfl|hp
    .exact ME _
    .exact VD (hl p hp)
   .rcases S1.mp a with e|a<;>rcases S1.mp b with e'|b
    .grind
    .cases e;exact absurd (hl _ b) (L5 _)
    .cases e';exact absurd (hl _ a) (L5 _)
    .exact hi _ _ _ a b
  .rename_i hk;rw[D0 hk]at h2;exact LP hl hi h1 h2
theorem Pa{globals:Addr}{NZ:List (Str×Addr)}{OB:Str}{func:Option Addr}{code:Value}{Fz:Env}{builtins:Addr}{Q:Env->Shared->Prop}
 (h:Q (newEnv scope s.heap.objs.size globals (cellsFrom (s.heap.objs.size+1) scope.names NZ) OB func code (some Fz) builtins)
 {s with heap:=pushCells (s.heap.push {cls:=.type "dict",data:=.dict #[]}) scope.names}) :
   wpAny M A (newFunctionEnv scope globals NZ [] OB func code (some Fz) builtins) Q E s:=by
  simp only[newFunctionEnv,Option.isSome_some,cG];refine z0 (rL ?_);refine z0 (wpAny_layCells _ (λn k c=>rfl) scope.names NZ _ _ ?_);rw[show({s with heap:=s.heap.push {cls:=.type "dict",data:=.dict #[]}}:Shared).heap.objs.size=s.heap.objs.size+1 from Z4 ..];rw[mL];exact z0 (S0 (S0 h))
theorem tL{sc:Scope}:∀{names:List (Str×NameKind)}{x:Str}{k:NameKind},
  (names.map λ(n,k)=>if (k==NameKind.free&&sc.kind == .function&&sc.names.lookup n==some .cell)then(n,NameKind.cell)else(n,k)).lookup x=some k->
  ∃k',names.lookup x=some k'/\(k=k'\/(k'=.free/\k=.cell))
 |[],_,_,h=>by simp at h
 |(n,k₀)::r,x,k,h=>by
  have ih:=@tL sc r x k;have h':List.lookup x ((if (k₀==NameKind.free&&sc.kind == .function&&sc.names.lookup n==some .cell)=true then(n,NameKind.cell)else(n,k₀))::(r.map _))=some k:=h;cases hx:x==n with
  |true=>
   simp only[L9,hx];by_cases hc:(k₀==NameKind.free&&sc.kind == .function&&sc.names.lookup n==some .cell)=true
   all_goals grind
  |false=>
   simp only[L9,hx];by_cases hc:(k₀==NameKind.free&&sc.kind == .function&&sc.names.lookup n==some .cell)=true
   .rw[J0 hc]at h';simp only[L9,hx]at h';exact ih h'
   .rw[D0 hc]at h';simp only[L9,hx]at h';exact ih h'
structure Qa(N:List Str)(sc scope:Scope)(own:List (Str×Nat)):Prop where
 kind:scope.kind=.function
 uniq:∀y∈scope.names,scope.names.lookup y.1=some y.2
 ix:∀p∈own,N[p.2]?=some p.1
 free:∀y∈scope.names,y.2=.free->sc.names.lookup y.1=some .cell\/sc.names.lookup y.1=some .free
 own:∀y∈scope.names,y.2=.local\/y.2=.cell->y.1∈own.map (·.1)\/y.1∉N
def Z7(σ:St):List Nat->St
 |[]=>σ
 |v::vs=>(Z7 σ vs).set v none
theorem uL(σ:St):∀vs:List Nat,(Z7 σ vs).length=σ.length
 |[]=>rfl
 |v::vs=>by unfold Z7;rw[oB,uL σ vs]
theorem MP{σ:St}{i:Nat}{x:V}:∀{vs:List Nat},(Z7 σ vs)[i]?=some (some x)->σ[i]?=some (some x)/\i∉vs
 |[],h=>⟨h,by simp⟩
 |v::vs,h=>by
  unfold Z7 at h;by_cases hi:v=i
  .subst hi;by_cases hv:v<(Z7 σ vs).length
   all_goals grind
  .rw[V8 hi]at h;obtain⟨h1,h2⟩:=MP h;exact⟨h1,by simp only[S1,DJ];exact⟨λe=>hi e.symm,h2⟩⟩
abbrev Cx.blk(X:Cx)(s:Shared)(H:Hp)(scope:Scope)(zD:Env)(fp:List Addr):Cx:={X with s_0:=s,H_0:=H,env:=zD,outer:=X.stack,ex:=fp,fn:=λx=>scope.names.lookup x==some .cell,pn:=[],xe:=λ_ _=>False}
section
variable {pins:List (Addr×Obj)}{H:Hp}
theorem Ra{own:List (Str×Nat)}{fp:List Addr}(I:V2 X pins σ H s) (ok:Qa X.N X.env.scope scope own) (hN:X.N.Nodup) (hfp:∀b∈fp,iL X pins H b/\b<s.heap.objs.size) :
  V2 (X.blk s H scope (compEnvC scope (cellsFrom (s.heap.objs.size+1) scope.names (B8 X.env.cells scope.names [])) s.heap.objs.size X.env) fp) [] (Z7 σ (own.map (·.2))) H {s with heap:=pushCells (s.heap.push {cls:=.type "dict",data:=.dict #[]}) scope.names}:=by
 have Vo:∀y∈scope.names,y.2=.free->∃c,X.env.cells.lookup y.1=some c:=λy hy e=>by
  rcases ok.free y hy e with k|k
  .exact I.ok.has _ (.inl k)
  .exact I.ok.has _ (.inr k)
 generalize hcenv:compEnvC scope (cellsFrom (s.heap.objs.size+1) scope.names (B8 X.env.cells scope.names [])) s.heap.objs.size X.env=zD;have kp:∀b o,s.heap.get? b=some o->(pushCells (s.heap.push {cls:=.type "dict",data:=.dict #[]}) scope.names).get? b=some o:=λb o e=>xF _ _ _ _ (V0 _ e);have hL:zD.locals=s.heap.objs.size:=by rw[<-hcenv];rfl
 have Kt:zD.cells=cellsFrom (s.heap.objs.size+1) scope.names (B8 X.env.cells scope.names []):=by rw[<-hcenv];rfl
 have hsc:zD.scope=zih scope X.env.scope:=by rw[<-hcenv];rfl
 rw[<-Z4 s.heap {cls:=.type "dict",data:=.dict #[]}]at Kt;have cm:∀{y c},(y,c)∈B8 X.env.cells scope.names []->X.env.cells.lookup y=some c/\c<s.heap.objs.size:=λ{y c} hm=>by
  rcases vH hm with hm|⟨h1,rfl⟩
  .cases hm
  .obtain⟨c,hc⟩:=Vo _ h1 rfl;rw[hc];obtain⟨w,z⟩:=I.cell _ _ hc;exact⟨rfl,z.lt⟩
 have mem:∀{y c},zD.cells.lookup y=some c->(X.env.cells.lookup y=some c/\c<s.heap.objs.size)\/(s.heap.objs.size+1<=c/\Uu (pushCells (s.heap.push {cls:=.type "dict",data:=.dict #[]}) scope.names) c none):=λ{y c} e=>by
  rw[Kt]at e;rcases FI (O3 e)with hm|⟨_,h2,h3⟩
  .exact .inl (cm hm)
  .rw[Z4]at h2;exact .inr ⟨h2,h3⟩
 have look:∀{y},scope.names.lookup y=some .free->∃c,zD.cells.lookup y=some c/\X.env.cells.lookup y=some c:=λ{y} hl=>by
  have hy:(y,NameKind.free)∈scope.names:=O3 hl;obtain⟨c',e'⟩:=WM (lM (names:=scope.names) (n:=(s.heap.push {cls:=.type "dict",data:=.dict #[]}).objs.size) (qL (cells:=X.env.cells) (acc:=[]) hy));rw[<-Kt]at e';refine⟨c',e',?_⟩;rw[Kt]at e';rcases FI (O3 e')with hm|⟨h1,_,_⟩
  .exact(cm hm).1
  .have:=ok.uniq _ h1;rw[hl]at this;cases this
 have okB:(X.blk s H scope zD fp).Ok:=by
  refine⟨I.ok.mod,by show zD.scope.kind=_;rw[hsc];exact ok.kind,by show zD.globals=_;rw[<-hcenv];exact I.ok.glob,by show zD.builtins=_;rw[<-hcenv];exact I.ok.blt,by show s.heap.objs.size<=zD.locals;rw[hL];exact j1 _,
   λy z c e1 e2=>?_,λy hy=>?_,λy c z e=>?_,I.ok.hd,I.ok.frames,.inl rfl,λb hb=>⟨?_,λy c e z=>?_⟩,I.bs,k4 I.ok.bsz I.sz,λb o e hb=>?_,λb hb z=>?_,I.stack,I.stkFree⟩
  .have e1:zD.cells.lookup y=some c:=e1;have e2:zD.cells.lookup z=some c:=e2;rw[Kt]at e1 e2;refine LP (λp hp=>?_) (λy z c a b=>I.ok.inj y z c (cm a).1 (cm b).1) (O3 e1) (O3 e2);rw[Z4];exact VD (cm (y:=p.1) (c:=p.2) hp).2
  .show ∃c,zD.cells.lookup y=some c;have PV:∀k,zD.kindOf y=some k->(k=.cell\/k=.free)->∃c,zD.cells.lookup y=some c:=λk hk OZ=>by
    unfold Env.kindOf at hk;rw[hsc]at hk;obtain⟨k',e,r⟩:=tL hk;have:k'=.cell\/k'=.free:=by
     rcases r with rfl|⟨rfl,_⟩
     .exact OZ
     .exact .inr rfl
    rcases this with rfl|rfl
    .obtain⟨c,hm⟩:=KP (n:=(s.heap.push {cls:=.type "dict",data:=.dict #[]}).objs.size) (acc:=B8 X.env.cells scope.names []) (O3 e);obtain⟨c',e'⟩:=WM hm;exact⟨c',by rw[Kt];exact e'⟩
    .obtain⟨c,h1,_⟩:=look e;exact⟨c,h1⟩
   rcases hy with hy|hy
   .exact PV _ hy (.inl rfl)
   .exact PV _ hy (.inr rfl)
  .have z:(scope.names.lookup y==some NameKind.cell)=true:=z;have z:scope.names.lookup y=some .cell:=by simpa using z
   have e:zD.cells.lookup y=some c:=e;rw[Kt]at e;rcases FI (O3 e)with hm|⟨_,h2,_⟩
   .rcases vH hm with hm|⟨h1,_⟩
    .cases hm
    .have q:=ok.uniq _ h1;rw[z]at q;cases q
   .rw[Z4]at h2;exact UD h2
  .show b≠zD.locals;rw[hL];exact K3 (hfp b hb).2
  .have e:zD.cells.lookup y=some c:=e;rcases mem e with⟨h1,_⟩|⟨h1,_⟩
   .exact(hfp b hb).1.2.2.2.2.1 y c h1 z
   .have h2:s.heap.objs.size+1<=b:=by rw[<-z];exact h1
    exact absurd (P2 (hfp b hb).2 (UD h2)) (L5 _)
  .rcases(hfp b hb).1.2.2.2.1 with z|z
   .exact I.ok.noex b o e z
   .exact absurd (P2 (K2 e) (k4 I.ok.bsz z)) (L5 _)
  .rcases S1.mp (I.stkSub b z)with z|z
   .exact(hfp b hb).1.2.1 z
   .exact(hfp b hb).1.2.2.1 z
 refine⟨okB,rfl,I.bare,Un.kept kp,⟨λ_=>none,?_,λi y av e1 e2 e3=>?_⟩,λy c e=>?_,?_,λy c e=>?_,λp hp=>?_,I.hok.kept kp,by rw[uL];exact I.len⟩
 .show Heap.Ns _ zD.locals _;rw[hL];exact Heap.Ns.keeps (Heap.Ns.new ..) λb o e=>xF _ _ _ _ e
 .obtain⟨e2,bL⟩:=MP e2;have Xg:scope.names.lookup y=some .free/\(zD.kindOf y=some .cell\/zD.kindOf y=some .free):=by
   have PV:∀k,zD.scope.names.lookup y=some k->k=.local\/k=.cell\/k=.free->scope.names.lookup y=some .free/\(zD.kindOf y=some .cell\/zD.kindOf y=some .free):=λk hk OZ=>by
    have hk0:=hk;rw[hsc]at hk;obtain⟨k',e,r⟩:=tL hk;have no:¬(k'=.local\/k'=.cell):=λhh=>by
     rcases ok.own _ (O3 e) hh with e'|e'
     .obtain⟨p,hp,hpy⟩:=S2.mp e';have e3:=ok.ix p hp;have:p.1=y:=hpy;rw[this]at e3;exact bL (S2.mpr ⟨p,hp,IN hN e3 e1⟩)
     .exact e' (M1 e1)
    rcases r with rfl|⟨rfl,rfl⟩
    .rcases OZ with rfl|rfl|rfl
     .exact absurd (.inl rfl) no
     .exact absurd (.inr rfl) no
     .exact⟨e,.inr hk0⟩
    .exact⟨e,.inl hk0⟩
   have e3:Vis zD.scope y:=e3;rcases e3 with e3|e3|e3
   .exact PV _ e3 (.inl rfl)
   .exact PV _ e3 (.inr (.inl rfl))
   .exact PV _ e3 (.inr (.inr rfl))
  obtain⟨m,hn,hl⟩:=I.loc;have ziN:Vis X.env.scope y:=(ok.free _ (O3 Xg.1) rfl).elim (λk=>.inr (.inl k)) (λk=>.inr (.inr k));obtain⟨w,r,q⟩:=hl i y av e1 e2 ziN;refine⟨w,r,.inr ⟨Xg.2,?_⟩⟩;obtain⟨c,h1,h2⟩:=look Xg.1;rcases q with⟨k,_⟩|⟨_,c',e',z⟩
  .have k:X.env.scope.names.lookup y=some .local:=k;rcases ok.free _ (O3 Xg.1) rfl with k'|k'<;>rw[show X.env.scope.names.lookup y=_ from k']at k<;>cases k
  .rw[h2]at e';cases e';exact⟨c,h1,z.keeps kp⟩
 .have e:zD.cells.lookup y=some c:=e;rcases mem e with⟨h1,_⟩|⟨_,z⟩
  .obtain⟨w,z⟩:=I.cell y c h1;exact⟨w,z.keeps kp⟩
  .exact⟨_,z⟩
 .show H zD.locals=none;rw[hL];exact I.hok.fresh (j1 _)
 .have e:zD.cells.lookup y=some c:=e;rcases mem e with⟨h1,_⟩|⟨h1,_⟩
  .exact I.freeC y c h1
  .exact I.hok.fresh (UD h1)
 .exact absurd (show p∈([]:List (Addr×Obj))++[]from hp) (by simp)
theorem zde{y:V}{v:Value}{Q:Value->Shared->Prop}(I:V2 X pins σ H s) (hD:H D=some (.lst xs)) (hz:xs.length<sizeLine) (r:T4 y v)
 (h:∀s',V2 X pins σ (upd H D (.lst (xs++[y]))) s'->Q .none s'):wpAny (model X.prog X.w) X.A (call (.builtin "list.append") [.ref D,v]) Q E s:=by
  obtain⟨Gz,its,n,ri,e⟩:=I.hok D _ hD;have hl:=ri.length;refine append_at (hsz:=by rw[K1];lia) e λh' sb Sg=>?_;refine h {s with heap:=h'} (I.write (t':=s.toks) (by rw[hD];trivial) (.inl rfl) (λb u hb q=>(sb.2 b hb).trans q) ⟨_,Sg⟩ ⟨by rw[T1];exact hz,its++[v],n+1,ri.append (.cons r .nil),?_⟩);grind
def PTs(X:Cx)(Kg:List Expr)(t:TT):Prop:=
 ∀(pins:List (Addr×Obj))(s:Shared)(σ:St)(H:Hp)(Q:Bool->Hp->Prop),V2 X pins σ H s->t σ H Q->
  wpAny (model X.prog X.w) X.A (forIn Kg true λc r=>if r=true then do let ok <-isTrue c X.env (eval c X.env);pure (ForInStep.yield ok)else pure (ForInStep.yield r)) (TP X pins σ Q) X.xe s
def Sa:TT:=λ_ H Q=>Q true H
theorem Y9:PTs X [] Sa:=λ_ _ _ H _ I h=>wpAny_tests_nil ⟨H,I,h⟩
theorem wY{c:Expr}{t:TT}(h:PT X c t):PTs X [c] t:=λpins s σ H Q I hw=>wpAny_tests_one (h pins s σ H Q I hw)
end
theorem zdf{t:Sem α}{Q Q':α->Shared->Prop}(h:wpAny M A t Q (λ_ _=>False) s) (hQ:∀a s,Q a s->Q' a s):wpAny M A t Q' E s:=P5 h hQ λ_ _ z=>False.elim z
theorem xY{prog:Program}{w:World}{R:Result->Shared->Prop}{Xk JQ PF:Expr}{Kg:List Expr}{pos:Pos}{it acc:Value}(I:Nat->Shared->Prop)
 (turn:∀n s,I n s->wpAny (model prog w) A (pyNext it) (λr s₁=>match r with
 |none=>R (.ok .next) s₁
 |some v=>wpAny (model prog w) A (letOwnedTupleGo JQ it v) (λ_ s₁'=>wpAny (model prog w) A (assign JQ env v) (λ_ s₂=>
 wpAny (model prog w) A (forIn Kg true λc r=>if r=true then do let ok <-isTrue c env (eval c env);pure (ForInStep.yield ok)else pure (ForInStep.yield r)) (λok s₃=>
 if ok=true then wpAny (model prog w) A (eval Xk env) (λx s₄=>
 wpAny (model prog w) A (call (.builtin "list.append") [acc,x]) (λ_ s₅=>∃m,m<n/\I m s₅) (notedBy (model prog w) A env λe s'=>R (.error e) s') s₄) (notedBy (model prog w) A env λe s'=>R (.error e) s') s₃
 else ∃m,m<n/\I m s₃) (notedBy (model prog w) A env λe s'=>R (.error e) s') s₂) (notedBy (model prog w) A env λe s'=>R (.error e) s') s₁') (notedBy (model prog w) A env λe s'=>R (.error e) s') s₁) (notedBy (model prog w) A env λe s'=>R (.error e) s') s)
 (n:Nat) (h:I n s) :
   codeAny (model prog w) A (.compLoop (.ListComp Xk [⟨JQ,PF,Kg,0⟩] scope pos) 0 it acc env) R s:=by
  refine codeAny_loop rfl I (λn s hI=>?_) n h;show wpAny _ A ((compTurn (.ListComp Xk [⟨JQ,PF,Kg,0⟩] scope pos) 0 it acc env).onRaise (λx=>do noteFrame x env;theTreesLotGoes x)) _ _ s;refine wpAny_noted ?_;rw[compTurn_list];refine z0 (w9 (z0 (P5 (turn n s hI) (λr s₁ h₁=>?_) λ_ _ h'=>h')));cases r with
  |none=>exact S0 h₁
  |some v=>
   refine z0 (P5 h₁ (λ_ s₁' h₁'=>?_) λ_ _ h'=>h');refine z0 (P5 h₁' (λ_ s₂ h₂=>z0 (P5 h₂ (λok s₃ h₃=>?_) λ_ _ h'=>h')) λ_ _ h'=>h');cases ok with
   |false=>exact S0 ⟨rfl,h₃⟩
   |true=>
    exact z0 (z0 (P5 h₃ (λx s₄ h₄=>z0 (P5 h₄ (λ_ s₅ h₅=>S0 (S0 ⟨rfl,h₅⟩)) λ_ _ h'=>h')) λ_ _ h'=>h'))
def tLc(wi:TI)(g:TG)(tt:TT)(te:TE)(vs:List Nat):TE:=λσ H Q=>wi σ H λJ H1=>∀D,H1 D=none->∃W:Nat->Nat->Hp->Prop,(∃m,W 0 m (upd H1 D (.lst [])))/\∀i m H,W i m H->
 (J.stop i H/\Q (.ref D) H)\/(J.go i H/\∃Nx:Hp->Prop,(∀H',Nx H'->∃m',m'<m/\W (i+1) m' H')/\∀x H',J.yld i H x H'->g x (Z7 σ vs) H' λσ2 H2=>Z7 σ2 vs=Z7 σ vs/\tt σ2 H2 λb H3=>
   if b=true then te σ2 H3 λy H4=>∃acc,H4 D=some (.lst acc)/\acc.length<sizeLine/\Nx (upd H4 D (.lst (acc++[y])))else Nx H3)
theorem oT{lo:Int}{n:Nat}(Pv:Nat->Hp->Prop) (h0:Pv 0 (upd H1 D (.lst [])))
 (hs:∀i H,i<n->Pv i H->g (.int (lo+i)) (Z7 σ vs) H λσ2 H2=>Z7 σ2 vs=Z7 σ vs/\tt σ2 H2 λb H3=>
 if b=true then te σ2 H3 λy H4=>∃acc,H4 D=some (.lst acc)/\acc.length<sizeLine/\Pv (i+1) (upd H4 D (.lst (acc++[y])))else Pv (i+1) H3) (hd:∀H,Pv n H->Qd H) :
   ∃W:Nat->Nat->Hp->Prop,(∃m,W 0 m (upd H1 D (.lst [])))/\∀i m H,W i m H->
    ((Itr lo n).stop i H/\Qd H)\/((Itr lo n).go i H/\∃Nx:Hp->Prop,(∀H',Nx H'->∃m',m'<m/\W (i+1) m' H')/\∀x H',(Itr lo n).yld i H x H'->g x (Z7 σ vs) H' λσ2 H2=>Z7 σ2 vs=Z7 σ vs/\tt σ2 H2 λb H3=>
      if b=true then te σ2 H3 λy H4=>∃acc,H4 D=some (.lst acc)/\acc.length<sizeLine/\Nx (upd H4 D (.lst (acc++[y])))else Nx H3):=by
  refine⟨λi m H=>m=n-i/\i<=n/\Pv i H,⟨n,by simp,D1 _,h0⟩,?_⟩;rintro i m H ⟨rfl,hi,p⟩;by_cases DC:i<n
  .refine .inr ⟨DC,Pv (i+1),λH' p'=>⟨n-(i+1),by lia,rfl,DC,p'⟩,λx H' y=>?_⟩;obtain⟨e,y⟩:=y;subst e y;exact hs i _ DC p
  .have e:i=n:=by lia
   subst e;exact .inl ⟨j1 _,hd H p⟩
theorem dG(Pv:Nat->Hp->Prop)(h0:Pv 0 (upd H1 D (.lst [])))(hl:∀i H,i<=xs.length->Pv i H->SqL K H a xs)
 (hs:∀i x H,xs[i]?=some x->Pv i H->g x (Z7 σ vs) H λσ2 H2=>Z7 σ2 vs=Z7 σ vs/\tt σ2 H2 λb H3=>
 if b=true then te σ2 H3 λy H4=>∃acc,H4 D=some (.lst acc)/\acc.length<sizeLine/\Pv (i+1) (upd H4 D (.lst (acc++[y])))else Pv (i+1) H3) (hd:∀H,Pv xs.length H->Qd H) :
   ∃W:Nat->Nat->Hp->Prop,(∃m,W 0 m (upd H1 D (.lst [])))/\∀i m H,W i m H->
    ((Cu K a).stop i H/\Qd H)\/((Cu K a).go i H/\∃Nx:Hp->Prop,(∀H',Nx H'->∃m',m'<m/\W (i+1) m' H')/\∀x H',(Cu K a).yld i H x H'->g x (Z7 σ vs) H' λσ2 H2=>Z7 σ2 vs=Z7 σ vs/\tt σ2 H2 λb H3=>
      if b=true then te σ2 H3 λy H4=>∃acc,H4 D=some (.lst acc)/\acc.length<sizeLine/\Nx (upd H4 D (.lst (acc++[y])))else Nx H3):=by
  refine⟨λi m H=>m=xs.length-i/\i<=xs.length/\Pv i H,⟨xs.length,by simp,D1 _,h0⟩,?_⟩;rintro i m H ⟨rfl,hi,p⟩;have q:=hl i H hi p;by_cases DC:i<xs.length
  .refine .inr ⟨⟨xs,xs[i],q,by simp[DC]⟩,Pv (i+1),λH' p'=>⟨xs.length-(i+1),by lia,rfl,DC,p'⟩,λx H' y=>?_⟩;obtain⟨e,y⟩:=y;subst e;exact hs i x _ (y xs q) p
  .have e:i=xs.length:=by lia
   subst e;exact .inl ⟨⟨xs,q,j1 _⟩,hd H p⟩
theorem yY(Pv:Nat->Hp->Prop)(h0:Pv 0 (upd H1 D (.lst [])))(hl:∀i H,i<=xs.length->Pv i H->eA K H a xs)
 (hs:∀i x H,xs[i]?=some x->Pv i H->g x (Z7 σ vs) H λσ2 H2=>Z7 σ2 vs=Z7 σ vs/\tt σ2 H2 λb H3=>
 if b=true then te σ2 H3 λy H4=>∃acc,H4 D=some (.lst acc)/\acc.length<sizeLine/\Pv (i+1) (upd H4 D (.lst (acc++[y])))else Pv (i+1) H3) (hd:∀H,Pv xs.length H->Qd H) :
   ∃W:Nat->Nat->Hp->Prop,(∃m,W 0 m (upd H1 D (.lst [])))/\∀i m H,W i m H->
    ((Itt K a).stop i H/\Qd H)\/((Itt K a).go i H/\∃Nx:Hp->Prop,(∀H',Nx H'->∃m',m'<m/\W (i+1) m' H')/\∀x H',(Itt K a).yld i H x H'->g x (Z7 σ vs) H' λσ2 H2=>Z7 σ2 vs=Z7 σ vs/\tt σ2 H2 λb H3=>
      if b=true then te σ2 H3 λy H4=>∃acc,H4 D=some (.lst acc)/\acc.length<sizeLine/\Nx (upd H4 D (.lst (acc++[y])))else Nx H3):=by
  refine⟨λi m H=>m=xs.length-i/\i<=xs.length/\Pv i H,⟨xs.length,by simp,D1 _,h0⟩,?_⟩;rintro i m H ⟨rfl,hi,p⟩;have q:=hl i H hi p;by_cases DC:i<xs.length
  .refine .inr ⟨⟨xs,xs[i],q,by simp[DC]⟩,Pv (i+1),λH' p'=>⟨xs.length-(i+1),by lia,rfl,DC,p'⟩,λx H' y=>?_⟩;obtain⟨e,y⟩:=y;subst e;grind
  .have e:i=xs.length:=by lia
   subst e;exact .inl ⟨⟨xs,q,j1 _⟩,hd H p⟩
end L2
namespace L2
open PySem PySem.Spec PyProof.Rows
section
variable {prog:Program}{w:World}{A:Around}{R:Result->Shared->Prop}{s:Shared}{Xk t0 i0 t1 i1:Expr}{zmj zmk:List Expr}{scope:Scope}{pos:Pos}{it acc:Value}{env:Env}
end
section
variable {X:Cx}
end
end L2
namespace L2
open PySem PySem.Spec PyProof.Rows
variable {a:Addr}{A:Around}{X:Cx}{XC e:Expr}{h':Heap}{H H':Hp}{pins:List (Addr×Obj)}{xs:List (List YC×Addr×Value)}{kvs:List (List YC×V)}{o:Option V}{pos:Pos}{P:Program}{s:Shared}{σ:St}{td ty:TE}{d y v:V}{u r:Value}{E Q:Value->Shared->Prop}{w:World}
section
variable {κ:Type}[DecidableEq κ]
def a9(kvs:List (κ×V))(k:κ):Option V:=(kvs.find? λkv=>decide (kv.1=k)).map (·.2)
def nF(kvs:List (κ×V))(k:κ)(v:V):List (κ×V):=
 if (kvs.any λkv=>decide (kv.1=k))=true then kvs.map (λkv=>if kv.1=k then(kv.1,v)else kv)else kvs++[(k,v)]
theorem OA{p:κ×V}{r:List (κ×V)}{k:κ}(e:p.1=k):a9 (p::r) k=some p.2:=by simp[a9,iA,e]
theorem QA{p:κ×V}{r:List (κ×V)}{k:κ}(e:¬p.1=k):a9 (p::r) k=a9 r k:=by simp[a9,iA,e]
theorem oF(k:κ):∀kvs:List (κ×V),(kvs.any λkv=>decide (kv.1=k))=(a9 kvs k).isSome
 |[]=>rfl
 |p::r=>by
  rw[T8];by_cases e:p.1=k
  .simp only[OA e,F1 e,Bool.true_or,Option.isSome_some]
  .rw[QA e,Y0 e,OH];exact oF k r
theorem Ta(k j:κ)(y:V):∀kvs:List (κ×V),a9 (kvs.map λkv=>if kv.1=k then(kv.1,y)else kv) j=(a9 kvs j).map λx=>if j=k then y else x
 |[]=>rfl
 |p::r=>by
  have ih:=Ta k j y r;rw[L3];by_cases h:p.1=k
  .rw[J0 h];by_cases e:p.1=j
   .rw[OA (p:=(p.1,y)) e,OA e,aD,J0 (e.symm.trans h)]
   .rw[QA (p:=(p.1,y)) e,QA e,ih]
  .rw[D0 h];by_cases e:p.1=j
   .rw[OA (p:=p) e,OA e,aD,D0 (λz=>h (e.trans z))]
   .rw[QA (p:=p) e,QA e,ih]
theorem VW(k j:κ)(y:V):∀kvs:List (κ×V),a9 kvs k=none->a9 (kvs++[(k,y)]) j=if j=k then some y else a9 kvs j
 |[],_=>by
  by_cases e:k=j
  .rw[J0 e.symm];exact OA (p:=(k,y)) e
  .rw[D0 (λz=>e z.symm)];exact QA (p:=(k,y)) e
 |p::r,hn=>by
  rw[List.cons_append];have hk:¬p.1=k:=λz=>by grind [OA]
  rw[QA hk]at hn;have ih:=VW k j y r hn;by_cases e:p.1=j
  .rw[OA e,OA e,D0 (λz=>hk (e.trans z))]
  .rw[QA e,QA e,ih]
theorem Ua(kvs:List (κ×V))(k j:κ)(y:V):a9 (nF kvs k y) j=if j=k then some y else a9 kvs j:=by
 unfold nF;by_cases a:(kvs.any λkv=>decide (kv.1=k))=true
 .rw[J0 a,Ta];rw[oF]at a;by_cases e:j=k
  .obtain⟨x,hx⟩:=LH.mp a;grind
  all_goals simp_all
 .rw[D0 a];refine VW k j y kvs ?_;rw[oF]at a
  simp_all
theorem CD(kvs:List (κ×V))(k:κ)(v:V):(nF kvs k v).length<=kvs.length+1:=by
 unfold nF;split
 .rw[B0];lia
 .rw[T1,N1,O6];lia
theorem pT{kvs:List (κ×V)}{k:κ}(v:V) (h:a9 kvs k=none):nF kvs k v=kvs++[(k,v)]:=by
 grind [nF,oF]
theorem wG.isSome_eq{u:Option Value}(r:wG o u):o.isSome=u.isSome:=by
 cases o with
 |none=>cases u with
  |none=>rfl
  |some _=>exact(show False from r).elim
 |some _=>cases u with
  |none=>exact(show False from r).elim
  |some _=>rfl
theorem wG.getD{u:Option Value}{d':Value}(r:wG o u) (rd:T4 d d'):T4 (o.getD d) (u.getD d'):=by
 cases o with
 |none=>cases u with
  |none=>exact rd
  |some _=>exact(show False from r).elim
 |some _=>cases u with
  |none=>exact(show False from r).elim
  |some _=>exact r
theorem KV.val{kvs:List (κ×V)}{vs:List (κ×Value)}(r:KV kvs vs) (k:κ):wG (a9 kvs k) (valueAt vs k):=by
 unfold KV at r
 induction r with
 |nil=>exact g9
 |@cons p q ps qs h t ih=>
  obtain⟨h1,h2⟩:=h;by_cases e:p.1=k
  .have e':q.1=k:=h1.symm.trans e;have b:valueAt (q::qs) k=some q.2:=by simp[valueAt,iA,e']
   rw[OA e,b];exact h2
  .have e':¬q.1=k:=λz=>e (h1.trans z);have b:valueAt (q::qs) k=valueAt qs k:=by simp[valueAt,iA,e']
   rw[QA e,b];exact ih
theorem KV.any{kvs:List (κ×V)}{vs:List (κ×Value)}(r:KV kvs vs) (k:κ):(kvs.any λkv=>decide (kv.1=k))=vs.any λkv=>decide (kv.1=k):=by
 unfold KV at r
 induction r with
 |nil=>rfl
 |cons h t ih=>rw[T8,T8,ih,h.1]
theorem KV.repl{kvs:List (κ×V)}{vs:List (κ×Value)}(r:KV kvs vs) (k:κ) (ry:T4 y u) :
  KV (kvs.map λkv=>if kv.1=k then(kv.1,y)else kv) (vs.map λkv=>if kv.1=k then(kv.1,u)else kv):=by
 unfold KV at r ⊢
 induction r with
 |nil=>exact .nil
 |@cons p q ps qs h t ih=>
  rw[L3,L3];refine .cons ?_ ih;obtain⟨h1,h2⟩:=h;by_cases e:p.1=k
  all_goals grind
theorem KV.put{kvs:List (κ×V)}{vs:List (κ×Value)}(r:KV kvs vs) (k:κ) (ry:T4 y u):KV (nF kvs k y) (stored vs k u):=by
 unfold nF stored;rw[r.any k];by_cases e:(vs.any λkv=>decide (kv.1=k))=true
 .rw[J0 e,J0 e];exact r.repl k ry
 .rw[D0 e,D0 e];exact B4 r ⟨rfl,ry⟩
theorem KV.length{kvs:List (κ×V)}{vs:List (κ×Value)}(r:KV kvs vs):kvs.length=vs.length:=J1 r
end
theorem WW{k:YC}(r:T4 (kV k) u):(X9 P w).is k u=true:=by
 cases k with
 |inl i=>obtain⟨t,e⟩:=(show ∃t,u=Value.int i t from r);subst e;exact YZ P w i t
 |inr x=>obtain⟨t,e⟩:=(show ∃t,u=Value.str x t from r);subst e;exact ZZ P w x t
theorem NP{P:Program}{w:World}:∀{ks:List YC}{us:List Value},D4 (ks.map kV) us->ItemsAre (X9 P w) ks us
 |[],_,r=>by rw[RD]at r;cases r;exact .nil
 |k::ks,_,r=>by
  rw[L3]at r;cases r with
  |cons h t=>exact .cons (WW h) (NP t)
abbrev KT(H:Hp):List (List YC×V)->List (List YC×Addr×Value)->Prop:=Paired λp q=>p.1=q.1/\H q.2.1=some (.tup (p.1.map kV))/\T4 p.2 q.2.2
theorem KT.val(r:KT H kvs xs)(k:List YC):wG (a9 kvs k) ((atKey xs k).map (·.2)):=by
 induction r with
 |nil=>exact g9
 |@cons p q ps qs h t ih=>
  obtain⟨h1,_,h2⟩:=h;by_cases e:p.1=k
  .have e':q.1=k:=h1.symm.trans e;have b:atKey (q::qs) k=some q.2:=by simp[atKey,iA,e']
   rw[OA e,b];exact h2
  .have e':¬q.1=k:=λz=>e (h1.trans z);have b:atKey (q::qs) k=atKey qs k:=by simp[atKey,iA,e']
   rw[QA e,b];exact ih
theorem KT.repl(r:KT H kvs xs)(k:List YC)(ry:T4 y u) :
  KT H (kvs.map λkv=>if kv.1=k then(kv.1,y)else kv) (xs.map (putAt k u)):=by
 induction r with
 |nil=>exact .nil
 |@cons p q ps qs h t ih=>
  rw[L3,L3];refine .cons ?_ ih;obtain⟨h1,h2,h3⟩:=h;unfold putAt;by_cases e:p.1=k
  .rw[J0 e,J0 (h1.symm.trans e)];exact⟨h1,h2,ry⟩
  .rw[D0 e,D0 (λz=>e (h1.trans z))];exact⟨h1,h2,h3⟩
theorem KT.put(r:KT H kvs xs)(k:List YC){b:Addr}(hb:H b=some (.tup (k.map kV))) (ry:T4 y u) :
  KT H (nF kvs k y) (storedH xs k b u):=by
 have e:(kvs.any λkv=>decide (kv.1=k))=(atKey xs k).isSome:=by
  rw[oF,(r.val k).isSome_eq,Option.isSome_map]
 unfold nF storedH;rw[e];by_cases q:(atKey xs k).isSome=true
 .rw[J0 q,J0 q];exact r.repl k ry
 .rw[D0 q,D0 q];exact B4 r ⟨rfl,hb,ry⟩
theorem KT.keeps(r:KT H kvs xs)(ht:∀b ys,H b=some (.tup ys)->H' b=some (.tup ys)):KT H' kvs xs:=
 Paired.mapP r λ_ _ z=>⟨z.1,ht _ _ z.2.1,z.2.2⟩
section
variable {h:Heap}
theorem zbX{u:HO}(ok:pK P w H h) (e:Rd H a u):u9 P w H h a u:=e.ok ok
theorem XW{kvs:List (YC×V)}(ok:pK P w H h) (e:Rd H a (.dK kvs)):kvs.length<=sizeLine/\(a==sysModules)=false/\∃vs,KV kvs vs/\h.DictOf (X9 P w) a vs:=
 show u9 P w H h a (.dK kvs)from zbX ok e
theorem zbY{kvs:List (YC×V)}(ok:pK P w H h) (e:H a=some (.dK kvs)):kvs.length<=sizeLine/\(a==sysModules)=false/\∃vs,KV kvs vs/\h.DictOf (X9 P w) a vs:=XW ok (.inl e)
theorem qT{ks:List YC}(ok:pK P w H h) (e:H a=some (.tup (ks.map kV))):(tupleKind (X9 P w)).is h ks a:=by
 obtain⟨_,its,r,o,h1,h2,n,h3⟩:=(show u9 P w H h a (.tup (ks.map kV))from ok a _ e)
 exact⟨o,its.toArray,n,h1,h2,h3,by simpa using NP r⟩
theorem YW(ok:pK P w H h)(e:Rd H a (.dT kvs)):kvs.length<=sizeLine/\(a==sysModules)=false/\
  ∃xs,KT H kvs xs/\h.DictOfH (tupleKind (X9 P w)) a xs:=by
 obtain⟨z,y,xs,r,o,es,ep,h1,h2,h3,h4,h5⟩:=(show u9 P w H h a (.dT kvs)from zbX ok e)
 refine⟨z,y,xs,r,o,es,ep,h1,h2,h3,h4,λx hx=>?_,h5⟩;have all:∀{l:List (List YC×V)}{m:List (List YC×Addr×Value)},KT H l m->∀x∈m,(tupleKind (X9 P w)).is h x.1 x.2.1:=by
  intro l m q
  induction q with
  |nil=>grind
  |@cons p q ps qs hq t ih=>
   intro x hx;rcases S1.mp hx with e|hx
   .subst e;exact qT ok (by rw[<-hq.1];exact hq.2.1)
   .exact ih x hx
 exact all r x hx
theorem zfz(ok:pK P w H h)(e:H a=some (.dT kvs)):kvs.length<=sizeLine/\(a==sysModules)=false/\
  ∃xs,KT H kvs xs/\h.DictOfH (tupleKind (X9 P w)) a xs:=YW ok (.inl e)
end
def EK(H:Hp)(a:Addr)(y:V)(r:Option V):Prop:=
 (∃kvs k,Rd H a (.dK kvs)/\y=kV k/\r=a9 kvs k)\/∃kvs k b,Rd H a (.dT kvs)/\y=.ref b/\H b=some (.tup (k.map kV))/\r=a9 kvs k
def Qh(H:Hp)(a:Addr)(y v:V)(H':Hp):Prop:=
 (∃kvs k,H a=some (.dK kvs)/\y=kV k/\kvs.length<sizeLine/\H'=upd H a (.dK (nF kvs k v)))\/
 ∃kvs k b,H a=some (.dT kvs)/\y=.ref b/\H b=some (.tup (k.map kV))/\kvs.length<sizeLine/\H'=upd H a (.dT (nF kvs k v))
theorem EK.k{H:Hp}{a:Addr}{kvs:List (YC×V)}{k:YC}(e:H a=some (.dK kvs)):EK H a (kV k) (a9 kvs k):=.inl ⟨kvs,k,.inl e,rfl,rfl⟩
theorem Qh.k{H:Hp}{a:Addr}{kvs:List (YC×V)}{k:YC}{v:V}(e:H a=some (.dK kvs)) (hl:kvs.length<sizeLine):Qh H a (kV k) v (upd H a (.dK (nF kvs k v))):=.inl ⟨kvs,k,e,rfl,hl,rfl⟩
theorem V2.big(I:V2 X pins σ H s):sysModules<s.heap.objs.size:=by
 have h:mainGlobals<s.heap.objs.size:=(I.mod.glob.keeps I.bk).lt;exact WD (by decide) h
theorem Qp(hu:A.units+1<cLine)(I:V2 X pins σ H s)(g:EK H a y (some v))(ry:T4 y u)(h:∀w' s',V2 X pins σ H s'->T4 v w'->Q w' s') :
  wpAny (model X.prog X.w) A (getItem (.ref a) u) Q E s:=by
 rcases g with⟨kvs,k,e,ey,l⟩|⟨kvs,k,b,e,ey,eb,l⟩
 .subst ey;obtain⟨z,hd,vs,AS,dd⟩:=XW I.hok e;obtain⟨w',hw,WZ⟩:=wG.some_of (v:=v) (o:=valueAt vs k) (by rw[l];exact AS.val k);exact wpAny_getItem_of (WW ry) dd.mapOf hw (h w' _ (I.tok _) WZ)
 .subst ey;cases (show u=Value.ref b from ry);obtain⟨z,hd,xs,AS,dd⟩:=YW I.hok e;obtain⟨w',hw,WZ⟩:=wG.some_of (v:=v) (o:=(atKey xs k).map (·.2)) (by rw[l];exact AS.val k);obtain⟨p,hp,hp2⟩:=CJ.mp hw;refine wpAny_getItem_heap (fD hu) (qT I.hok eb) dd hp ?_;rw[hp2];exact h w' _ (I.tok _) WZ
theorem zaB(hu:A.units+1<cLine)(I:V2 X pins σ H s)(g:EK H a y o)(ry:T4 y u)(h:∀s',V2 X pins σ H s'->Q (.bool (!o.isSome)) s') :
  wpAny (model X.prog X.w) A (compareOp .NotIn u (.ref a)) Q E s:=by
 rcases g with⟨kvs,k,e,ey,l⟩|⟨kvs,k,b,e,ey,eb,l⟩
 .subst ey;obtain⟨z,hd,vs,AS,dd⟩:=XW I.hok e;refine wpAny_notIn_of (WW ry) hd dd.mapOf ?_;rw[<-(AS.val k).isSome_eq,<-l];exact h _ (I.tok _)
 .subst ey;cases (show u=Value.ref b from ry);obtain⟨z,hd,xs,AS,dd⟩:=YW I.hok e;refine wpAny_notIn_heap (fD hu) (qT I.hok eb) hd dd ?_;have q:=(AS.val k).isSome_eq;rw[Option.isSome_map]at q;rw[<-q,<-l];exact h _ (I.tok _)
theorem zY{t':Nat}{ob:HO}(I:V2 X pins σ H s) (mu:Zg (H a)) (hs:Heap.SameBut a s.heap h') (he:∃q,h'.get? a=some q) (new:u9 X.prog X.w (upd H a ob) h' a ob) :
  V2 X pins σ (upd H a ob) {s with heap:=h',toks:=t'}:=
 I.write (x:=a) (e:=a) mu (.inl rfl) (λb q hb z=>(hs.2 b hb).trans z) he new
theorem Vu{kvs:List (YC×V)}{vs:List (YC×Value)}(z:kvs.length<=sizeLine) (hd:(a==sysModules)=false) (AS:KV kvs vs) (dd:h'.DictOf (X9 P w) a vs) :
  u9 P w H' h' a (.dK kvs):=⟨z,hd,vs,AS,dd⟩
theorem Rp{Q:Unit->Shared->Prop}(hu:A.units+1<cLine) (I:V2 X pins σ H s) (g:Qh H a y v H') (ry:T4 y u) (rv:T4 v r) (h:∀s',V2 X pins σ H' s'->Q () s') :
  wpAny (model X.prog X.w) A (setItem (.ref a) u r) Q E s:=by
 rcases g with⟨kvs,k,e,ey,l,eH⟩|⟨kvs,k,b,e,ey,eb,l,eH⟩
 .subst ey eH;obtain⟨z,hd,vs,AS,dd⟩:=zbY I.hok e;have hz:vs.length<=sizeLine:=by rw[<-AS.length];exact z
  have hl:(nF kvs k v).length<=sizeLine:=by have:=CD kvs k v;lia
  refine wpAny_setItem_pairs (hsz:=hz) (WW ry) dd λh' dd' hs=>h _ ?_;have he:∃q,h'.get? a=some q:=let ⟨q,_,_,hq,_⟩:=dd';⟨q,hq⟩
  exact zY I (by rw[e];exact g9) hs he (Vu hl hd (AS.put k rv) dd')
 .subst ey eH;cases (show u=Value.ref b from ry);obtain⟨z,hd,xs,AS,dd⟩:=zfz I.hok e;have hz:xs.length<=sizeLine:=by rw[<-J1 AS];exact z
  have hl:(nF kvs k v).length<=sizeLine:=by have:=CD kvs k v;lia
  refine wpAny_setItem_heap (hsz:=hz) (fD hu) (qT I.hok eb) dd λh' dd' hs=>h _ ?_;obtain⟨q,es,ep,hq,h2,h3,h4,_,h5⟩:=dd';refine zY I (by rw[e];exact g9) hs ⟨q,hq⟩ ⟨hl,hd,_,(AS.put k eb rv).keeps λc ys ec=>?_,q,es,ep,hq,h2,h3,h4,h5⟩;rw[N0 (jF ec e (λz=>nomatch z))];exact ec
section
variable {kvs:List (YC×V)}{k:YC}
end
def zfA(i:Expr):Prop:=∀ov iv,subscripted i false ov iv=operate [ov,iv] (getItem ov iv)
theorem zaC{prog:Program}{env:Env}{SM:Expr}{T id:String}
 (hl:typeLookup (.type T) "__getitem__"= pure (some (.builtin id))) (hs:zfA SM)
 (h:wpAny (model prog w) A (eval XC env) (λo s₁=>wpAny (model prog w) A (eval SM env) (λi s₂=>s₂.TypeIs o T/\wpAny (model prog w) A (getItem o i) Q E s₂) E s₁) E s) :
   wpAny (model prog w) A (eval (.Subscript XC SM pos) env) Q E s:=by
  refine Subscript_ (P5 h (λo s₁ h₁=>P5 h₁ (λi s₂ h₂=>?_) λ_ _ x=>x) λ_ _ x=>x);obtain⟨hT,h₂⟩:=h₂;unfold subscriptTail;refine z0 ?_;rw[getitemInPython_of_ne hT.not_modules];refine z0 (wpAny_specialOf hT hl ?_);have fin:wpAny (model prog w) A (subscripted SM false o i) (λr s₃=>wpAny (model prog w) A (letTemporaryGo XC o r>>=λ_=>pure r) Q E s₃) E s₂:=by
   rw[hs o i];exact wpAny_operating (P5 h₂ (λr s₃ h₃=>z0 (wpAny_letTemporaryGo (S0 h₃))) λ_ _ x=>x)
  first
   |exact S0 (z0 fin)
   |exact z0 (S0 (z0 fin))
   |exact z0 fin
theorem Va(I:V2 X pins σ H s)(g:EK H a y o):s.TypeIs (.ref a) "dict":= by
 rcases g with⟨kvs,k,e,_,_⟩|⟨kvs,k,b,e,_,_,_⟩
 .obtain⟨_,_,vs,_,dd⟩:=XW I.hok e;exact dd.typeIs
 .obtain⟨_,_,xs,_,dd⟩:=YW I.hok e;exact dd.typeIs
inductive Wu(Q:VK)(x:V)(y:V)(H2:Hp):Prop
 |mk (a v:_):x=.ref a->EK H2 a y (some v)->Q v H2->Wu Q x y H2
def zfB(td ty:TE):TE:=λσ H Q=>td σ H λx H1=>ty σ H1 (Wu Q x)
inductive Wa(Q:VK)(y:V)(x:V)(H2:Hp):Prop
 |mk (a o:_):x=.ref a->EK H2 a y o->Q (.bl (!o.isSome)) H2->Wa Q y x H2
def zaD(ty td:TE):TE:=λσ H Q=>ty σ H λy H1=>td σ H1 (Wa Q y)
inductive Xu(D:eL)(σ:St)(v:V)(x:V)(y:V)(H3:Hp):Prop
 |mk (a H4:_):x=.ref a->Qh H3 a y v H4->D.nx σ H4->Xu D σ v x y H3
def zfC(td ty tv:TE):TS:=λD σ H=>tv σ H λv H1=>td σ H1 λx H2=>ty σ H2 (Xu D σ v x)
section
variable {o i:Expr}{ZK Hg:Pos}{tv:TE}
theorem GS(hu:X.A.units+1<cLine)(ho:PE X o td)(hi:PE X i ty)(hs:zfA i):PE X (.Subscript o i pos) (zfB td ty):=by
 intro pins s σ H Q I h;refine zaC PySem.F.slot_dict_getitem.lookup hs (n8 (ho pins s σ H _ I h) λu s1 ⟨x,H1,I1,rx,q1⟩=>n8 (hi pins s1 σ H1 _ I1 q1) λiv s2 ⟨y,H2,I2,ry,a,v,ex,g,q2⟩=>?_);subst ex;obtain rfl:u=Value.ref a:=rx;exact⟨Va I2 g,Qp hu I2 g ry λw' s3 I3 WZ=>⟨v,H2,I3,WZ,q2⟩⟩
theorem Tp(hu:X.A.units+1<cLine)(hi:PE X i ty)(ho:PE X o td):PC X .NotIn i o (zaD ty td):=by
 intro pins s σ H Q I h;refine n8 (hi pins s σ H _ I h) λiv s1 ⟨y,H1,I1,ry,q1⟩=>n8 (ho pins s1 σ H1 _ I1 q1) λu s2 ⟨x,H2,I2,rx,a,ov,ex,g,q2⟩=>?_;subst ex;obtain rfl:u=Value.ref a:=rx;exact zaB hu I2 g ry λs3 I3=>⟨.bl (!ov.isSome),H2,I3,rfl,q2⟩
theorem Xl(hu:X.A.units+1<cLine)(ho:PE X o td)(hi:PE X i ty)(hv:PE X XC tv)(hs:swapsWith XC (some (.Subscript o i ZK)) pos.line X.env=pure false) :
  PS X (.Assign [.Subscript o i ZK] XC pos) (zfC td ty tv):=by
 intro pins s σ H D I h;refine wpAny_Assign_Subscript (n8 (hv pins s σ H _ I h) λr s1 ⟨v,H1,I1,rv,q1⟩=>n8 (ho pins s1 σ H1 _ I1 q1) λu s2 ⟨x,H2,I2,rx,q2⟩=>n8 (hi pins s2 σ H2 _ I2 q2) λiv s3 ⟨y,H3,I3,ry,a,H4,ex,g,q3⟩=>?_) hs;subst ex;obtain rfl:u=Value.ref a:=rx;exact Rp hu I3 g ry rv λs4 I4=>⟨σ,H4,I4,q3⟩
end
theorem Yu(h:Heap)(hb:sysModules<h.objs.size):u9 P w H (h.push {cls:=.type "dict",data:=.dict #[]}) h.objs.size (.dK []):=
 ⟨D1 _,c6.mpr (N2 (K3 hb)),[],.nil,Heap.DictOf.new h⟩
def zdg:TE:=λ_ H Q=>∀p,H p=none->Q (.ref p) (upd H p (.dK []))
theorem rT:PE X (.Dict [] [] pos) zdg:=λpins s σ H Q I h=>
 wpAny_Dict_empty ⟨.ref s.heap.objs.size,_,I.laid (a:=s.heap.objs.size) (o:=.dK []) (t':=s.toks) (λ_ _ q=>V0 _ q) (j1 _) (Yu s.heap I.big),rfl,h _ (I.hok.fresh (j1 _))⟩
structure M2(X:Cx)(o:Expr)(m:Str)(yE:Pos)(e f:Expr)(QF:Pos):Prop where
 base:attributeBase o m X.env (eval o X.env)=eval o X.env
 few:((backTo QF (starEach [e,f] X.env)).all (λx=>!x.1)&&(backToKw QF (keywordEach [] X.env)).all (λx=>x.1.isSome)
  && decide (([e,f]:List Expr).length+([]:List Keyword).length+(if ([]:List Keyword).isEmpty then 0 else 1)<30))=true
 line:(yE.endLine==QF.line)=true
 trees:backTo QF (starEach [e,f] X.env)=[(false,eval e X.env),(false,eval f X.env)]
def IsD(H:Hp)(a:Addr):Prop:=(∃kvs,Rd H a (.dK kvs))\/∃kvs,Rd H a (.dT kvs)
theorem Zu(I:V2 X pins σ H s)(d:IsD H a) :
  s.TypeIs (.ref a) "dict" /\ (∀b,Value.ref a=.ref b->∃ob,s.heap.get? b=some ob/\ob.dict=none)/\(a==sysModules)=false:=by
 rcases d with⟨kvs,e⟩|⟨kvs,e⟩
 .obtain⟨_,hd,vs,_,dd⟩:=XW I.hok e;refine⟨dd.typeIs,λb q=>?_,hd⟩;cases q;obtain⟨ob,_,_,h1,h2,_⟩:=dd;exact⟨ob,h1,h2.2.1⟩
 .obtain⟨_,hd,xs,_,dd⟩:=YW I.hok e;refine⟨dd.typeIs,λb q=>?_,hd⟩;cases q;obtain⟨ob,_,_,h1,h2,_⟩:=dd;exact⟨ob,h1,h2.2.1⟩
theorem zdh(hu:A.units+1<cLine)(I:V2 X pins σ H s)(g:EK H a y o)(ry:T4 y u)(rd:T4 d r)(h:∀w' s',V2 X pins σ H s'->T4 (o.getD d) w'->Q w' s') :
  wpAny (model X.prog X.w) A (call (.builtin "dict.get") [.ref a,u,r]) Q E s:=by
 rcases g with⟨kvs,k,e,ey,l⟩|⟨kvs,k,b,e,ey,eb,l⟩
 .subst ey;obtain⟨z,hd,vs,AS,dd⟩:=XW I.hok e;refine XN BE dd.typeIs EJ (GI _ _ _) (meets_dict_get_default (X9 X.prog X.w) a (WW ry) hd r) ⟨_,dd.mapOf,h _ _ (I.tok _) ?_⟩;rw[l];exact(AS.val k).getD rd
 .subst ey;cases (show u=Value.ref b from ry);obtain⟨z,hd,xs,AS,dd⟩:=YW I.hok e;refine XN BE dd.typeIs EJ (GI _ _ _) (meetsH_dict_get_default (tupleKind (X9 X.prog X.w)) a b hd r) ⟨fD hu,k,xs,qT I.hok eb,dd,h _ _ (I.tok _) ?_⟩;rw[l];exact(AS.val k).getD rd
def zdi(td ty tx:TE):TE:=λσ H Q=>td σ H λx H1=>∃a,x=.ref a/\IsD H1 a/\ty σ H1 λy H2=>tx σ H2 λz H3=>∃o,EK H3 a y o/\Q (o.getD z) H3
section
variable {o f:Expr}{yE QF:Pos}{tx:TE}
theorem sT(hu:X.A.units+1<cLine)(ho:PE X o td)(he:PE X e ty)(hf:PE X f tx)(m:M2 X o "get" yE e f QF):PE X (.Call (.Attribute o "get" yE) [e,f] [] QF) (zdi td ty tx):=by
 intro pins s σ H Q I h;refine wpAny_Call_method m.base m.few m.line HI BE PySem.F.type_dict_get (n8 (ho pins s σ H _ I h) λu s1 ⟨x,H1,I1,rx,a,ex,d,q1⟩=>?_);subst ex;obtain rfl:u=Value.ref a:=rx;obtain⟨t1,t2,_⟩:=Zu I1 d;refine⟨t1,t2,?_⟩;rw[m.trees];refine gB rfl (mF (eB (n8 (he pins s1 σ H1 _ I1 q1) λiv s2 ⟨y,H2,I2,ry,q2⟩=>
  eB (n8 (hf pins s2 σ H2 _ I2 q2) λfv s3 ⟨z,H3,I3,rz,ov,g,q3⟩=>uH ?_))))
 exact zdh hu I3 g ry rz λw' s4 I4 WZ=>⟨_,H3,I4,WZ,q3⟩
end
section
variable {kvs:List (YC×V)}
end
end L2
namespace L2
open PySem PySem.Spec PyProof.Rows
section
variable {prog:Program}{w:World}{A:Around}{E:Value->Shared->Prop}
end
section
variable {X:Cx}
theorem mM:∀{ps:List Addr}{us:List Value},D4 (ps.map V.ref) us->us=ps.map Value.ref
 |[],us,r=>by
  rw[RD]at r;cases r;rfl
 |p::ps,us,r=>by
  rw[L3]at r;cases r with
  |cons h t=>
   cases h;rw[L3,<-mM t]
end
end L2
namespace L2
open PySem PySem.Spec PyProof.Rows
variable {d:Addr}{es:Array DictEntry}{X:Cx}{tg e:Expr}{u:HO}{H:Hp}{pins:List (Addr×Obj)}{kvs:List (YC×V)}{ch:List Addr}{Hz:List Expr}{t' n ep:Nat}{od o:Obj}{p pos Hg:Pos}{P:Program}{K:Frag}{s:Shared}{σ:St}{ta:TA}{w:World}
theorem tT:bootBuiltins "reversed"= some (.type "reversed"):=by decide +kernel
section
variable {h':Heap}
theorem V2.turnedL(I:V2 X pins σ H s)(k:∀b o,b∉ch->s.heap.get? b=some o->h'.get? b=some o)(hf:∀b∈ch,iL X pins H b):V2 X pins σ H {s with heap:=h',toks:=t'}:=by
 have nit:∀b u,H b=some u->b∉ch:=λb u e z=>by
  have q:=(hf b z).1;grind
 refine I.step (g':=s.gens) (d':=s.drawn) (ch:=ch) (λb hb=>⟨(hf b hb).2.2.2.1,(hf b hb).2.1,(hf b hb).2.2.2.2.1,(hf b hb).2.2.2.2.2⟩) (λb o _ _ hc e _=>k b o hc e) (λb o _ _ hc e _=>⟨o.slots,k b o hc e⟩)
  (λ_ _ _ _ n=>n) (λb o hc e=>⟨o,k b o hc e⟩) (λ_ _ e=>e) (λ_ _ _ e=>e) (λb ps e=>⟨#[],by rw[e];simp⟩) (λm hm=>?_) (λb u e=>?_) I.bare
 .obtain⟨o,es,ep,ho,r⟩:=hm;exact⟨o,es,ep,k _ o (λz=>(hf _ z).2.1 rfl) ho,r⟩
 .refine(I.hok b u e).stay (λc v hc q=>k c v ?_ q) (λ_ q=>q) λ_ _ q=>q;grind
theorem V2.turnedNew{T:Addr}{ob:HO}(I:V2 X pins σ H s) (k:∀b o,b∉ch->s.heap.get? b=some o->h'.get? b=some o) (hf:∀b∈ch,iL X pins H b) (hT:s.heap.objs.size<=T)
 (new:u9 X.prog X.w (upd H T ob) h' T ob):V2 X pins σ (upd H T ob) {s with heap:=h',toks:=t'}:=by
  have hn:H T=none:=I.hok.fresh hT;have nit:∀b u,H b=some u->b∉ch:=λb u e z=>by
   have q:=(hf b z).1;grind
  refine I.step (g':=s.gens) (d':=s.drawn) (ch:=ch) (λb hb=>⟨(hf b hb).2.2.2.1,(hf b hb).2.1,(hf b hb).2.2.2.2.1,(hf b hb).2.2.2.2.2⟩) (λb o _ _ hc e _=>k b o hc e) (λb o _ _ hc e _=>⟨o.slots,k b o hc e⟩)
   (λb o _ e n=>?_) (λb o hc e=>⟨o,k b o hc e⟩) (λb xs e=>?_) (λb o u e=>?_) (λb ps e=>⟨#[],?_⟩) (λm hm=>?_) (λb u e=>?_) I.bare
  .rw[N0 (K3 (P2 (K2 e) hT))];exact n
  .rw[N0 (C1 e hn)];exact e
  .rw[N0 (C1 e hn)];exact e
  .rw[N0 (C1 e hn),e];simp
  .obtain⟨o,es,ep,ho,r⟩:=hm;exact⟨o,es,ep,k _ o (λz=>(hf _ z).2.1 rfl) ho,r⟩
  .by_cases hb:b=T
   .subst hb;grind [C0]
   .rw[N0 hb]at e;refine(I.hok b u e).stay (λc v hc q=>k c v ?_ q) (λc q=>by rw[N0 (C1 q hn)];exact q) λc xs q=>by rw[N0 (C1 q hn)];exact q
    grind
theorem V2.lock(I:V2 X pins σ H s)(h:H d=some u)(mu:Zg (some u)):∃od,V2 X pins σ (upd H d (.frz od u)) s:=by
 have x:=I.hok d u h;have ex:∃od,s.heap.get? d=some od:=by
  cases u with
  |lst xs=>obtain⟨_,_,_,_,e⟩:=x;grind
  |dK kvs=>obtain⟨_,_,_,_,o,_,_,e,_⟩:=x;grind
  |dT kvs=>obtain⟨_,_,_,_,o,_,_,e,_⟩:=x;grind
  |set S n=>obtain⟨o,_,_,_,e,_⟩:=x;grind
  |ins C dx fs=>obtain⟨_,_,_,e,_⟩:=x;grind
  |ext φ=>obtain⟨_,⟨_,e⟩,_⟩:=x;grind
  |xd fs=>obtain⟨_,⟨o,_,_,e,_⟩,_⟩:=x;grind
  |_=>exact False.elim mu
 obtain⟨od,e⟩:=ex;have new:u9 X.prog X.w (upd H d (.frz od u)) s.heap d (.frz od u):=by
  refine⟨e,x.stay (λb v _ q=>q) (λb q=>?_) λb xs q=>?_⟩
  .rw[N0 (λz=>by rw[z,h]at q;cases q;exact mu)];exact q
  .rw[N0 (λz=>by rw[z,h]at q;cases q;exact mu)];exact q
 exact⟨od,I.write (x:=d) (e:=d) (t':=s.toks) (h':=s.heap) (by rw[h];exact mu) (.inl rfl) (λb v _ q=>q) ⟨od,e⟩ new⟩
theorem V2.nofrz(I:V2 X pins σ H s)(h:H d=some u)(mu:Zg (some u)):∀o' u',X.H_0 d≠some (.frz o' u'):=λo' u' e=>by
 have q:=I.base.frzs d o' u' e;rw[h]at q;cases q;exact mu
theorem V2.unlock(I:V2 X pins σ H s)(h:H d=some (.frz od u))(hn:∀o' u',X.H_0 d≠some (.frz o' u')):V2 X pins σ (upd H d u) s:=by
 have neH:∀b o,H b=some o->(∀o' u',o≠.frz o' u')->b≠d:=λb o e bL z=>by
  rw[z,h]at e;cases e;grind
 have neN:∀b,H b=none->b≠d:=λb e z=>by grind
 refine⟨I.ok,I.os,I.bare,⟨I.base.keep,I.base.slot,λb o e n hx=>?_,I.base.there,λb xs e=>?_,λb o x e=>?_,λb ps e=>?_⟩,I.loc,I.cell,?_,λx c e=>?_,λp hp=>?_,λb o e=>?_,I.len⟩
 .rw[N0 (neN b (I.base.free b o e n hx))];exact I.base.free b o e n hx
 .have q:=I.base.tups b xs e;rw[N0 (neH b _ q (λ_ _ z=>nomatch z))];exact q
 .have q:=I.base.frzs b o x e;rw[N0 (λz=>by rw[z]at e;exact hn _ _ e)];exact q
 .obtain⟨m,q⟩:=I.base.tbls b ps e;exact⟨m,by rw[N0 (neH b _ q (λ_ _ z=>nomatch z))];exact q⟩
 .rw[N0 (neN _ I.free)];exact I.free
 .rw[N0 (neN c (I.freeC x c e))];exact I.freeC x c e
 .obtain⟨e,n,r⟩:=I.pin p hp;exact⟨e,by rw[N0 (neN _ n)];exact n,r⟩
 .by_cases hb:b=d
  .rw[hb,C0]at e;cases e;rw[hb];obtain⟨_,x⟩:=I.hok d _ h;exact x.stay (λc v _ q=>q) (λc q=>by rw[N0 (neH c _ q (λ_ _ z=>nomatch z))];exact q) λc xs q=>by rw[N0 (neH c _ q (λ_ _ z=>nomatch z))];exact q
  .rw[N0 hb]at e;exact(I.hok b o e).stay (λc v _ q=>q) (λc q=>by rw[N0 (neH c _ q (λ_ _ z=>nomatch z))];exact q) λc xs q=>by rw[N0 (neH c _ q (λ_ _ z=>nomatch z))];exact q
end
def zfD(t:TS):TS:=λD σ H=>∃d u,H d=some u/\Zg (some u)/\∀od,t ⟨λσ' H'=>H' d=some (.frz od u)/\D.nx σ' (upd H' d u),λv H'=>H' d=some (.frz od u)/\D.rt v (upd H' d u),λσ' H'=>H' d=some (.frz od u)/\D.bk σ' (upd H' d u),λσ' H'=>H' d=some (.frz od u)/\D.ct σ' (upd H' d u)⟩ σ (upd H d (.frz od u))
theorem Yl{st:Stmt}{t:TS}(h:PS X st t):PS X st (zfD t):=by
 intro pins s σ H D I hw;obtain⟨d,u,hd,mu,hw⟩:=hw;obtain⟨od,I1⟩:=I.lock hd mu;refine n8 (h pins s σ _ _ I1 (hw od)) λf s1 q=>?_;cases f with
 |next=>obtain⟨σ',H',I2,e,q⟩:=q;exact⟨σ',_,I2.unlock e (I.nofrz hd mu),q⟩
 |brk=>obtain⟨σ',H',I2,e,q⟩:=q;exact⟨σ',_,I2.unlock e (I.nofrz hd mu),q⟩
 |cont=>obtain⟨σ',H',I2,e,q⟩:=q;exact⟨σ',_,I2.unlock e (I.nofrz hd mu),q⟩
 |ret v=>obtain⟨x,σ',H',I2,r,e,q⟩:=q;exact⟨x,σ',_,I2.unlock e (I.nofrz hd mu),r,q⟩
theorem uT{R:It->Hp->Prop}{J:It}{tn:Nat->Heap->Prop}{tk:Nat}(I:V2 X pins σ H s) (o:Obj)
 (T:XS X.prog X.w X.K tg J [s.heap.objs.size] s.heap.objs.size tn) (st:tn 0 (s.heap.push o)) (q:R J H):PIE X pins σ tg R (.ref s.heap.objs.size) {s with heap:=s.heap.push o,toks:=tk}:=by
  refine⟨s.heap.objs.size,[s.heap.objs.size],tn,J,H,rfl,I.kept λb ob e=>V0 _ e,T,st,λb hb=>?_,q⟩;have e:b=s.heap.objs.size:=by simpa using hb
  subst e;exact I.fpOk (j1 _) (I.hok.fresh (j1 _))
def Itc(lo c:Int)(n:Nat):It:=⟨λi _=>i<n,λi H x H'=>H'=H/\x=.int (lo+(i:Nat)*c),λi _=>n<=i⟩
theorem Xa(it:Addr)(lo c:Int)(n:Nat):XS P w K tg (Itc lo c n) [it] it (λi h=>IsRangeIter h it (lo+(i:Nat)*c) ((n:Int)-(i:Nat)) c) where
 mem:=by simp
 obj:=λi h st b hb=>by
  grind
 keep:=λi h h' st k=>k it (by simp) _ st
 item:=by
  intro X hP hw hK hc i pins s σ H E I hf st hg;subst hP hw hK;obtain⟨f0,f1,f2,f3,f4,f5⟩:=hf it (by simp);have W:=Walks.range (prog:=X.prog) (w:=X.w) (I.ok.hd hc) it lo c n;refine W.item i s _ _ hg st λv h' tk hv O9 kk=>?_;obtain⟨t,rfl⟩:=hv;have I1:V2 X pins σ H {s with heap:=h',toks:=tk}:=I.turned (λb o hb e=>kk b o (by simpa using hb) e) f0 f1 f3 f4 f5;exact⟨_,rfl,YS (s:={s with heap:=h',toks:=tk}) (n:= "range_iterator") O9 rfl rfl (by decide) ⟨.int (lo+(i:Nat)*c),H,I1,⟨t,rfl⟩,⟨rfl,rfl⟩,O9,λb hb=>(hf b hb).1⟩⟩
 done:=by
  intro X hP hw hK hc i pins s σ H E I hf st hg;subst hP hw hK;obtain⟨f0,f1,f2,f3,f4,f5⟩:=hf it (by simp);exact sJ (I.ok.hd hc) st (by have:n<=i:=hg;lia) λh' eb=>⟨rfl,I.turned (t':=s.toks) (λb o hb e=>eb b o hb e) f0 f1 f3 f4 f5⟩
 self:=λA i s Q E st h=>tJ st h
def RgC(i j c:Int)(n:Nat):Prop:=c≠0/\c.natAbs<1073741824/\Builtin.Range.small i j c=true/\Builtin.Range.rangeSize i j c=n
theorem RgC.neg{i j:Int}(ha:-(2^62)<=i) (Mt:i<2^62) (hb:-(2^62)<=j) (BP:j<2^62):RgC i j (-1) (i-j).toNat:=
 ⟨by decide,by decide,PySem.W.small_down ha Mt hb BP,PySem.W.rangeSize_downNat i j⟩
inductive Av(R:It->Hp->Prop)(vs:List V)(H1:Hp):Prop
 |mk (i j c:Int) (n:Nat):vs=[.int i,.int j,.int c]->RgC i j c n->R (Itc i c n) H1->Av R vs H1
def zfF(ta:TA):TI:=λσ H R=>ta σ H (Av R)
theorem Vp{a b c:Expr}(hg:Gl X "range") (hm:X.mg "range"= none) (ha:PA X [a,b,c] ta)
 (hs:starEach [a,b,c] X.env=(false,eval a X.env)::starEach [b,c] X.env:=by rfl) (IH:(backTo pos (starEach [b,c] X.env)).any (·.1)=false:=by rfl) :
   PI X tg (.Call (.Name "range" p) [a,b,c] [] pos) (zfF ta):=by
  intro pins s σ H R I h;refine Call_ (JH I hg hm boot_range (j5 (n8 (ha pos pins s σ H _ I h) λus s1 ⟨vs,H1,I1,r1,q1⟩=>?_) hs IH));obtain⟨i,j,k,n,e,⟨c0,c1,c2,c3⟩,q⟩:=q1;subst e;cases r1 with
  |cons r rr=>
   cases rr with
   |cons r' rr=>
    cases rr with
    |cons r'' rr=>
     cases rr;obtain⟨t,rfl⟩:=r;obtain⟨t',rfl⟩:=r';obtain⟨t'',rfl⟩:=r'';refine call_range_3 c0 ?_ (.inl (PyProof.noPylong_small c1));refine wpAny_pyIter_range (IsRange.new ..) c2 ?_;have I2:V2 X pins σ H1 {s1 with heap:=s1.heap.push {cls:=.type "range",data:=.fields #[.int i t,.int j t',.int k t'']}}:=I1.kept (t':=s1.toks) λb o e=>V0 _ e;refine uT (tk:=s1.toks) I2 _ (Xa _ i k n) ?_ q;have e1:i+((0:Nat):Int)*k=i:=by simp
     have e2:(n:Int)-((0:Nat):Int)=Builtin.Range.rangeSize i j k:=by rw[c3];simp
     show IsRangeIter _ _ (i+((0:Nat):Int)*k) ((n:Int)-((0:Nat):Int)) k;rw[e1,e2];exact V1 _ rfl
theorem Rh{lo c:Int}{g:TG}{tb:TS}{D:eL}(Pv:Nat->St->Hp->Prop) (h0:Pv 0 σ H)
 (hs:∀i σ H,i<n->Pv i σ H->g (.int (lo+(i:Nat)*c)) σ H λσ2 H2=>tb {D with nx:=Pv (i+1),ct:=Pv (i+1),bk:=D.nx} σ2 H2) (hd:∀σ H,Pv n σ H->D.nx σ H) :
   ∃W:Nat->Nat->St->Hp->Prop,(∃m,W 0 m σ H)/\∀i m σ H,W i m σ H->
    ((Itc lo c n).stop i H/\D.nx σ H)\/((Itc lo c n).go i H/\∃N:St->Hp->Prop,(∀σ' H',N σ' H'->∃m',m'<m/\W (i+1) m' σ' H')/\∀x H',(Itc lo c n).yld i H x H'->g x σ H' λσ2 H2=>tb {D with nx:=N,ct:=N,bk:=D.nx} σ2 H2):=by
  refine⟨λi m σ H=>m=n-i/\i<=n/\Pv i σ H,⟨n,by simp,D1 _,h0⟩,?_⟩;rintro i m σ H ⟨rfl,hi,p⟩;by_cases DC:i<n
  .refine .inr ⟨DC,Pv (i+1),λσ' H' p'=>⟨n-(i+1),by lia,rfl,DC,p'⟩,λx H' y=>?_⟩;obtain⟨e,y⟩:=y;subst e y;exact hs i σ _ DC p
  .have e:i=n:=by lia
   subst e;exact .inl ⟨j1 _,hd σ H p⟩
def Itv(K:Frag)(a:Addr)(n:Nat):It:=
 ⟨λi H=>i<n/\∃(xs:List V)(x:V),SqL K H a xs/\xs[n-1-i]?=some x,λi H x H'=>H'=H/\∀xs,SqL K H a xs->xs[n-1-i]?=some x,λi _=>n<=i⟩
theorem Bv(a it:Addr)(n:Nat):XS P w K tg (Itv K a n) [it] it (λi h=>i<=n/\h.IsRevIter it a ((n:Int)-1-(i:Nat))) where
 mem:=by simp
 obj:=λi h st b hb=>by
  have e:b=it:=by simpa using hb
  subst e;obtain⟨_,o,e,c,d⟩:=st;exact⟨o,e,λv z=>by rw[d]at z;cases z⟩
 keep:=λi h h' st k=>⟨st.1,st.2.at λo e=>k it (by simp) o e⟩
 item:=by
  intro X hP hw hK hc i pins s σ H E I hf st hg;subst hP hw hK;obtain⟨hin,xs,x,hq,hx⟩:=hg;obtain⟨its,rv,p,hz⟩:=I.list hq;obtain⟨u,hu,ru⟩:=rv.get hx;obtain⟨f0,f1,f2,f3,f4,f5⟩:=hf it (by simp);obtain⟨_,gH⟩:=st;have e1:(n:Int)-1-(i:Int)=((n-1-i:Nat):Int):=by lia
  rw[e1]at gH;refine wpAny_pyNext_rev_item gH p.isList (x:=u) (by simpa using hu) λh' O9 sb=>?_;have e2:((n-1-i:Nat):Int)-1=(n:Int)-1-((i+1:Nat):Int):=by lia
  rw[e2]at O9;have I1:V2 X pins σ H {s with heap:=h'}:=I.turned (t':=s.toks) (λb o hb e=>(sb.2 b hb).trans e) f0 f1 f3 f4 f5;obtain⟨o,e,c,d⟩:=id O9;exact⟨u,rfl,YS (s:={s with heap:=h'}) e c d (by decide) ⟨x,H,I1,ru,⟨rfl,λys hy=>by rw[I.list_inj hy hq];exact hx⟩,⟨hin,O9⟩,λb hb=>(hf b hb).1⟩⟩
 done:=by
  intro X hP hw hK hc i pins s σ H E I hf st hg;subst hP hw hK;obtain⟨f0,f1,f2,f3,f4,f5⟩:=hf it (by simp);obtain⟨hin,gH⟩:=st;have hge:n<=i:=hg;have e1:(n:Int)-1-(i:Int)=-1:=by lia
  rw[e1]at gH;exact wpAny_pyNext_rev_end (I.ok.hd hc) gH λh' eb=>⟨rfl,I.turned (t':=s.toks) (λb o hb e=>eb b o hb e) f0 f1 f3 f4 f5⟩
 self:=λA i s Q E st h=>wpAny_pyIter_revIter st.2 h
inductive zbZ(K:Frag)(R:It->Hp->Prop)(vs:List V)(H1:Hp):Prop
 |mk (a:Addr) (xs:List V):vs=[.ref a]->SqL K H1 a xs->R (Itv K a xs.length) H1->zbZ K R vs H1
def zij(K:Frag)(ta:TA):TI:=λσ H R=>ta σ H (zbZ K R)
theorem Ya(hg:Gl X "reversed")(hm:X.mg "reversed"= none)(ha:PA X [e] ta)(hs:starEach [e] X.env=[(false,eval e X.env)]:=by rfl):PI X tg (.Call (.Name "reversed" p) [e] [] pos) (zij X.K ta):=by
 intro pins s σ H R I h;refine Call_ (JH I hg hm tT (j5 (n8 (ha pos pins s σ H _ I h) λus s1 ⟨vs,H1,I1,r1,q1⟩=>?_) hs rfl));obtain⟨a,xs,e,hq,q⟩:=q1;subst e;cases r1 with
 |cons r rr=>
  cases rr;cases r;obtain⟨its,rv,p',hz⟩:=I1.list hq;have hl:=rv.length;have e1:(its.toArray.size:Int)-1=(xs.length:Int)-1-((0:Nat):Int):=by grind
  refine call_reversed_list p'.isList (wpAny_pyIter_revIter (l:=a) (i:=(its.toArray.size:Int)-1) ⟨_,V1 _ rfl,rfl,rfl⟩ ?_);refine uT (tk:=s1.toks) I1 _ (Bv a _ xs.length) ⟨D1 _,?_⟩ q;rw[<-e1];exact⟨_,V1 _ rfl,rfl,rfl⟩
def Its(x:Str):It:=⟨λi _=>i<x.cps.size,λi H v H'=>H'=H/\∃c,x.cps[i]?=some c/\v=.str ⟨#[c]⟩,λi _=>x.cps.size<=i⟩
theorem Za(it:Addr)(x:Str)(t:Tok)(ty:String)(hty:ty = "str_ascii_iterator" \/ ty = "str_iterator") :
  XS P w K tg (Its x) [it] it (λi h=>h.IsStrIter it ty x t i) where
 mem:=by simp
 obj:=λi h st b hb=>by
  have e:b=it:=by simpa using hb
  subst e;obtain⟨o,e,c,d⟩:=st;exact⟨o,e,λv z=>by rw[d]at z;cases z⟩
 keep:=λi h h' st k=>let ⟨o,ho,r⟩:=st;⟨o,k it (by simp) o ho,r⟩
 item:=by
  intro X hP hw hK hc i pins s σ H E I hf st hg;subst hP hw hK;obtain⟨f0,f1,f2,f3,f4,f5⟩:=hf it (by simp);have W:Walks X.prog X.w X.A it [it] [it] x.cps.size (SignAt x) (λi h=>h.IsStrIter it ty x t i):=by
   rcases hty with e|e
   .rw[e];exact Walks.strAscii (I.ok.hd hc) it x t
   .rw[e];exact Walks.strWide (I.ok.hd hc) it x t
  have hno:["enumerate","zip","dict_itemiterator","dict_reverseitemiterator","odict_iterator","itertools.zip_longest","itertools.pairwise"].contains ty=false:=by
   rcases hty with e|e
   .rw[e];decide
   .rw[e];decide
  refine W.item i s _ _ hg st λv h' tk hv O9 kk=>?_;obtain⟨c,u,hcx,rfl⟩:=hv;have I1:V2 X pins σ H {s with heap:=h',toks:=tk}:=I.turned (λb o hb e=>kk b o (by simpa using hb) e) f0 f1 f3 f4 f5;obtain⟨oi,e,cc,dd⟩:=id O9;exact⟨_,rfl,YS (s:={s with heap:=h',toks:=tk}) e cc dd hno ⟨.str ⟨#[c]⟩,H,I1,⟨u,rfl⟩,⟨rfl,c,hcx,rfl⟩,O9,λb hb=>(hf b hb).1⟩⟩
 done:=by
  intro X hP hw hK hc i pins s σ H E I hf st hg;subst hP hw hK;obtain⟨f0,f1,f2,f3,f4,f5⟩:=hf it (by simp);have hx:x.cps[i]?=none:=FJ hg;rcases hty with e|e
  .rw[e]at st;exact wpAny_pyNext_ascii_end (I.ok.hd hc) st hx λh' eb=>⟨rfl,I.turned (t':=s.toks) (λb o hb e=>eb b o hb e) f0 f1 f3 f4 f5⟩
  .rw[e]at st;exact wpAny_pyNext_wide_end (I.ok.hd hc) st hx λh' eb=>⟨rfl,I.turned (t':=s.toks) (λb o hb e=>eb b o hb e) f0 f1 f3 f4 f5⟩
 self:=λA i s Q E st h=>by
  rcases hty with e|e
  .rw[e]at st;exact wpAny_pyIter_striter_ascii st h
  .rw[e]at st;exact wpAny_pyIter_striter_wide st h
inductive zb0(R:It->Hp->Prop)(v:V)(H1:Hp):Prop
 |mk (x:_):v=.str x->R (Its x) H1->zb0 R v H1
def zik(te:TE):TI:=λσ H R=>te σ H (zb0 R)
theorem zdj{te:TE}(he:PE X e te):PI X tg e (zik te):=by
 intro pins s σ H R I h;refine n8 (he pins s σ H _ I h) λv s1 ⟨y,H1,I1,r1,x,ex,q⟩=>?_;subst ex;obtain⟨t,rfl⟩:=r1;cases ha:x.cps.all (·<128)
 .exact wpAny_pyIter_wide ha (uT (tk:=s1.toks) I1 _ (Za _ x t "str_iterator" (.inr rfl)) ⟨_,V1 _ rfl,rfl,rfl⟩ q)
 .exact wpAny_pyIter_ascii ha (uT (tk:=s1.toks) I1 _ (Za _ x t "str_ascii_iterator" (.inl rfl)) ⟨_,V1 _ rfl,rfl,rfl⟩ q)
section
variable {prog:Program}{A:Around}{E:Value->Shared->Prop}
theorem Xp{Q:Value->Shared->Prop}(hd:(d==sysModules)=false) (ho:s.heap.get? d=some o) (hc:o.ExactDict) (zgf:o.data=.dict es ep)
 (hQ:Q (.ref s.heap.objs.size) {s with heap:=s.heap.push {cls:=.type "dict_keyiterator",data:=.fields #[.ref d,.int 0 0,.int es.size 0,.int ep 0]}}) :
   wpAny (model prog w) A (pyIter (.ref d)) Q E s:=by
  have hT:s.TypeIs (.ref d) "dict":= ⟨o,ho,hc.1⟩;refine wpAny_pyIter_slot hT F.slot_dict_iter (J9 F.slot_dict_iter hT F.entry_dict_iter ?_ (F.args_dict_iter_1 _));unfold Builtin.«dict.__iter__»;refine z0 ?_;unfold Builtin.Dict.dictSlotNone;refine z0 (wpAny_notOrdered_dict hT ?_);show wpAny _ _ (pure (Value.ref d)) _ _ s;refine S0 ?_;show wpAny _ _ (Builtin.Dict.showsAll d>>=_) _ _ s;unfold Builtin.Dict.showsAll;rw[D0 (by rw[hd];exact X1)];refine z0 (S0 ?_);refine z0 (wpAny_dictEntries ho zgf ?_);refine z0 (wpAny_dictEpoch ho zgf ?_);refine z0 (N5 (S0 ⟨_,rfl,"dict_keyiterator",_,⟨_,V1 _ rfl,rfl⟩,qB.lookup,?_⟩));simpa[rawInt]using hQ
theorem AY{it:Addr}{i:Nat}{Q:Option Value->Shared->Prop}(hh:A.handled=none) (gH:s.heap.IsKeyIter it d i n ep) (hod:s.heap.get? d=some od) (hdd:od.data=.dict es ep)
 (hsz:es.size=n) (hge:n<=i) (hQ:∀h',Heap.ExtBut it s.heap h'->Q none {s with heap:=h'}):wpAny (model prog w) A (pyNext (.ref it)) Q E s:=by
  obtain⟨o,ho,hc,hd⟩:=id gH;unfold pyNext;refine z0 (QH (O7 (name:=Str.ofString "__next__") gH.typeIs qB
   (J9 qB gH.typeIs F.entry_dict_keyiterator_next ?_ (F.args_dict_keyiterator_next_1 _))))
  refine z0 (S0 ?_);refine z0 ?_;refine z0 ?_
  first|refine z0 (pF gH.typeIs (S0 ?_))|refine z0 (RH gH.typeIs (S0 ?_))
  refine z0 (wpAny_fieldsOf ho hd ?_);have ziO:Builtin.Dict_items.ownsTuple "dict_keyiterator"= false:=by decide
  simp only[ziO,F3,N7];show wpAny _ _ (if (Value.ref d==Value.none)=true then _ else _) _ _ s;rw[D0 (show ¬((Value.ref d==Value.none)=true)from X1)];refine z0 (S0 ?_);refine z0 (wpAny_dictEntries hod hdd ?_);rw[D0 (by rw[hsz];simp)];refine z0 (S0 ?_);refine z0 (wpAny_dictEpoch hod hdd ?_);rw[D0 (by simp)];refine S0 ?_;have ziP:es.size<=i:=by lia
  simp only[show ¬((i:Int)<0)from by lia,N7,c5,FJ ziP];refine z0 ?_
  first|refine z0 (pF gH.typeIs (S0 ?_))|refine z0 (RH gH.typeIs (S0 ?_))
  show wpAny _ _ (setField (.ref it) 0 .none>>=_) _ _ s;refine z0 (P9 ho hd (by simp) ?_);show wpAny _ _ (newExc (.type "StopIteration") []>>=_) _ _ _;refine z0 ?_;simp only[newExc,newTuple];refine z0 (N5 ?_ (by size_fits));refine z0 (m:=firstArgMember _ _) (wpAny_of_eq (a:=Value.none) (by first|rfl|(simp only[firstArgMember];rfl)) ?_);refine N5 ?_ (by size_fits);simp only[raiseNew];refine z0 (SH ?_);rw[show A.in1.handled=none from hh];refine z0 (S0 (DD ?_));refine z0 (wpAny_isInstance (T:= "StopIteration") (b:=true) ⟨_,V1 _ rfl,rfl⟩ isSubtype_stop ?_);exact S0 (hQ _ (((WF ..).extBut.push _).push _))
end
theorem zdk{κ:Type}{kvs:List (κ×V)}{vs:List (κ×Value)}(h:KV kvs vs):∀{i:Nat}{k:κ}{v:V},kvs[i]?=some (k,v)->∃u,vs[i]?=some (k,u)/\T4 v u:=by
 unfold KV at h
 induction h with
 |nil=>intro i k v e;simp at e
 |@cons a b l₁ l₂ r t ih=>
  intro i k v e;cases i with
  |zero=>
   simp only[II,Option.some.injEq]at e;subst e;refine⟨b.2,?_,r.2⟩;simp only[II];exact V6 some (ON r.1.symm rfl)
  |succ j=>
   simp only[List.getElem?_cons_succ]at e ⊢;exact ih e
theorem Cv{k:YC}{u:Value}(h:LQ k u=true):T4 (kV k) u:=by
 rcases t9 h with⟨i,t,rfl,rfl⟩|⟨x,t,rfl,rfl⟩
 .exact⟨t,rfl⟩
 .exact⟨t,rfl⟩
theorem V2.frzK(I:V2 X pins σ H s)(h:H d=some (.frz o (.dK kvs))) :
  (d==sysModules)=false/\s.heap.get? d=some o/\o.ExactDict/\∃(es:Array DictEntry)(ep:Nat)(vs:List (YC×Value)),o.data=.dict es ep/\es.size=kvs.length/\KV kvs vs/\s.heap.DictAt (X9 X.prog X.w) d vs ep:=by
 obtain⟨hd,z,hs,vs,kv,o',es,ep,ho,hx,Bp,r⟩:=I.hok d _ h;rw[hd]at ho;cases ho;refine⟨hs,hd,hx,es,ep,vs,Bp,?_,kv,o,es,hd,hx,Bp,r⟩;have l1:=r.2.1.length;have l2:kvs.length=vs.length:=J1 kv;grind
def Itk(d:Addr)(o:Obj)(kvs:List (YC×V)):It:=
 ⟨λi H=>H d=some (.frz o (.dK kvs))/\i<kvs.length,λi H x H'=>H'=H/\∃k v,kvs[i]?=some (k,v)/\x=kV k,λi H=>H d=some (.frz o (.dK kvs))/\kvs.length<=i⟩
theorem Zl{es':Array DictEntry}{ep':Nat}(h:o.data=.dict es ep) (h':o.data=.dict es' ep'):es'=es/\ep'=ep:=by
 grind
theorem Yp(it:Addr)(hod:o.data=.dict es ep):XS P w K tg (Itk d o kvs) [it] it (λi h=>h.IsKeyIter it d i kvs.length ep) where
 mem:=by simp
 obj:=λi h st b hb=>by
  have e:b=it:=by simpa using hb
  subst e;obtain⟨oi,e,c,dd⟩:=st;grind
 keep:=λi h h' st k=>st.at λoi e=>k it (by simp) oi e
 item:=by
  intro X hP hw hK hc i pins s σ H E I hf st hg;subst hP hw hK;obtain⟨hd,hi⟩:=hg;obtain⟨f0,f1,f2,f3,f4,f5⟩:=hf it (by simp);obtain⟨hs,hgd,hx,es',ep',vs,Bp,hsz,kv,hm⟩:=I.frzK hd;obtain⟨rfl,rfl⟩:=Zl hod Bp;obtain⟨⟨k,v⟩,hkv⟩:∃p,kvs[i]?=some p:=⟨kvs[i],K0 hi⟩
  obtain⟨u,hu,ru⟩:=zdk kv hkv;have hl:kvs.length=vs.length:=J1 kv;rw[hl]at st;refine wpAny_pyNext_dict_item st hm hu λPV h' zec O9 sb=>?_;have I1:V2 X pins σ H {s with heap:=h'}:=I.turned (t':=s.toks) (λb ob hb e=>(sb.2 b hb).trans e) f0 f1 f3 f4 f5;obtain⟨oi,e,c,dd⟩:=id O9;refine⟨PV,rfl,YS (s:={s with heap:=h'}) e c dd (by decide) ⟨kV k,H,I1,Cv (show LQ k PV=true from zec),⟨rfl,k,v,hkv,rfl⟩,?_,λb hb=>(hf b hb).1⟩⟩;grind
 done:=by
  intro X hP hw hK hc i pins s σ H E I hf st hg;subst hP hw hK;obtain⟨hd,hi⟩:=hg;obtain⟨f0,f1,f2,f3,f4,f5⟩:=hf it (by simp);obtain⟨hs,hgd,hx,es',ep',vs,Bp,hsz,kv,hm⟩:=I.frzK hd;obtain⟨rfl,rfl⟩:=Zl hod Bp;exact AY (I.ok.hd hc) st hgd Bp hsz hi λh' eb=>⟨rfl,I.turned (t':=s.toks) (λb ob hb e=>eb b ob hb e) f0 f1 f3 f4 f5⟩
 self:=λA i s Q E st h=>wpAny_pyIter_keyiter st h
inductive Am(R:It->Hp->Prop)(x:V)(H1:Hp):Prop
 |mk (d o kvs:_):x=.ref d->H1 d=some (.frz o (.dK kvs))->R (Itk d o kvs) H1->Am R x H1
def zdl(td:TE):TI:=λσ H R=>td σ H (Am R)
section
variable {td:TE}{yE QF:Pos}
end
def Ite(K:Frag)(a:Addr):It:=
 ⟨λi H=>∃(xs:List V)(x:V),SqL K H a xs/\xs[i]?=some x,λi H v H'=>∃T x,v=.ref T/\H T=none/\H'=upd H T (.tup [.int (i:Nat),x])/\∀xs,SqL K H a xs->xs[i]?=some x,λi H=>∃xs:List V,SqL K H a xs/\xs.length<=i⟩
theorem Zp{kk:Nat}(a e it:Addr) :
  XS P w K (.Tuple Hz kk Hg) (Ite K a) [e,it] e (λi h=>(∃old,IsEnum h e it ((i:Nat):Int) old)/\h.IsListIter it a i/\e≠it) where
 mem:=by simp
 obj:=λi h st b hb=>by
  obtain⟨⟨old,he⟩,⟨o,ho,hc,hd⟩,_⟩:=st;have e':b=e\/b=it:=by simpa using hb
  rcases e' with z|z
  all_goals grind
 keep:=λi h h' st k=>let ⟨⟨old,he⟩,hi,bL⟩:=st;⟨⟨old,k e (by simp) _ he⟩,hi.at λo q=>k it (by simp) o q,bL⟩
 item:=by
  intro X hP hw hK hc i pins s σ H E I hf st hg;subst hP hw hK;obtain⟨⟨old,he⟩,gH,bL⟩:=st;obtain⟨xs,x,hq,hx⟩:=hg;obtain⟨its,rv,p,hz⟩:=I.list hq;obtain⟨u,hu,ru⟩:=rv.get hx;have hel:e<s.heap.objs.size:=K2 he;have hil:it<s.heap.objs.size:=by obtain⟨_,q,_⟩:=gH;exact K2 q
  refine wpAny_pyNext_enum_item he gH p.isList (x:=u) (by simpa using hu) bL λh' ho Iz hT hsz hk=>?_;refine⟨_,rfl,EG (s:={s with heap:=h',toks:=s.toks+1}) ho λh'' he' sb=>?_⟩;have hT2:h''.get? s.heap.objs.size=some {cls:=.type "tuple",data:=.seq #[.int i s.toks,u]}:=(sb.2 _ (bG hel)).trans hT;have new:u9 X.prog X.w (upd H s.heap.objs.size (.tup [.int (i:Nat),x])) h'' s.heap.objs.size (.tup [.int (i:Nat),x]):=
   ⟨by show 2<=sizeLine;decide,[.int i s.toks,u],.cons ⟨_,rfl⟩ (.cons ru .nil),⟨_,hT2,rfl,_,rfl⟩⟩
  have I1:V2 X pins σ (upd H s.heap.objs.size (.tup [.int (i:Nat),x])) {s with heap:=h'',toks:=s.toks+1}:=
   I.turnedNew (ch:=[e,it]) (λb ob hb q=>(sb.2 b (λz=>hb (by simp[z]))).trans (hk b ob (λz=>hb (by simp[z])) (λz=>hb (by simp[z])) q)) hf (j1 _) new
  refine⟨.ref s.heap.objs.size,_,I1,rfl,⟨_,x,rfl,I.hok.fresh (j1 _),rfl,λys hy=>by rw[I.list_inj hy hq];exact hx⟩,⟨⟨u,?_⟩,Iz.at λo q=>(sb.2 it (N2 bL)).trans q,bL⟩,λb hb=>?_⟩
  .have e1:((i+1:Nat):Int)=(i:Int)+1:=by lia
   rw[e1];exact he'
  .have BP:b<s.heap.objs.size:=by
    have e':b=e\/b=it:=by simpa using hb
    rcases e' with z|z
    all_goals grind
   rw[N0 (K3 BP)];exact(hf b hb).1
 done:=by
  intro X hP hw hK hc i pins s σ H E I hf st hg;subst hP hw hK;obtain⟨⟨old,he⟩,gH,bL⟩:=st;obtain⟨xs,hq,hx⟩:=hg;obtain⟨its,rv,p,hz⟩:=I.list hq;obtain⟨f0,f1,f2,f3,f4,f5⟩:=hf it (by simp);have hl:=rv.length;exact wpAny_pyNext_enum_end (I.ok.hd hc) he gH p.isList (by simp;lia) λh' eb=>⟨rfl,I.turned (t':=s.toks) (λb o hb q=>eb b o hb q) f0 f1 f3 f4 f5⟩
 self:=λA i s Q E st h=>let ⟨⟨_,he⟩,_⟩:=st;XD he h
inductive Dv(K:Frag)(R:It->Hp->Prop)(vs:List V)(H1:Hp):Prop
 |mk (a xs:_):vs=[.ref a]->SqL K H1 a xs->R (Ite K a) H1->Dv K R vs H1
def zfJ(K:Frag)(ta:TA):TI:=λσ H R=>ta σ H (Dv K R)
theorem YN{kk:Nat}(hg:Gl X "enumerate") (hm:X.mg "enumerate"= none) (ha:PA X [e] ta) (hs:starEach [e] X.env=[(false,eval e X.env)]:=by rfl) :
  PI X (.Tuple Hz kk Hg) (.Call (.Name "enumerate" p) [e] [] pos) (zfJ X.K ta):=by
 intro pins s σ H R I h;refine Call_ (JH I hg hm boot_enumerate (j5 (n8 (ha pos pins s σ H _ I h) λus s1 ⟨vs,H1,I1,r1,q1⟩=>?_) hs rfl));obtain⟨a,xs,ex,hq,q⟩:=q1;subst ex;cases r1 with
 |cons r rr=>
  cases rr;cases r;obtain⟨its,rv,p',hz⟩:=I1.list hq;refine call_enumerate_list p'.isList λh' he gH hsz hk=>XD he ?_;have I2:V2 X pins σ H1 {s1 with heap:=h'}:=I1.kept (t':=s1.toks) hk;refine⟨s1.heap.objs.size+1,[s1.heap.objs.size+1,s1.heap.objs.size],_,_,H1,rfl,I2,Zp a (s1.heap.objs.size+1) s1.heap.objs.size,⟨⟨.none,he⟩,gH,Nat.succ_ne_self _⟩,λb hb=>?_,q⟩;have e':b=s1.heap.objs.size+1\/b=s1.heap.objs.size:=by simpa using hb
  have hle:s1.heap.objs.size<=b:=by
   rcases e' with z|z
   all_goals grind
  exact I1.fpOk hle (I1.hok.fresh hle)
end L2
namespace Bits
open PySem PyProof.Rows
end Bits
namespace TL
open PySem PySem.Builtin PySem.Builtin.Str PySem.StrLaws
abbrev tl(x:Str):List Nat:=x.cps.toList
def pre(S l:List Nat):Bool:=l.take S.length==S
def par(S:List Nat):List Nat->List Nat->Option (List Nat×List Nat)
 |_,[]=>none
 |acc,c::r=>if pre S (c::r)=true then some (acc,(c::r).drop S.length)else par S (acc++[c]) r
end TL
namespace L2
open PySem PySem.Spec PyProof.Rows
section
variable {X:Cx}{pins:List (Addr×Obj)}{σ:St}{H:Hp}{s:Shared}{Q:VK}
end
section
variable {X:Cx}
end
section
variable {X:Cx}{o e:Expr}{to te:TE}
end
end L2
namespace L2
open PySem PySem.Spec PyProof.Rows
section
variable {X:Cx}
end
end L2
namespace Att
open PySem PySem.W PySem.Calls PyProof.Rows
section
variable {prog:Program}{w:World}{A:Around}{E:Value->Shared->Prop}{s:Shared}{K:Frag}
end
end Att
namespace L2
open PySem PySem.Spec PyProof.Rows
end L2
namespace L2
open PySem PySem.Spec PyProof.Rows
end L2
namespace L2
open PySem PySem.Spec PyProof.Rows
variable {f:Addr}{H H':Hp}{xs:List V}{A B:Prop}{K:Frag}{st:Stmt}{x OB:Str}
def X7(s:Stmt)(j:Nat):Stmt:=match s with
 |.ClassDef _ _ _ body _ _ _ _ _ _ _=>body.getD j (.Pass ⟨0,0,0,0⟩)
 |_=>.Pass ⟨0,0,0,0⟩
def fF(s:Stmt):Arguments:=match s with
 |.FunctionDef _ a _ _ _ _ _ _ _ _=>a
 |_=>{posonlyargs:=[],args:=[],vararg:=none,kwonlyargs:=[],kw_defaults:=[],kwarg:=none,defaults:=[]}
def YD(s:Stmt):List Stmt:=match s with
 |.FunctionDef _ _ b _ _ _ _ _ _ _=>b
 |_=>[]
def X3(s:Stmt):Scope:=match s with
 |.FunctionDef _ _ _ _ _ _ sc _ _ _=>sc
 |_=>{kind:=.function,names:=[],isGenerator:=false,isCoroutine:=false}
abbrev E0:St->XK:=λ_ _ _ _=>False
structure Fun(K:Frag)(x OB:Str)(st:Stmt)(f:Addr)(fd:FuncData):Prop where
 ex:∃(oc:Value)(od:Option Addr)(kV Yo pm:Value)(an:Option Addr)(NV ct:Value)(osl:Array (Option Value)),
  fd=fnOf x OB (fF st) (YD st) (X3 st) .none kV Yo pm an NV ct/\K.lookup f=some ⟨oc,od,.func fd,osl⟩/\codeIn K NV OB=true
 kp:keepIn K (.ref f)=true
section
variable {P:Program}{w:World}{mg:Str->Option Value}{base:Heap}
theorem Fun.binds{fd:FuncData}{ps:List Str}(F:Fun K x OB st f fd)
 (h:∀(kV Yo pm:Value)(an:Option Addr)(NV ct:Value)(us:List Value),us.length=ps.length->bindArgs (fnOf x OB (fF st) (YD st) (X3 st) .none kV Yo pm an NV ct) ⟨us,[]⟩=pure (ps.zip us)):IB K fd ps []:=by
  obtain⟨oc,od,kV,Yo,pm,an,NV,ct,osl,rfl,lk,Ht⟩:=F.ex;exact .all (h kV Yo pm an NV ct)
theorem BY{oc:Value}{od an:Option Addr}{osl:Array (Option Value)}{kV Yo pm NV ct:Value}(l:K.lookup f=some ⟨oc,od,.func (fnOf x OB (fF st) (YD st) (X3 st) .none kV Yo pm an NV ct),osl⟩)
 (c:codeIn K NV OB=true) (k:keepIn K (.ref f)=true):Fun K x OB st f (fnOf x OB (fF st) (YD st) (X3 st) .none kV Yo pm an NV ct):=⟨⟨oc,od,kV,Yo,pm,an,NV,ct,osl,rfl,l,c⟩,k⟩
end
theorem GM{cm:Bool}{A:Around}{k:Nat}(hr:R8 cm k A):A.units+1<cLine:=Q9 (Nat.add_le_add_left (by decide:1<=64) _) hr.units
section
variable {X:Cx}
theorem pv(i:Nat){pos:Pos}(hN:X.N[i]?=some x:=by rfl) (hv:Vis X.env.scope x:=by first|exact Or.inl rfl|exact Or.inr (Or.inl rfl)|exact Or.inr (Or.inr rfl)) (hd:(x==("__debug__": Str))=false:=by decide)
 (Ht:(x==("__classdict__": Str))=false:=by decide):PE X (.Name x pos) (aG i):=zcR hN hv hd Ht
end
theorem a8(h:B):if false=true then A else B:=by
 grind
theorem C7(h:A):if true=true then A else B:=by
 grind
theorem zil{c:Prop}[Decidable c] (h1:c->A) (h2:¬c->B):if c then A else B:=by
 grind
def Same(H H':Hp):Prop:=∀b o,H b=some o->H' b=some o
theorem Same.refl(H:Hp):Same H H:=λ_ _ h=>h
theorem Same.trans{H1 H2:Hp}(a:Same H H1) (b:Same H1 H2):Same H H2:=λc o h=>b c o (a c o h)
theorem Same.free(e:Same H H'){l:Addr}(h:H' l=Option.none):H l=Option.none:=by
 cases q:H l with
 |none=>rfl
 |some o=>
  rw[e l o q]at h;cases h
theorem Same.seq{a:Addr}(e:Same H H') (h:SqL K H a xs):SqL K H' a xs:=by
 rcases h with(h|⟨o,h⟩)|h
 .exact .inl (.inl (e _ _ h))
 .exact .inl (.inr ⟨o,e _ _ h⟩)
 .exact .inr h
section
variable {κ:Type}[DecidableEq κ]
theorem Ev{kvs:List (κ×V)}{k:κ}(h:a9 kvs k=none):¬k∈kvs.map (·.1):=by
 intro m;obtain⟨p,hp,e⟩:=S2.mp m;have q:(kvs.any λkv=>decide (kv.1=k))=true:=RE.mpr ⟨p,hp,F1 e⟩;rw[oF,h]at q;grind
theorem Bm:∀{l:List κ}{k:κ},l.Nodup->¬k∈l->(l++[k]).Nodup
 |[],k,_,_=>by simp
 |a::r,k,h,hk=>by
  obtain⟨h1,h2⟩:=S5.mp h;show(a::(r++[k])).Nodup;refine S5.mpr ⟨λm=>?_,Bm h2 λm=>hk (S1.mpr (Or.inr m))⟩;grind
theorem zaE{kvs:List (κ×V)}{k:κ}(v:V) (hn:(kvs.map (·.1)).Nodup) (h:a9 kvs k=none):((nF kvs k v).map (·.1)).Nodup:=by
 rw[pT v h,U0];exact Bm hn (Ev h)
end
theorem vT{z:Int}{j:Nat}{v:V}(e:z=(j:Int)) (h:xs[j]?=some v):At xs z=some v:=by
 rw[e];exact X5 h
end L2
namespace L2
open PySem PySem.Spec PyProof.Rows
open PySem.W (WData Codec OpenSpec Well WellAll ReadsW ReadsAllW)
variable {a b:Addr}{cm:Bool}{h:Heap}{H:Hp}{A B:List Addr}{ps:List Str}{xs:List V}{vs:List Value}{ds:List WData}{P Pm:Params}{K:Frag}{R:PySem.W.WRecords}{cl:Str->Option Addr}{v:Value}{w:World}
mutual
inductive Dw(K:Frag)(H:Hp):V->WData->Prop
 |non:Dw K H .non .none
 |bl (b:Bool):Dw K H (.bl b) (.bool b)
 |int (i:Int):Dw K H (.int i) (.int i)
 |str (x:Str):Dw K H (.str x) (.str x)
 |byt (b:Array UInt8):Dw K H (.byt b) (.bytes b.toList)
 |lst {a:Addr} {xs:List V} {ds:List WData}:SqL K H a xs->sK K H xs ds->Dw K H (.ref a) (.list ds)
 |tup {a:Addr} {xs:List V} {ds:List WData}:eA K H a xs->sK K H xs ds->Dw K H (.ref a) (.tuple ds)
inductive sK(K:Frag)(H:Hp):List V->List WData->Prop
 |nil:sK K H [] []
 |cons {v:V} {vs:List V} {d:WData} {ds:List WData}:Dw K H v d->sK K H vs ds->sK K H (v::vs) (d::ds)
end
theorem dw_ints{K:Frag}{H:Hp}:∀ns:List Int,sK K H (ns.map V.int) (ns.map WData.int)
 |[]=>.nil
 |n::r=>.cons (.int n) (dw_ints r)
theorem ints_dw{K:Frag}{H:Hp}:∀(ns:List Int)(xs:List V),sK K H xs (ns.map WData.int)->xs=ns.map V.int
 |[],xs,h=>by
  cases h;rfl
 |n::r,xs,h=>by
  cases h with
  |cons h1 h2=>
   cases h1;rw[ints_dw r _ h2]<;>rfl
section
variable {P:Program}
theorem zdn(hok:pK P w H h)(KX:K.In h)(q:SqL K H a xs):∃(its:List Value)(o:Obj)(n:Nat),D4 xs its/\h.get? a=some o/\o.cls=.type "list" /\ o.data=.seq its.toArray n:=by
 rcases q with q|⟨o,its,n,e,hc,_,hd,_,hv⟩
 .obtain⟨_,its,n,hv,e⟩:=(show u9 P w H h a (.lst xs)from q.ok hok)
  exact⟨its,_,n,hv,e,rfl,rfl⟩
 .exact⟨its.toList,o,n,hv,KX _ _ e,hc,by simp[hd]⟩
theorem zdo(hok:pK P w H h)(KX:K.In h)(q:eA K H a xs):∃(its:List Value)(o:Obj)(n:Nat),D4 xs its/\h.get? a=some o/\o.cls=.type "tuple" /\ o.data=.seq its.toArray n:=by
 rcases q with q|⟨o,its,n,e,hc,hd,_,hv⟩
 .obtain⟨_,its,hv,o,e,hc,n,hd⟩:=(show u9 P w H h a (.tup xs)from q.ok hok)
  exact⟨its,o,n,hv,e,hc,hd⟩
 .exact⟨its.toList,o,n,hv,KX _ _ e,hc,by simp[hd]⟩
mutual
theorem Dw.reads(hok:pK P w H h)(KX:K.In h):∀(d:WData)(v:V)(u:Value),Dw K H v d->T4 v u->∃as,ReadsW R cl h u d as
 |.none,_,_,x,r=>by
  cases x;cases r;exact⟨_,ReadsW.none⟩
 |.bool b,_,_,x,r=>by
  cases x;cases r;exact⟨_,ReadsW.bool b⟩
 |.int i,_,_,x,r=>by
  cases x;obtain⟨t,rfl⟩:=r;exact⟨_,ReadsW.int i t⟩
 |.str s,_,_,x,r=>by
  cases x;obtain⟨t,rfl⟩:=r;exact⟨_,ReadsW.str s t⟩
 |.bytes b,_,_,x,r=>by
  cases x;obtain⟨t,rfl⟩:=r;exact⟨_,ReadsW.bytes _ t⟩
 |.list ds,_,_,x,r=>by
  cases x with
  |lst hs ha=>
   cases r;obtain⟨its,o,n,rv,ho,hc,hd⟩:=zdn hok KX hs;obtain⟨as,hr⟩:=Dw.readsAll hok KX ds _ its ha rv;exact⟨_,ReadsW.list ho hc hd hr⟩
 |.tuple ds,_,_,x,r=>by
  cases x with
  |tup hs ha=>
   cases r;obtain⟨its,o,n,rv,ho,hc,hd⟩:=zdo hok KX hs;obtain⟨as,hr⟩:=Dw.readsAll hok KX ds _ its ha rv;exact⟨_,ReadsW.tuple ho hc hd hr⟩
 |.float _,_,_,x,_=>by cases x
 |.dict _,_,_,x,_=>by cases x
 |.bytearray _,_,_,x,_=>by cases x
 |.set _,_,_,x,_=>by cases x
 |.frozenset _,_,_,x,_=>by cases x
 |.obj _ _,_,_,x,_=>by cases x
theorem Dw.readsAll(hok:pK P w H h)(KX:K.In h):∀(ds:List WData)(vs:List V)(us:List Value),sK K H vs ds->D4 vs us->∃as,ReadsAllW R cl h us ds as
 |[],_,_,x,r=>by
  cases x;cases r;exact⟨_,ReadsAllW.nil⟩
 |d::ds,_,_,x,r=>by
  cases x with
  |cons h1 h2=>
   cases r with
   |cons r1 r2=>
    obtain⟨as,q1⟩:=Dw.reads hok KX d _ _ h1 r1;obtain⟨bs,q2⟩:=Dw.readsAll hok KX ds _ _ h2 r2;exact⟨_,ReadsAllW.cons q1 q2⟩
end
end
mutual
def Cm:WData->Bool
 |.none=>true
 |.bool _=>true
 |.int _=>true
 |.str _=>true
 |.bytes _=>true
 |.list xs=>JR xs
 |.tuple xs=>JR xs
 |_=>false
def JR:List WData->Bool
 |[]=>true
 |x::r=>Cm x&&JR r
end
theorem Ab{α:Type}{f:α->WData}(h:∀a,Cm (f a)=true):∀l:List α,JR (l.map f)=true
 |[]=>rfl
 |x::r=>by
  show(Cm (f x)&&JR (r.map f))=true;rw[h x,Ab h r]<;>rfl
theorem vL:∀(c:Codec)(a:c.denote),Cm (c.enc a)=true
 |.unit,_=>rfl
 |.bool,_=>rfl
 |.int _ _,_=>rfl
 |.nat _ _,_=>rfl
 |.u8,_=>rfl
 |.bytes _ _,_=>rfl
 |.text _ _ _ _,_=>rfl
 |.list _ _ c,a=>Ab (λx=>vL c x) a
 |.pair c d,a=>by
  show(Cm (c.enc a.1)&&(Cm (d.enc a.2)&&true))=true;rw[vL c a.1,vL d a.2]<;>rfl
 |.triple c d e,a=>by
  show(Cm (c.enc a.1)&&(Cm (d.enc a.2.1)&&(Cm (e.enc a.2.2)&&true)))=true;rw[vL c a.1,vL d a.2.1,vL e a.2.2]<;>rfl
 |.option c,none=>rfl
 |.option c,some x=>vL c x
theorem ZW:∀(cs:List Codec)(a:Codec.denoteAll cs),JR (Codec.encAll cs a)=true
 |[],_=>rfl
 |c::cs,a=>by
  show(Cm (c.enc a.1)&&JR (Codec.encAll cs a.2))=true;rw[vL c a.1,ZW cs a.2]<;>rfl
theorem XM:∀{xs:List WData}{d:WData},d∈xs->d.weight<=WData.weightAll xs
 |[],d,h=>absurd h (by simp)
 |x::r,d,h=>by
  show d.weight<=x.weight+1+WData.weightAll r;rcases S1.mp h with e|m
  .rw[e]
   lia
  .have z:=XM m
   lia
def Bb:Value->V
 |.none=>.non
 |.bool b=>.bl b
 |.int i _=>.int i
 |.str x _=>.str x
 |.bytes b _=>.byt b
 |.ref a=>.ref a
 |_=>.non
def Aq(A:List Addr):Value->Prop
 |.none=>True
 |.bool _=>True
 |.int _ _=>True
 |.str _ _=>True
 |.bytes _ _=>True
 |.ref a=>a∈A
 |_=>False
theorem Aq.mono(h:∀a∈A,a∈B):∀{u:Value},Aq A u->Aq B u:=λ{u} x=>by
 cases u with
 |ref a=>exact h a x
 |none=>trivial
 |bool b=>trivial
 |int i t=>trivial
 |str s t=>trivial
 |bytes b t=>trivial
 |_=>exact False.elim x
theorem Fv{u:Value}(x:Aq A u):T4 (Bb u) u:=by
 cases u with
 |ref a=>rfl
 |none=>rfl
 |bool b=>rfl
 |int i t=>exact⟨t,rfl⟩
 |str s t=>exact⟨t,rfl⟩
 |bytes b t=>exact⟨t,rfl⟩
 |_=>exact False.elim x
theorem JI{A:List Addr}:∀{vs:List Value},(∀u∈vs,Aq A u)->D4 (vs.map Bb) vs
 |[],_=>.nil
 |u::r,h=>.cons (Fv (h u (M4 ..))) (JI λx hx=>h x (i3 _ hx))
def tK(h:Heap)(A:List Addr)(a:Addr):Prop:=∃vs:List Value,vs.length<=sizeLine/\(∀u∈vs,Aq A u)/\
 (h.get? a=some {cls:=.type "list",data:=.seq vs.toArray}\/h.get? a=some {cls:=.type "tuple",data:=.seq vs.toArray})
theorem tK.mono(k:∀a∈A,a∈B)(x:tK h A a):tK h B a:=by
 obtain⟨vs,h1,h2,h3⟩:=x;exact⟨vs,h1,λu hu=>(h2 u hu).mono k,h3⟩
theorem wH{P:Params}{h:Heap}:∀{vs:List Value}{ds:List WData},WellAll P h vs ds->vs.length=ds.length
 |_,_,.nil=>rfl
 |_,_,.cons _ b=>by
  show _+1=_+1;rw[wH b]
theorem aX(x:Well P h v (.list ds)):∃(a:Addr)(vs:List Value),v=.ref a/\h.get? a=some {cls:=.type "list",data:=.seq vs.toArray}/\WellAll P h vs ds:=by
 cases x with
 |list ho KQ=>exact⟨_,_,rfl,ho,KQ⟩
theorem wT(x:Well P h v (.tuple ds)):∃(a:Addr)(vs:List Value),v=.ref a/\h.get? a=some {cls:=.type "tuple",data:=.seq vs.toArray}/\WellAll P h vs ds:=by
 cases x with
 |tuple ho KQ=>exact⟨_,_,rfl,ho,KQ⟩
theorem bX{us:List Value}{d:WData}(x:WellAll P h us (d::ds)):∃(v:Value)(vs:List Value),us=v::vs/\Well P h v d/\WellAll P h vs ds:=by
 cases x with
 |cons a b=>exact⟨_,_,rfl,a,b⟩
theorem Dm{n:Nat}(h:n<=1048576):n<=sizeLine:=k4 h (by decide)
mutual
theorem Gv:∀(d:WData)(v:Value),Well P h v d->Cm d=true->d.weight<=1048576->∃A:List Addr,Aq A v/\∀a∈A,tK h A a
 |.none,_,x,_,_=>by
  cases x;exact⟨[],trivial,λa m=>absurd m (by simp)⟩
 |.bool b,_,x,_,_=>by
  cases x;exact⟨[],trivial,λa m=>absurd m (by simp)⟩
 |.int i,_,x,_,_=>by
  cases x;exact⟨[],trivial,λa m=>absurd m (by simp)⟩
 |.str s,_,x,_,_=>by
  cases x;exact⟨[],trivial,λa m=>absurd m (by simp)⟩
 |.bytes b,_,x,_,_=>by
  cases x;exact⟨[],trivial,λa m=>absurd m (by simp)⟩
 |.list ds,_,x,p,z=>by
  obtain⟨a,vs,rfl,ho,KQ⟩:=aX x;have z2:WData.weightAll ds<=1048576:=z;obtain⟨A,h1,h2⟩:=ZN ds _ KQ p λd hd=>k4 (XM hd) z2;have k:∀b∈A,b∈a::A:=λb hb=>i3 _ hb;refine⟨a::A,M4 ..,λb hb=>?_⟩;rcases S1.mp hb with e|m
  .rw[e];exact⟨vs,Dm (by rw[wH KQ];exact k4 (yF ds) z2),λu hu=>(h1 u hu).mono k,.inl ho⟩
  .exact(h2 b m).mono k
 |.tuple ds,_,x,p,z=>by
  obtain⟨a,vs,rfl,ho,KQ⟩:=wT x;have z2:WData.weightAll ds<=1048576:=z;obtain⟨A,h1,h2⟩:=ZN ds _ KQ p λd hd=>k4 (XM hd) z2;have k:∀b∈A,b∈a::A:=λb hb=>i3 _ hb;refine⟨a::A,M4 ..,λb hb=>?_⟩;rcases S1.mp hb with e|m
  .rw[e];exact⟨vs,Dm (by rw[wH KQ];exact k4 (yF ds) z2),λu hu=>(h1 u hu).mono k,.inr ho⟩
  .exact(h2 b m).mono k
 |.float _,_,_,p,_=>Bool.noConfusion (show false=true from p)
 |.dict _,_,_,p,_=>Bool.noConfusion (show false=true from p)
 |.bytearray _,_,_,p,_=>Bool.noConfusion (show false=true from p)
 |.set _,_,_,p,_=>Bool.noConfusion (show false=true from p)
 |.frozenset _,_,_,p,_=>Bool.noConfusion (show false=true from p)
 |.obj _ _,_,_,p,_=>Bool.noConfusion (show false=true from p)
theorem ZN:∀(ds:List WData)(vs:List Value),WellAll P h vs ds->JR ds=true->(∀d∈ds,d.weight<=1048576)->∃A:List Addr,(∀u∈vs,Aq A u)/\∀a∈A,tK h A a
 |[],_,x,_,_=>by
  cases x;exact⟨[],λu m=>absurd m (by simp),λa m=>absurd m (by simp)⟩
 |d::ds,_,x,p,z=>by
  obtain⟨v,vs,rfl,x1,x2⟩:=bX x;have q:Cm d=true/\JR ds=true:=RB.mp p;obtain⟨A,a1,a2⟩:=Gv d v x1 q.1 (z d (M4 ..));obtain⟨B,b1,b2⟩:=ZN ds vs x2 q.2 λe he=>z e (i3 _ he);have kA:∀b∈A,b∈A++B:=λb hb=>F2.mpr (.inl hb);have kB:∀b∈B,b∈A++B:=λb hb=>F2.mpr (.inr hb);refine⟨A++B,λu hu=>?_,λb hb=>?_⟩
  .rcases S1.mp hu with e|m
   .rw[e];exact a1.mono kA
   .exact(b1 u m).mono kB
  .rcases F2.mp hb with m|m
   .exact(a2 b m).mono kA
   .exact(b2 b m).mono kB
end
def zaF(o:Obj):Option HO:=match o.data with
 |.seq vs _=>if (o.cls==Value.type "list")=true then some (.frz o (.lst (vs.toList.map Bb)))else some (.frz o (.tup (vs.toList.map Bb)))
 |_=>none
def GJ(K:Frag)(h:Heap)(A:List Addr):Hp:=λb=>if b∈A then(if (K.lookup b).isNone=true then(h.get? b).bind zaF else none)else none
def Db(H:Hp):Prop:=∀b,H b=none\/∃o u,H b=some (.frz o u)
theorem Eb(vs:List Value):zaF {cls:=.type "list",data:=.seq vs.toArray}=some (.frz {cls:=.type "list",data:=.seq vs.toArray} (.lst (vs.map Bb))):=by
 show(if (Value.type "list"==Value.type "list")=true then some (HO.frz {cls:=.type "list",data:=.seq vs.toArray} (.lst (vs.toArray.toList.map Bb)))else some (HO.frz {cls:=.type "list",data:=.seq vs.toArray} (.tup (vs.toArray.toList.map Bb))))=_;grind
theorem Fb(vs:List Value):zaF {cls:=.type "tuple",data:=.seq vs.toArray}=some (.frz {cls:=.type "tuple",data:=.seq vs.toArray} (.tup (vs.map Bb))):=by
 show(if (Value.type "tuple"==Value.type "list")=true then some (HO.frz {cls:=.type "tuple",data:=.seq vs.toArray} (.lst (vs.toArray.toList.map Bb)))else some (HO.frz {cls:=.type "tuple",data:=.seq vs.toArray} (.tup (vs.toArray.toList.map Bb))))=_;rw[D0 (by decide)]
section
variable {P:Program}
theorem HS{o:Obj}(hb:b∈A) (hk:K.lookup b=none) (e:h.get? b=some o):GJ K h A b=zaF o:=by
 unfold GJ;rw[J0 hb,hk,J0 (show(none:Option Obj).isNone=true from rfl),e]<;>rfl
theorem zaG{u:HO}(q:GJ K h A b=some u):b∈A/\K.lookup b=none:=by
 unfold GJ at q;by_cases hb:b∈A
 .rw[J0 hb]at q;cases hk:K.lookup b with
  |none=>grind
  |some o=>
   grind
 all_goals grind
theorem IS(ar:∀a∈A,tK h A a){u:HO}(q:GJ K h A b=some u):K.lookup b=none/\∃vs:List Value,vs.length<=sizeLine/\(∀u∈vs,Aq A u)/\
  ((h.get? b=some {cls:=.type "list",data:=.seq vs.toArray}/\u=.frz {cls:=.type "list",data:=.seq vs.toArray} (.lst (vs.map Bb)))\/
   (h.get? b=some {cls:=.type "tuple",data:=.seq vs.toArray}/\u=.frz {cls:=.type "tuple",data:=.seq vs.toArray} (.tup (vs.map Bb)))):=by
 obtain⟨hb,hk⟩:=zaG q;obtain⟨vs,h1,h2,h3⟩:=ar b hb;refine⟨hk,vs,h1,h2,?_⟩;rcases h3 with e|e
 .rw[HS hb hk e,Eb]at q;grind
 .rw[HS hb hk e,Fb]at q;grind
theorem Bq(ar:∀a∈A,tK h A a):Db (GJ K h A):=λb=>by
 cases q:GJ K h A b with
 |none=>grind
 |some u=>
  obtain⟨_,vs,_,_,⟨_,e⟩|⟨_,e⟩⟩:=IS ar q
  all_goals grind
theorem zaH(ar:∀a∈A,tK h A a):pK P w (GJ K h A) h:=λb u q=>by
 obtain⟨_,vs,h1,h2,⟨e,rfl⟩|⟨e,rfl⟩⟩:=IS ar q
 .exact⟨e,by rw[B0];exact h1,vs,_,JI h2,e⟩
 .exact⟨e,by rw[B0];exact h1,vs,JI h2,_,e,rfl,_,rfl⟩
theorem zim(KX:K.In h)(ar:∀a∈A,tK h A a)(ha:a∈A)(e:h.get? a=some {cls:=.type "list",data:=.seq vs.toArray}):(∀u∈vs,Aq A u)/\SqL K (GJ K h A) a (vs.map Bb):=by
 obtain⟨us,h1,h2,h3⟩:=ar a ha;have hu:us=vs:=by
  grind
 subst hu;refine⟨h2,?_⟩;cases hk:K.lookup a with
 |none=>exact .inl (.inr ⟨_,by rw[HS ha hk e,Eb]⟩)
 |some o=>
  have e2:=KX a o hk;rw[e]at e2;obtain rfl:=M0 e2;exact .inr ⟨_,us.toArray,_,hk,rfl,rfl,rfl,by rw[K1];exact h1,by simpa using JI h2⟩
theorem zin(KX:K.In h)(ar:∀a∈A,tK h A a)(ha:a∈A)(e:h.get? a=some {cls:=.type "tuple",data:=.seq vs.toArray}):(∀u∈vs,Aq A u)/\eA K (GJ K h A) a (vs.map Bb):=by
 obtain⟨us,h1,h2,h3⟩:=ar a ha;have hu:us=vs:=by
  grind
 subst hu;refine⟨h2,?_⟩;cases hk:K.lookup a with
 |none=>exact .inl (.inr ⟨_,by rw[HS ha hk e,Fb]⟩)
 |some o=>
  have e2:=KX a o hk;rw[e]at e2;obtain rfl:=M0 e2;exact .inr ⟨_,us.toArray,_,hk,rfl,rfl,by rw[K1];exact h1,by simpa using JI h2⟩
mutual
theorem zdp{Pm:Params}(KX:K.In h) (ar:∀a∈A,tK h A a):∀(d:WData)(v:Value),Well Pm h v d->Cm d=true->Aq A v->Dw K (GJ K h A) (Bb v) d
 |.none,_,x,_,_=>by
  cases x;exact .non
 |.bool b,_,x,_,_=>by
  cases x;exact .bl b
 |.int i,_,x,_,_=>by
  cases x;exact .int i
 |.str s,_,x,_,_=>by
  cases x;exact .str s
 |.bytes b,_,x,_,_=>by
  cases x;have z:=Dw.byt (K:=K) (H:=GJ K h A) b.toArray;exact z
 |.list ds,_,x,p,hu=>by
  obtain⟨a,vs,rfl,ho,KQ⟩:=aX x;obtain⟨h2,hs⟩:=zim KX ar hu ho;exact .lst hs (CY KX ar ds _ KQ p h2)
 |.tuple ds,_,x,p,hu=>by
  obtain⟨a,vs,rfl,ho,KQ⟩:=wT x;obtain⟨h2,hs⟩:=zin KX ar hu ho;exact .tup hs (CY KX ar ds _ KQ p h2)
 |.float _,_,_,p,_=>Bool.noConfusion (show false=true from p)
 |.dict _,_,_,p,_=>Bool.noConfusion (show false=true from p)
 |.bytearray _,_,_,p,_=>Bool.noConfusion (show false=true from p)
 |.set _,_,_,p,_=>Bool.noConfusion (show false=true from p)
 |.frozenset _,_,_,p,_=>Bool.noConfusion (show false=true from p)
 |.obj _ _,_,_,p,_=>Bool.noConfusion (show false=true from p)
theorem CY{Pm:Params}(KX:K.In h) (ar:∀a∈A,tK h A a):∀(ds:List WData)(vs:List Value),WellAll Pm h vs ds->JR ds=true->(∀u∈vs,Aq A u)->sK K (GJ K h A) (vs.map Bb) ds
 |[],_,x,_,_=>by
  cases x;exact .nil
 |d::ds,_,x,p,hu=>by
  obtain⟨v,vs,rfl,x1,x2⟩:=bX x;have q:Cm d=true/\JR ds=true:=RB.mp p;exact .cons (zdp KX ar d v x1 q.1 (hu _ (M4 ..))) (CY KX ar ds vs x2 q.2 λu m=>hu u (i3 _ m))
end
end
theorem Cq{P:Program}{mg mb:Str->Option Value}{CX:Zs}{k:Nat}{fa:Addr}{fd:FuncData}{sp:Sp}{s₁:Shared}{IW:List Value}{d0:WData}
 (KX:K.In s₁.heap) (hns:s₁.heap.Ns mainGlobals mg) (hb:s₁.heap.Ns builtinsNs mb) (hbb:∀x:Str,x ≠ "__name__" -> mb x=bootBuiltins x) (ziS:s₁.heap.NoLimit) (hg:s₁.gens=#[])
 (hwl:WellAll w.params s₁.heap IW ds) (IH:JR ds=true) (hwt:∀d∈ds,d.weight<=1048576) (hr:R8 cm k callerA)
 (F:∀base:Heap,K.In base->base.Ns mainGlobals mg->EA P w K mg base CX cm k fa fd ps sp) (zgi:∀(s:Shared)(us:List Value),us.length=ps.length->BindsTo s fd ⟨us,[]⟩ (ps.zip us)) (LC:ds.length=ps.length)
 (hsp:∀(H:Hp)(xs:List V),Db H->sK K H xs ds->sp xs H (λv H'=>Dw K H' v d0) λ_ _ _=>False)
 (hCX:∀H e s',CX [] H s₁ (λ_ _ _=>False) e s'->False) :
   codeAny (model P w) callerA (.call (.ref fa) ⟨IW,[]⟩) (λr s'=>∃u as,r=.ok (.ret u)/\ReadsW R cl s'.heap u d0 as/\OldK s₁.heap s'.heap/\s'.os=s₁.os/\AllBare s'.gens) s₁:=by
  obtain⟨A,ho,ar⟩:=ZN ds IW hwl IH hwt;have hO:Db (GJ K s₁.heap A):=Bq ar;have hok:pK P w (GJ K s₁.heap A) s₁.heap:=zaH ar;have hS:=CY KX ar ds IW hwl IH ho;have hV:=JI ho;have hK:∀b u,GJ K s₁.heap A b=some u->K.lookup b=none:=λb u q=>(IS ar q).1;have noA:∀{b:Addr}{o:Obj}{es:Array DictEntry}{ep:Nat},s₁.heap.get? b=some o->o.data=.dict es ep->GJ K s₁.heap A b=none:=λ{b o es ep} e d=>by
   cases q:GJ K s₁.heap A b with
   |none=>rfl
   |some u=>
    obtain⟨_,vs,_,_,⟨e2,_⟩|⟨e2,_⟩⟩:=IS ar q
    .rw[e2]at e;cases e;grind
    .rw[e2]at e;cases e;grind
  generalize GJ K s₁.heap A=H at hO hok hS hK noA;have Cp:∀{b:Addr}{o:Obj},s₁.heap.get? b=some o->H b=none->(kY s₁.heap H).get? b=some o:=λe n=>Tt e n;have nsK:∀{b:Addr}{m:Str->Option Value},s₁.heap.Ns b m->(kY s₁.heap H).Ns b m:=λ{b m} ⟨o,es,ep,e,d,r⟩=>⟨o,es,ep,Cp e (noA e d),d,r⟩
  have nK:∀b o,K.lookup b=some o->H b=none:=λb o e=>by
   cases q:H b with
   |none=>rfl
   |some u=>
    rw[hK b u q]at e;cases e
  have hKb:K.In (kY s₁.heap H):=λb o e=>Cp (KX b o e) (nK b o e);have hM:Mod K mg (kY s₁.heap H):=⟨hKb,nsK hns,⟨mb,nsK hb,hbb⟩,let ⟨mc,h1,h2⟩:=ziS;⟨mc,nsK h1,h2⟩⟩
  have e0:iT P w K mg (kY s₁.heap H) callerA [] s₁ H:=⟨rfl,hM,λb o e=>zao e,mC (Ip _ _),trivial,λb hb=>absurd (show b∈([]:List Addr)from hb) (by simp),hok,.of_eq hg⟩
  have hl:IW.length=ps.length:=by rw[wH hwl];exact LC
  refine oC ((F _ hKb (nsK hns)).run callerA [] s₁ H ⟨IW,[]⟩ IW (IW.map Bb) _ _ hr e0 (zgi s₁ IW hl) hV (hsp H _ hO hS)) λr s' x=>?_;cases r with
  |error e=>exact(hCX H e s' x).elim
  |ok fl=>
   cases fl with
   |next=>exact False.elim x
   |brk=>exact False.elim x
   |cont=>exact False.elim x
   |ret u=>
    obtain⟨v,H',os,bare,un,zgj,r',q⟩:=x;have kept:∀b o,s₁.heap.get? b=some o->s'.heap.get? b=some o:=λb o e=>by
     cases q2:H b with
     |none=>exact un.keep b o e q2 (by intro z;exact absurd (show b∈([]:List Addr)from z) (by simp)) (by simp)
     |some u2=>
      rcases hO b with z|⟨ob,u3,z⟩
      .grind
      .have z2:=un.frzs b ob _ z;obtain⟨e1,_⟩:=hok b _ z;obtain⟨e2,_⟩:=zgj b _ z2;grind
    have KX':K.In s'.heap:=λb o e=>kept b o (KX b o e);obtain⟨as,hrd⟩:=Dw.reads (R:=R) (cl:=cl) zgj KX' d0 v u q r';exact⟨u,as,rfl,hrd,OldK.of_keep kept,os,bare⟩
theorem xT(h:WData.layableAll ds=true):∀d∈ds,d.weight<=1048576:=λd hd=>
 (PySem.W.layableW_iff.mp (Q7.mp h d hd)).2.2
theorem yT:∀(cs:List Codec)(a:Codec.denoteAll cs),(Codec.encAll cs a).length=cs.length
 |[],_=>rfl
 |c::cs,a=>by
  show(Codec.encAll cs a.2).length+1=cs.length+1;rw[yT cs a.2]
theorem Dq{r:OpenSpec}{k:Nat}{q:Program}{Jz:List Str}{XP:(Str->Option Value)->Heap->Prop}{YP:World->Heap->Prop}{d:DefRec}{K:Params->Frag}{CX:World->Zs}{sp:World->Sp}
 (Kz:r.wellSaid=true) (hdf:d.params.defaults=[]) (LC:r.args.length=ps.length) (hr:R8 cm k callerA)
 (hY:∀(w:World)(h:Heap),YP w h->(K w.params).In h)
 (F:∀(w:World)(mg:Str->Option Value)(fa:Addr)(h:Heap),YP w h->(K w.params).In h->h.Ns mainGlobals mg->mg d.name=some (.ref fa)->
 ∃fd:FuncData,(∀(s:Shared)(us:List Value),us.length=ps.length->BindsTo s fd ⟨us,[]⟩ (ps.zip us))/\
 ∀base:Heap,(K w.params).In base->base.Ns mainGlobals mg->EA r.prog w (K w.params) mg base (CX w) cm k fa fd ps (sp w))
 (hsp:∀(w:World)(H:Hp)(xs:List V)(a:Codec.denoteAll r.args),Db H->Codec.withinAll r.args a=true->Codec.app r.args r.asked a=true->sK (K w.params) H xs (Codec.encAll r.args a)->
 sp w xs H (λv H'=>Dw (K w.params) H' v (r.ret.enc (Codec.app r.args r.f a))) λ_ _ _=>False)
 (hCX:∀(w:World)(H:Hp)(s:Shared)(e:Value)(s':Shared),CX w [] H s (λ_ _ _=>False) e s'->False) :
   WalkOS q Jz XP YP r d [] (λf vs=>PySem.call f vs):=by
  intro w s_0 s₁ mg mb G Y fa o pm cd Yo dV kV ho hd Ht hD hmg hg args IW as ziV ziW hrd hwl hlo;obtain⟨a,e1,e2⟩:=PySem.W.os_pre_some ziV;obtain⟨e3,Ig⟩:=Codec.encAll_of_decAll r.args args a e1;subst e3;have KX:=hY w _ Y;obtain⟨fd,hb,hF⟩:=F w mg fa _ Y KX G.T.g hmg;refine PySem.W.enter_call (oC (Cq (R:=[]) (cl:=classAt s_0.heap) (d0:=r.ret.enc (Codec.app r.args r.f a)) KX G.T.g G.T.b G.T.builtins G.T.nolimit hg hwl (ZW _ _) (xT ziW) hr hF hb (by rw[yT];exact LC)
   (λH xs hO hS=>hsp w H xs a hO Ig e2 hS) λH e s'=>hCX w H s₁ e s') λr' s' hq=>?_)
  obtain⟨u,as',rfl,h1,h2,h3,h4⟩:=hq;exact⟨.inl ⟨u,_,as',rfl,λ_=>rfl,h1,(OpenSpec.post_iff Kz Ig _ _).mpr rfl,λz=>Bool.noConfusion (show false=true from z)⟩,h2,h3,h4⟩
end L2
namespace L2
open PySem PySem.Spec PyProof.Rows
variable {a C b L f:Addr}{A:Around}{g:Array GenState}{fr cm:Bool}{X:Cx}{d:Drawn}{env:Env}{e:Expr}{fd:FuncData}{o:HO}{h h' base:Heap}{H H':Hp}{pins Gg:List (Addr×Obj)}{σ:List (Option V)}{body:List Stmt}{N ps:List Str}{us:List Value}{M:Model}{i t:Nat}{dx:Option Addr}{os:OsState}{pos:Pos}{P prog:Program}{R:Result->Shared->Prop}{s:Shared}{sp:Sp}{x OB n:Str}{te:TE}{Q:Unit->Shared->Prop}{tb:Value}{E:Value->Shared->Prop}{w:World}
def xP(C:Addr)(fr:Bool)(dx:Option Addr)(tb:Value)(a:Addr)(h:Heap):Prop:=
 ∃vs sl,h.get? a=some ⟨.ref C,dx,.fields vs,sl⟩/\vs.size=6/\vs[1]?=some tb/\(fr=true->vs[2]?=some .none)
def xO(C:Addr)(fr:Bool)(dx:Option Addr)(tb:Value)(a:Addr):HO:=.ext (xP C fr dx tb a)
def tP(fl:Value)(a:Addr)(h:Heap):Prop:=∃o ts,h.get? a=some o/\o.data=.fields ts/\ts[3]?=some fl
def tO(fl:Value)(a:Addr):HO:=.ext (tP fl a)
def Fq(H:Hp)(a C:Addr)(fr:Bool)(dx:Option Addr):Prop:=
 H a=some (xO C fr dx .none a)\/∃T fl,T≠a/\H a=some (xO C fr dx (.ref T) a)/\H T=some (tO fl T)
def FG(H:Hp)(a C:Addr)(fr:Bool)(dx:Option Addr)(fl:Value):Prop:=∃T,T≠a/\H a=some (xO C fr dx (.ref T) a)/\H T=some (tO fl T)
theorem FG.live{fl:Value}(l:FG H a C fr dx fl):Fq H a C fr dx:=let ⟨T,h⟩:=l;.inr ⟨T,fl,h⟩
def iD(H:Hp):Hp:=λb=>match H b with
 |some (.ext _)=>none
 |o=>o
theorem wL{φ ψ:Heap->Prop}(h:H a=some (.ext φ)\/H a=none):iD (upd H a (.ext ψ))=iD H:=by
 funext b;unfold iD upd;by_cases e:b=a
 .subst e;rw[J0 rfl];rcases h with h|h<;>rw[h]
 .rw[D0 e]
theorem sG(h:iD H b=some o):H b=some o:=by
 unfold iD at h;split at h
 .cases h
 .exact h
theorem ZD(h:H b=some o)(n:∀φ,o≠.ext φ):iD H b=some o:=by
 unfold iD;split
 .rename_i φ e;rw[h]at e;exact absurd (M0 e) (n φ)
 .exact h
section
variable {fl:Value}
theorem zaI(h1 h2:Heap)(p:xP C fr dx tb a h1)(k:∀o,h1.get? a=some o->h2.get? a=some o):xP C fr dx tb a h2:=
 let ⟨vs,sl,e,r⟩:=p;⟨vs,sl,k _ e,r⟩
theorem zaJ(h1 h2:Heap)(p:tP fl a h1)(k:∀o,h1.get? a=some o->h2.get? a=some o):tP fl a h2:=
 let ⟨o,ts,e,r⟩:=p;⟨o,ts,k _ e,r⟩
theorem Em(p:xP C fr dx tb a h):u9 P w H h a (xO C fr dx tb a):=⟨p,let ⟨_,_,e,_⟩:=p;⟨_,e⟩,zaI⟩
theorem Fm(p:tP fl a h):u9 P w H h a (tO fl a):=⟨p,let ⟨_,_,e,_⟩:=p;⟨_,e⟩,zaJ⟩
theorem Sh:Zg (some (xO C fr dx tb a)):=g9
theorem Th:Zg (some (tO fl a)):=g9
end
section
variable {fl:Value}
theorem V2.xo(I:V2 X pins σ H s)(e:H a=some (xO C fr dx tb a)):xP C fr dx tb a s.heap:=(I.hok a _ e).1
theorem V2.to(I:V2 X pins σ H s)(e:H a=some (tO fl a)):tP fl a s.heap:=(I.hok a _ e).1
theorem Gb(x:pK P w H h)(k:∀b u,(∃o,H b=some o)->h.get? b=some u->h'.get? b=some u):pK P w H h':=λb u e=>
 (x b u e).stay (λc v hc q=>k c v (by
   rcases hc with z|z
   .exact⟨u,by rw[z];exact e⟩
   .exact⟨_,z⟩) q) (λ_ q=>q) λ_ _ q=>q
theorem V2.slots(I:V2 X pins σ H s)(hs:Heap.SlotsOnly (Bl X.stack) s.heap h'):V2 X pins σ H {s with heap:=h'}:=by
 have fr0:∀b,(∃o,H b=some o)->b∉Bl X.stack:=λb ⟨o,e⟩ z=>by
  rw[I.stkFree b z]at e;cases e
 refine I.call (g':=s.gens) (d':=s.drawn) (t':=s.toks) (ch:=[]) ⟨λb o e _ hb _=>(hs.2.1 b hb).trans e,λb o e _ _ _=>hs.2.2 b o e,λb o _ n _=>n,λb o e _=>?_,λ_ _ q=>q,λ_ _ _ q=>q,λ_ ps q=>⟨#[],by rw[q];simp⟩⟩
  (Gb I.hok λb u hb e=>(hs.2.1 b (fr0 b hb)).trans e) I.bare (λb z=>absurd z (by simp))
 obtain⟨sl,e'⟩:=hs.2.2 b o e;exact⟨_,e'⟩
theorem aO{o:Obj}{vs:Array Value}{x:Value}(e:h.get? a=some o) (d:o.data=.fields vs):(h.update a (Obj.mapFields (·.setIfInBounds i x))).get? a=some {o with data:=.fields (vs.setIfInBounds i x)}:=by
 obtain⟨c,dd,dt,sl⟩:=o;obtain rfl:dt=.fields vs:=d;exact DB _ e rfl
end
section
variable {fl:Value}
theorem Uh{fo:Option Addr}(I:V2 X pins σ H s) (l:FG H a C fr dx fl)
 (h:∀H' s',V2 X pins σ H' s'->iD H'=iD H->FG H' a C fr dx (fo.elim .none λf=>rawInt f)->Q () s') :
   wpAny M A (setFlight (.ref a) fo) Q E s:=by
  obtain⟨T,hT,e1,e2⟩:=l;obtain⟨vs,sl,g1,sz,v1,v2⟩:=V2.xo I e1;obtain⟨o,ts,g2,d2,t3⟩:=V2.to I e2;have hsz:3<ts.size:=(R9.mp t3).1;unfold setFlight;refine z0 (O5 g1 rfl v1 ?_);rw[J0 (show(Value.ref T != Value.none)=true from by simp)];refine P9 g2 d2 hsz ?_;have mu:Zg (H T):=by rw[e2];exact Th
  have g3:=aO (i:=3) (x:=fo.elim Value.none λf=>rawInt f) g2 d2;refine h (upd H T (tO _ T)) _ (I.write (x:=T) (e:=T) (t':=s.toks) mu (.inl rfl) (λb u hb q=>?_) ⟨_,g3⟩ (Fm ⟨_,_,g3,rfl,by simp[hsz]⟩)) (wL (φ:=tP fl T) (.inl e2)) ⟨T,hT,?_,C0⟩
  .rw[Q5 _ _ (N2 hb)];exact q
  .rw[N0 (N2 hT)];exact e1
theorem Hv{env0:Env}{Y7:List Env}{Q:Value->Shared->Prop}(Xg:A.frames=some (env0::Y7)) (hl:s.heap.FunFrames base (env0::Y7)) (Mz:env0.frame=some L) (hf:env.frame=some L)
 (h:∀h1,Heap.SlotsOnly ((env0::Y7).filterMap (·.frame)) s.heap h1->Q (.ref L) {s with heap:=h1}):wpAny M A (PySem.frameOf env) Q E s:=by
  unfold PySem.frameOf;refine z0 (wpAny_frameEnvs Xg ?_);have dw:((env0::Y7).dropWhile λx=>x.frame != env.frame)=env0::Y7:=by simp[List.dropWhile,hf,Mz]
  rw[dw];unfold frameObject;refine z0 (z0 (wpAny_readyFrames_fun hl λh1 hs1=>S0 ?_));rw[Mz];exact S0 (h h1 hs1)
theorem Ib{head:Value}{b:Bool}{env0:Env}{Y7:List Env}(I:V2 X pins σ H s) (Xg:A.frames=some X.stack) (RM:X.stack=env0::Y7) (Mz:env0.frame=some L) (hf:env.frame=some L) (e1:H a=some (xO C fr dx tb a))
 (h:∀H' s',V2 X pins σ H' s'->iD H'=iD H->FG H' a C fr dx (rawInt L)->Q () s') :
   wpAny M A (do let z <-PySem.frameOf env;let pl <-entryPlaceOf L b;let y <-EntryCells.newEntry head z .none (rawInt L) .none pl;setField (.ref a) 1 y) Q E s:=by
  have hl:=I.stack;rw[RM]at hl Xg;refine z0 (Hv Xg hl Mz hf λh1 hs1=>?_);have I1:V2 X pins σ H {s with heap:=h1}:=V2.slots I (by rw[RM];exact hs1);refine z0 (wpAny_entryPlaceOf λpl IH=>?_);unfold EntryCells.newEntry newFields;refine z0 (N5 ?_ (IH.sizeOk5 _ _ _ _ _));have gT:=V1 h1 (o:={cls:=.type "traceback",dict:=none,data:=.fields ([head,.ref L,.none,rawInt L,.none]++(if pl.isEmpty then List.replicate 6 Value.none else pl)).toArray}) rfl;have hn:H h1.objs.size=none:=I1.hok.fresh (j1 _);have I2:=I1.laid (t':=s.toks) (a:=h1.objs.size) (o:=tO (rawInt L) h1.objs.size) (λb u e=>V0 _ e) (j1 _)
   (Fm ⟨_,_,gT,rfl,by simp⟩)
  have ne:a≠h1.objs.size:=C1 e1 hn;have e2:upd H h1.objs.size (tO (rawInt L) h1.objs.size) a=some (xO C fr dx tb a):=by
   rw[N0 ne];exact e1
  obtain⟨vs,sl,g1,sz,v1,v2⟩:=V2.xo I2 e2;refine P9 g1 rfl (by lia) ?_;have mu:Zg (upd H h1.objs.size (tO (rawInt L) h1.objs.size) a):=by rw[e2];exact Sh
  have g3:=aO (i:=1) (x:=Value.ref h1.objs.size) g1 rfl;refine h (upd (upd H h1.objs.size (tO (rawInt L) h1.objs.size)) a (xO C fr dx (.ref h1.objs.size) a)) _
   (I2.write (x:=a) (e:=a) (t':=s.toks) mu (.inl rfl) (λb u hb q=>?_) ⟨_,g3⟩ (Em ⟨_,sl,g3,by simp[sz],by simp[sz],λz=>?_⟩))
   ((wL (φ:=xP C fr dx tb a) (.inl e2)).trans (wL (φ:=λ_=>True) (.inr hn))) ⟨h1.objs.size,N2 ne,C0,?_⟩
  .rw[Q5 _ _ (N2 hb)];exact q
  .rw[BA (by decide)];exact v2 z
  .rw[N0 (N2 ne)];exact C0
theorem JS{env0:Env}{Y7:List Env}(I:V2 X pins σ H s) (Xg:A.frames=some X.stack) (RM:X.stack=env0::Y7) (Mz:env0.frame=some L) (hf:env.frame=some L) (l:Fq H a C fr dx)
 (h:∀H' s',V2 X pins σ H' s'->iD H'=iD H->FG H' a C fr dx (rawInt L)->Q () s') :
   wpAny M A (noteFrame (.ref a) env) Q E s:=by
  unfold noteFrame;simp only[hf];rcases l with e1|⟨T,fl,hT,e1,e2⟩
  .obtain⟨vs,sl,g1,sz,v1,v2⟩:=V2.xo I e1;refine z0 (O5 g1 rfl v1 ?_);rw[D0 (by decide)];exact Ib I Xg RM Mz hf e1 h
  .obtain⟨vs,sl,g1,sz,v1,v2⟩:=V2.xo I e1;obtain⟨o,ts,g2,d2,t3⟩:=V2.to I e2;have hsz:3<ts.size:=(R9.mp t3).1;refine z0 (O5 g1 rfl v1 ?_);rw[J0 (show(Value.ref T != Value.none)=true from by simp)];refine z0 (O5 g2 d2 t3 ?_);by_cases hfl:(fl==rawInt L)=true
   .rw[J0 hfl];obtain rfl:=eq_of_beq hfl;exact S0 (h H s I rfl ⟨T,hT,e1,e2⟩)
   .rw[D0 hfl];refine z0 (P9 g2 d2 hsz ?_);have mu:Zg (H T):=by rw[e2];exact Th
    have g3:=aO (i:=3) (x:=Value.none) g2 d2;have I1:=I.write (x:=T) (e:=T) (t':=s.toks) mu (.inl rfl) (h':=s.heap.update T (Obj.mapFields (·.setIfInBounds 3 .none))) (o:=tO .none T)
     (λb u hb q=>by rw[Q5 _ _ (N2 hb)];exact q) ⟨_,g3⟩ (Fm ⟨_,_,g3,rfl,by simp[hsz]⟩)
    have e3:upd H T (tO .none T) a=some (xO C fr dx (.ref T) a):=by
     rw[N0 (N2 hT)];exact e1
    exact Ib I1 Xg RM Mz hf e3 λH' s' I' m l'=>h H' s' I' (m.trans (wL (φ:=tP fl T) (.inl e2))) l'
theorem Jb{env0:Env}{Y7:List Env}(I:V2 X pins σ H s) (Xg:A.frames=some X.stack) (RM:X.stack=env0::Y7) (Mz:env0.frame=some L) (hf:env.frame=some L) (l:Fq H a C fr dx)
 (h:∀H' s',V2 X pins σ H' s'->iD H'=iD H->FG H' a C fr dx .none->Q () s') :
   wpAny M A (noteFrame (.ref a) env) (λ_ s1=>wpAny M A (setFlight (.ref a) none) Q E s1) E s:=
  JS I Xg RM Mz hf l λH1 s1 I1 m1 l1=>Uh I1 l1 λH2 s2 I2 m2 l2=>h H2 s2 I2 (m2.trans m1) l2
theorem Vh{env0:Env}{Y7:List Env}(I:V2 X pins σ H s) (Xg:A.frames=some X.stack) (RM:X.stack=env0::Y7) (Mz:env0.frame=some L) (hf:env.frame=some L) (l:Fq H a C fr dx)
 (h:∀H' s',V2 X pins σ H' s'->iD H'=iD H->FG H' a C fr dx .none->Q () s') :
   wpAny M A (leaving env (.ref a)) Q E s:=by
  unfold leaving;exact z0 (Jb I Xg RM Mz hf l h)
end
def MR(P:Program)(w:World):Zs:=λouter H s E e s'=>∃a C fr dx H',e=.ref a/\s'.os=s.os/\AllBare s'.gens/\Un (Bl outer) [] H H' s.heap s'.heap/\pK P w H' s'.heap/\Fq H' a C fr dx/\E (C,fr) dx (iD H')
abbrev WX:=St->XK
variable {W:WX}
structure RC(X:Cx)(W:WX):Prop where
 th:∀(pins:List (Addr×Obj))(σ:St)(H:Hp)(s:Shared)(a C:Addr)(fr:Bool)(dx:Option Addr),V2 X pins σ H s->Fq H a C fr dx->W σ (C,fr) dx (iD H)->X.xe (.ref a) s
 po:PassesOwn (model X.prog X.w) X.A X.env X.xe
theorem RC.passes(t:RC X W):BB (MR X.prog X.w) X W:=λpins σ H s e s' I ⟨a,C,fr,dx,H',he,os,bare,un,hok,l,q⟩=>by
 subst he;exact t.th pins σ H' s' a C fr dx (I.call' os un hok bare (λb z=>absurd z (by simp))) l q
section
variable {K:Frag}{mg:Str->Option Value}
theorem O1{scope:Scope}{cd:Value}{outer:List Env}{E:XK} :
  RC (Ja (MR P w) cm P w K mg base N OB scope f cd A outer s H E) (λ_=>E):=by
 refine⟨λpins σ H1 s1 a C fr dx I l q=>?_,?_⟩
 .exact Vh (X:=Ja (MR P w) cm P w K mg base N OB scope f cd A outer s H E) I I.ok.frames rfl rfl rfl l λH2 s2 I2 m2 l2=>
   ⟨a,C,fr,dx,H2,rfl,I2.os,I2.bare,I2.base,I2.hok,l2.live,by rw[m2];exact q⟩
 .exact PassesOwn.leaving (Q₁:=λe s''=>MR P w outer H s E e s'') (E₁:=λe s''=>MR P w outer H s E e s'')
theorem Fun.kk{st:Stmt}{k:Nat}(F:Fun K x OB st f fd) (S:ND N ps (X3 st))
 (Zo:∀(H:Hp)(vs:List V)(Q:VK)(E:XK),sp vs H Q E->
 vs.length=ps.length/\∀{NV:Value}{A:Around}{outer:List Env}{s:Shared},R8 cm k (A.deeper (envOfC OB (X3 st) s.heap.objs.size f NV))->∃t,Ys (Ja (MR P w) cm P w K mg base N OB (X3 st) f NV A outer s H E) (YD st) t/\t {nx:=λ_ H'=>Q .non H',rt:=Q} (start N vs) H):EA P w K mg base (MR P w) cm (k+1) f fd ps sp:=by
  obtain⟨oc,od,kV,Yo,pm,an,NV,ct,osl,rfl,lk,Ht⟩:=F.ex;exact zfm lk Ht S (λvs H Q E h=>(Zo H vs Q E h).1) λA outer s H vs Q E hr h=>(Zo H vs Q E h).2 hr
end
theorem R8.mo{j k:Nat}(r:R8 cm k A) (h:j<=k:=by decide):R8 cm j A:=r.mono h
section
variable {ZK:Pos}{sc:Scope}
theorem FC(i:Nat)(S:ND X.N ps sc)(he:PE X e te)(hi:X.N[i]?=some x:=by rfl)(hx:Loc X.env.scope x:=by first|exact .inl rfl|exact .inr rfl)(hs:swapsWith e (some (.Name x ZK)) pos.line X.env=pure false:=by rfl)(hf:X.fn x=true\/X.env.scope.names.lookup x=some .local:=by first|exact .inl rfl|exact .inr rfl|assumption):PS X (.Assign [.Name x ZK] e pos) (Zt te (pH i)):=zcW S.nd hi hx he hs hf
theorem wE(i:Nat)(S:ND X.N ps sc)(hi:X.N[i]?=some x:=by rfl)(hx:Loc X.env.scope x:=by first|exact .inl rfl|exact .inr rfl)(hf:X.fn x=true\/X.env.scope.names.lookup x=some .local:=by first|exact .inl rfl|exact .inr rfl|assumption):PG X (.Name x pos) (pH i):=zaq S.nd hi hx hf
theorem XF{n:Int}{t:Tok}(hm:X.mg x=some (.int n t)) (hg:Gl X x:=by rfl) (hd:(x==("__debug__": Str))=false:=by decide):PE X (.Name x pos) (tC (.int n)):=HB hg hm ⟨_,rfl⟩ hd
theorem psa{op:Operator}{ti:TIp}(i:Nat) (S:ND X.N ps sc) (he:PE X e te) (ho:PIp X op ti) (hi:X.N[i]?=some x:=by rfl) (hx:Loc X.env.scope x:=by first|exact .inl rfl|exact .inr rfl) (hf:X.fn x=true\/X.env.scope.names.lookup x=some .local:=by first|exact .inl rfl|exact .inr rfl|assumption):PS X (.AugAssign (.Name x ZK) op e pos) (zfg i te ti):=zcX S.nd hi hx he ho hf
end
structure Gq(K:Frag)(C:Addr):Prop where
 base:mroIn K C (.type "BaseException")=some true
 ty:typeIn K (.ref C)=some (.type "type")
inductive Gm(K:Frag)(W:WX)(σ:St)(x:V)(H1:Hp):Prop
 |mk (a C dx:_):x=.ref a->H1 a=some (xO C true dx .none a)->Gq K C->W σ (C,true) dx (iD H1)->Gm K W σ x H1
def DY(K:Frag)(W:WX)(te:TE):TS:=λu0' σ H=>te σ H (Gm K W σ)
theorem zT(tk:RC X W)(hc:X.calm=true)(he:PE X e te):PS X (.Raise (some e) none pos) (DY X.K W te):=by
 intro pins s σ H D I h;show wpAny _ X.A (do standAt pos;raiseStmt X.env (some (do let v <-eval e X.env;standAt pos;pure v)) none) _ X.xe s;refine z0 (w9 ?_);unfold raiseStmt;dsimp only;refine z0 (z0 (n8 (he pins s σ H _ I h) λv s1 ⟨x,H1,I1,rx,a,C,dx,ex,ea,er,q⟩=>z0 (w9 (S0 ?_))));subst ex;obtain rfl:v=Value.ref a:=rx;obtain⟨vs,sl,g1,sz,v1,v2⟩:=I1.xo ea;have nt:∀{Q':Bool->Shared->Prop},Q' false s1->wpAny (model X.prog X.w) X.A (isType (.ref a)) Q' X.xe s1:=by
  intro Q' hq;simp only[isType,loadHead];exact z0 (MA g1 (S0 hq))
 have ty:Looks (model X.prog X.w) s1.heap (typeOf (.ref a)) (.ref C):=(M9 g1).andThen .now;have sb:Looks (model X.prog X.w) s1.heap (isSubtype (.ref C) (.type "BaseException")) true:=IA I1.kIn er.base;have tt:Looks (model X.prog X.w) s1.heap (typeOf (.ref C)) (.type "type"):=looks_typeIn I1.kIn er.ty;refine z0 (S0 ?_);dsimp only;refine z0 (W4 ?_);unfold excFromValue isExcClass;refine z0 (z0 (nt ?_));simp only[F3,N7];refine S0 ?_;simp only[F3,N7];unfold isInstance;refine z0 (z0 (ty.here (sb.here ?_)));simp only[cG];refine S0 ?_;refine z0 (nt ?_);simp only[F3,N7];unfold raisedInstance;refine z0 (z0 (ty.here (z0 (tt.here ?_))));rw[J0 (by decide)];refine S0 ?_;unfold setFlight raiseNew;refine z0 (z0 (O5 g1 rfl v1 ?_));rw[D0 (by decide)];refine S0 (z0 (SH ?_));rw[I1.ok.hd hc];have fin:X.xe (.ref a) s1:=tk.th pins σ H1 s1 a C true dx I1 (.inl ea) q
 first
  |exact DD fin
  |exact z0 (S0 (DD fin))
theorem VV:entryFor table "proto.unchain"= some Builtin.«proto.unchain»:=entryFor_of_fast (by kernel_rfl)
theorem EY{x:Value}{fr':Bool}(I:V2 X pins σ H s) (e:H a=some (xO C fr dx tb a)) (hi:i<6) (h1:i≠1) (h2:fr'=true->fr=true/\i≠2)
 (h:∀s',V2 X pins σ (upd H a (xO C fr' dx tb a)) s'->Q () s'):wpAny M A (setField (.ref a) i x) Q E s:=by
  obtain⟨vs,sl,g1,sz,v1,v2⟩:=I.xo e;refine P9 g1 rfl (by lia) ?_;have mu:Zg (H a):=by rw[e];exact Sh
  have g3:=aO (i:=i) (x:=x) g1 rfl;refine h _ (I.write (x:=a) (e:=a) (t':=s.toks) mu (.inl rfl) (λb u hb q=>?_) ⟨_,g3⟩ (Em ⟨_,sl,g3,by simp[sz],?_,λz=>?_⟩))
  .rw[Q5 _ _ (N2 hb)];exact q
  .rw[BA h1];exact v1
  .rw[BA (h2 z).2];exact v2 (h2 z).1
inductive Kb(K:Frag)(W:WX)(b:Addr)(σ:St)(x:V)(y:V)(H2:Hp):Prop
 |mk (a C dx Cb dxb tbb:_):x=.ref a->y=.ref b->a≠b->H2 a=some (xO C true dx .none a)->H2 b=some (xO Cb true dxb tbb b)->Gq K C->Gq K Cb->W σ (C,false) dx (iD H2)->Kb K W b σ x y H2
def Hm(K:Frag)(W:WX)(b:Addr)(te tc:TE):TS:=λu0' σ H=>te σ H λx H1=>tc σ H1 (Kb K W b σ x)
section
variable {c:Expr}{tc:TE}
theorem Hq(tk:RC X W)(hh:X.A.handled=some (.ref b))(he:PE X e te)(hcs:PE X c tc):PS X (.Raise (some e) (some c) pos) (Hm X.K W b te tc):=by
 intro pins s σ H D I h;show wpAny _ X.A (do standAt pos;raiseStmt X.env (some (do let v <-eval e X.env;standAt pos;pure v)) (some (do let v <-eval c X.env;standAt pos;pure v))) _ X.xe s;refine z0 (w9 ?_);unfold raiseStmt;dsimp only;refine z0 (z0 (n8 (he pins s σ H _ I h) λv s0 ⟨x,H0,I0,rx,q0⟩=>z0 (w9 (S0 ?_))));refine z0 (W4 (z0 (n8 (hcs pins s0 σ H0 _ I0 q0) λu s1 ⟨y,H1,I1,ry,a,C,dx,Cb,dxb,tbb,ex,ey,nab,ea,eb,er,erb,q⟩=>z0 (w9 (S0 ?_)))));subst ex ey;obtain rfl:v=Value.ref a:=rx;obtain rfl:u=Value.ref b:=ry;have nt:∀{z:Addr}{Cz:Addr}{fz:Bool}{dz:Option Addr}{tz:Value}{Q':Bool->Shared->Prop},H1 z=some (xO Cz fz dz tz z)->Q' false s1->wpAny (model X.prog X.w) X.A (isType (.ref z)) Q' X.xe s1:=by
  intro z Cz fz dz tz Q' ez hq;obtain⟨_,_,g,_⟩:=I1.xo ez;simp only[isType,loadHead];exact z0 (MA g (S0 hq))
 have ofv:∀{z:Addr}{Cz:Addr}{fz:Bool}{dz:Option Addr}{tz:Value}{w:String}{Q':Value->Shared->Prop},H1 z=some (xO Cz fz dz tz z)->Gq X.K Cz->Q' (.ref z) s1->wpAny (model X.prog X.w) X.A (excFromValue (.ref z) w) Q' X.xe s1:=by
  intro z Cz fz dz tz w Q' ez rz hq;obtain⟨_,_,g,_⟩:=I1.xo ez;have ty:Looks (model X.prog X.w) s1.heap (typeOf (.ref z)) (.ref Cz):=(M9 g).andThen .now;have sb:Looks (model X.prog X.w) s1.heap (isSubtype (.ref Cz) (.type "BaseException")) true:=IA I1.kIn rz.base;unfold excFromValue isExcClass;refine z0 (z0 (nt ez ?_));simp only[F3,N7];refine S0 ?_;simp only[F3,N7];unfold isInstance;refine z0 (z0 (ty.here (sb.here ?_)));simp only[cG];exact S0 hq
 refine z0 (S0 ?_);refine z0 (W4 (ofv ea er ?_));dsimp only;rw[D0 (by simp)];refine z0 (W4 (ofv eb erb ?_));refine z0 (EY (fr':=true) I1 ea (by decide) (by decide) (λ_=>⟨rfl,by decide⟩) λs2 I2=>?_);refine z0 (EY (fr':=true) I2 C0 (by decide) (by decide) (λ_=>⟨rfl,by decide⟩) λs3 I3=>?_);rw[Y4]at I3;have e3:upd H1 a (xO C true dx .none a) a=some (xO C true dx .none a):=C0;have eb3:upd H1 a (xO C true dx .none a) b=some (xO Cb true dxb tbb b):=by
  rw[N0 (N2 nab)];exact eb
 obtain⟨vs,sl,g1,sz,v1,v2⟩:=I3.xo e3;have ty:Looks (model X.prog X.w) s3.heap (typeOf (.ref a)) (.ref C):=(M9 g1).andThen .now;have tt:Looks (model X.prog X.w) s3.heap (typeOf (.ref C)) (.type "type"):=looks_typeIn I3.kIn er.ty;have nt3:∀{Q':Bool->Shared->Prop},Q' false s3->wpAny (model X.prog X.w) X.A (isType (.ref a)) Q' X.xe s3:=by
  intro Q' hq;simp only[isType,loadHead];exact z0 (MA g1 (S0 hq))
 refine z0 (nt3 ?_);simp only[F3,N7];unfold raisedInstance;refine z0 (z0 (ty.here (z0 (tt.here ?_))));rw[J0 (by decide)];refine S0 ?_;unfold setFlight raiseNew;refine z0 (z0 (O5 g1 rfl v1 ?_));rw[D0 (by decide)];refine S0 (z0 (SH ?_));rw[hh];dsimp only;rw[J0 (show(Value.ref b != Value.ref a)=true by simp[N2 nab])];obtain⟨ws,sl',g2,sz',w1,w2⟩:=I3.xo eb3;refine z0 (W4 (wpAny_runValue (zF VV ?_)));unfold Builtin.«proto.unchain»;dsimp only;refine z0 (O5 g2 rfl (w2 rfl) ?_);rw[J0 (by decide)];refine S0 ?_;refine z0 ?_;show wpAny _ _ (setField (.ref a) 2 (.ref b)) _ _ _;refine EY (fr':=false) I3 e3 (by decide) (by decide) (λz=>nomatch z) λs4 I4=>?_;rw[Y4]at I4;have fin:X.xe (.ref a) s4:=tk.th pins σ _ s4 a C false dx I4 (.inl C0) (by rw[show iD (upd H1 a (xO C false dx .none a))=iD H1 from wL (φ:=xP C true dx .none a) (.inl ea)];exact q)
 first
  |exact DD fin
  |exact z0 (S0 (DD fin))
end
abbrev Cx.sub(X:Cx)(A':Around)(cm:Bool)(pn':List (Addr×Obj))(xe':Value->Shared->Prop):Cx:={X with A:=A',calm:=cm,pn:=pn',xe:=xe'}
section
variable {A':Around}{xe':Value->Shared->Prop}
theorem V2.into(I:V2 X pins σ H s)(hA:A'.frames=X.A.frames)(hc:cm=true->A'.handled=none):V2 (X.sub A' cm (X.pn++pins) xe') [] σ H s:=
 ⟨⟨I.ok.mod,I.ok.kind,I.ok.glob,I.ok.blt,I.ok.above,I.ok.inj,I.ok.has,I.ok.cab,hc,hA.trans I.ok.frames,I.ok.stk,I.ok.exf,I.ok.bs,I.ok.bsz,I.ok.noex,I.ok.exfs,I.ok.funs,I.ok.frf⟩,I.os,I.bare,I.base,I.loc,I.cell,I.free,I.freeC,
   λp hp=>I.pin p (by simpa using hp),I.hok,I.len⟩
theorem V2.back(ok:X.Ok)(I:V2 (X.sub A' cm (X.pn++pins) xe') Gg σ H s):V2 X pins σ H s:=
 ⟨ok,I.os,I.bare,I.base,I.loc,I.cell,I.free,I.freeC,λp hp=>I.pin p (B6 _ hp),I.hok,I.len⟩
theorem SP.back{D:eL}{f:Flow}{s':Shared}(ok:X.Ok) (h:SP (X.sub A' cm (X.pn++pins) xe') Gg D f s'):SP X pins D f s':=by
 cases f with
 |next=>obtain⟨a,b,I,q⟩:=h;exact⟨a,b,I.back ok,q⟩
 |brk=>obtain⟨a,b,I,q⟩:=h;exact⟨a,b,I.back ok,q⟩
 |cont=>obtain⟨a,b,I,q⟩:=h;exact⟨a,b,I.back ok,q⟩
 |ret u=>obtain⟨v,a,b,I,r,q⟩:=h;exact⟨v,a,b,I.back ok,r,q⟩
theorem Iq{v:V}(I:V2 X pins σ H s) (hN:X.N.Nodup) (hi:X.N[i]?=some n) (hk:X.env.scope.names.lookup n=some .local) (hv:σ[i]?=some (some v))
 (h:∀s',V2 X pins (σ.set i none) H s'->Q () s'):wpAny M A (unbindBehindTheSuite X.env n pos) Q E s:=by
  obtain⟨m,hn,hl⟩:=id I.loc;obtain⟨u,ru,lu⟩:=hl i n v hi hv (.inl hk);have hm:m n=some u:=by
   rcases lu with⟨_,z⟩|⟨z,_⟩
   .exact z
   .have z':X.env.scope.names.lookup n=some .cell\/X.env.scope.names.lookup n=some .free:=z;rw[hk]at z';rcases z' with q|q<;>cases q
  have zea:(X.env.scope.kind == .class||(X.env.scope.kind == .module&&X.env.locals != X.env.globals))=false:=by rw[I.ok.kind];rfl
  unfold unbindBehindTheSuite;refine wpAny_onRaise (wpAny_unbindName_local hk hn hm zea λh' u' hn' hs=>h _ ?_);have ltL:∀b o,X.s_0.heap.get? b=some o->b≠X.env.locals:=λb o e=>K3 (P2 (K2 e) I.ok.above);refine⟨I.ok,I.os,I.bare,⟨λb o e n' hb hx=>?_,λb o e n' hb hx=>?_,I.base.free,λb o e hx=>?_,I.base.tups,I.base.frzs,I.base.tbls⟩,⟨_,hn',λj y w e1 e2 e3=>?_⟩,λy c e=>?_,I.free,I.freeC,λp hp=>?_,?_,by simpa using I.len⟩
  .exact(hs.2 b (ltL b o e)).trans (I.base.keep b o e n' hb hx)
  .obtain⟨sl,e1⟩:=I.base.slot b o e n' hb hx;exact⟨sl,(hs.2 b (ltL b o e)).trans e1⟩
  .obtain⟨o',e1⟩:=I.base.there b o e hx;exact⟨o',(hs.2 b (ltL b o e)).trans e1⟩
  .by_cases hj:j=i
   .subst hj;rw[Q6 (P0.mp hv).1]at e2;cases e2
   .rw[V8 (N2 hj)]at e2;obtain⟨u2,r2,q⟩:=hl j y w e1 e2 e3;refine⟨u2,r2,?_⟩;rcases q with⟨k,e⟩|⟨k,c,e,z⟩
    .refine .inl ⟨k,?_⟩;have ny:y≠n:=λe=>hj (IN hN e1 (e ▸ hi));simp[ny,e]
    .exact .inr ⟨k,c,e,z.sameBut hs (I.cne y c e)⟩
  .obtain⟨w',z⟩:=I.cell y c e;exact⟨w',z.sameBut hs (I.cne y c e)⟩
  .obtain⟨e,n',ne,nf,d⟩:=I.pin p hp;exact⟨(hs.2 p.1 ne).trans e,n',ne,nf,d⟩
  .refine Gb I.hok λb u2 ⟨o,hb⟩ e=>(hs.2 b λz=>?_).trans e;rw[z,I.free]at hb;cases hb
theorem bO(I:V2 X pins σ H s)(hN:X.N.Nodup)(hi:X.N[i]?=some n)(hk:X.env.scope.names.lookup n=some .local)
 (h:∀s',V2 X pins (σ.set i none) H s'->Q () s'):wpAny M A (do bindName X.env n .none;unbindBehindTheSuite X.env n pos) Q E s:=by
  have hl:i<σ.length:=by rw[I.len];exact(P0.mp hi).1
  refine z0 (wpAny_bindName (dL (v:=V.non) I hN hi (.inl hk) rfl (λs1 I1=>?_) (.inr hk)));refine Iq (v:=V.non) I1 hN hi hk (by rw[Q6 hl]) λs2 I2=>?_;rw[List.set_set]at I2;exact h s2 I2
end
abbrev HR:=Addr->Addr->Bool->Option Addr->eL->St->Hp->Prop
def PH(X:Cx)(hs:List ExceptHandler)(t:HR):Prop:=
 ∀(pins:List (Addr×Obj))(s:Shared)(σ:St)(H:Hp)(D:eL)(a C:Addr)(fr:Bool)(dx:Option Addr),V2 X pins σ H s->FG H a C fr dx .none->t a C fr dx D σ H->
  wpAny (model X.prog X.w) X.A (handleBy (.ref a) X.env hs) (SP X pins D) X.xe s
section
variable {fl:Value}
theorem Iv(h:H a=some o):upd H a o=H:=by
 funext b;by_cases e:b=a
 .subst e;rw[C0,h]
 .rw[N0 e]
theorem Jv(I:V2 X pins σ H s)(l:FG H a C fr dx .none)(h:∀s',V2 X pins σ H s'->Q () s'):wpAny M A (setFlight (.ref a) none) Q E s:=by
 obtain⟨T,hT,e1,e2⟩:=l;obtain⟨vs,sl,g1,sz,v1,v2⟩:=V2.xo I e1;obtain⟨o,ts,g2,d2,t3⟩:=V2.to I e2;have hsz:3<ts.size:=(R9.mp t3).1;unfold setFlight;refine z0 (O5 g1 rfl v1 ?_);rw[J0 (show(Value.ref T != Value.none)=true from by simp)];refine P9 g2 d2 hsz ?_;have mu:Zg (H T):=by rw[e2];exact Th
 have g3:=aO (i:=3) (x:=Value.none) g2 d2;have I':=I.write (x:=T) (e:=T) (t':=s.toks) mu (.inl rfl) (h':=s.heap.update T (Obj.mapFields (·.setIfInBounds 3 .none))) (o:=tO .none T)
  (λb u hb q=>by rw[Q5 _ _ (N2 hb)];exact q) ⟨_,g3⟩ (Fm ⟨_,_,g3,rfl,by simp[hsz]⟩)
 rw[Iv e2]at I';exact h _ I'
theorem OP{α:Type}{zi0:String}{Q:α->Shared->Prop}(I:V2 X pins σ H s) (l:FG H a C fr dx fl)
 (h:∀H' s',V2 X pins σ H' s'->iD H'=iD H->FG H' a C fr dx (env.frame.elim .none λf=>rawInt f)->E (.ref a) s'):wpAny M A (PySem.passOn zi0 (.ref a) env:Sem α) Q E s:=by
  have l':=l;obtain⟨T,hT,e1,e2⟩:=l;obtain⟨vs,sl,g1,sz,v1,v2⟩:=I.xo e1;unfold PySem.passOn;refine z0 (O5 g1 rfl v1 ?_);rw[D0 (by simp)];exact z0 (Uh I l' λH' s' I' m' l2=>DD (h H' s' I' m' l2))
theorem zaK(I:V2 X pins σ H s)(l:FG H a C fr dx fl)
 (h:∀H' s',V2 X pins σ H' s'->iD H'=iD H->FG H' a C fr dx (env.frame.elim .none λf=>rawInt f)->E (.ref a) s'):cameBackBy M A env E (.ref a) s:=by
  have l':=l;obtain⟨T,hT,e1,e2⟩:=l;obtain⟨vs,sl,g1,sz,v1,v2⟩:=I.xo e1;unfold cameBackBy;refine z0 (O5 g1 rfl v1 ?_);rw[D0 (by simp)];exact Uh I l' λH' s' I' m' l2=>h H' s' I' m' l2
end
def zio(W:WX):HR:=λ_ C fr dx _ σ H=>W σ (C,fr) dx (iD H)
def hAs(K:Frag)(C':Addr)(i:Nat)(ts:Addr->TS)(tr:HR):HR:=λa C fr dx D σ H=>∃b,exmOne K (.ref C) (.ref C')=some b/\
 if b=true then ts a {nx:=λσ' H'=>D.nx (σ'.set i none) H',rt:=D.rt,bk:=λσ' H'=>D.bk (σ'.set i none) H',ct:=λσ' H'=>D.ct (σ'.set i none) H'} (σ.set i (some (.ref a))) H else tr a C fr dx D σ H
theorem Wh(tk:RC X W):PH X [] (zio W):=by
 intro pins s σ H D a C fr dx I l h;refine wpAny_handleBy_nil (OP I l λH' s' I' m' l'=>tk.th pins σ H' s' a C fr dx I' l'.live ?_);rw[m'];exact h
theorem Kv{np:Pos}{b0:Stmt}{Y7:List ExceptHandler}{C':Addr}{ts:Addr->TS}{tr:HR}(tk:RC X W) (RM:X.stack=X.env::X.outer) (hf:X.env.frame=some X.env.locals) (hN:X.N.Nodup) (hi:X.N[i]?=some n) (hk:X.env.scope.names.lookup n=some .local)
 (hg:Gl X x) (hm:X.mg x=some (.ref C'))
 (zgm:∀(a:Addr)(pn:List (Addr×Obj))(xe:Value->Shared->Prop),RC (X.sub (X.A.mark (some (.ref a))) false pn xe) (λσ=>W (σ.set i none))->Ys (X.sub (X.A.mark (some (.ref a))) false pn xe) (b0::body) (ts a))
 (hr:PH X Y7 tr) (hd:(x==("__debug__": Str))=false:=by decide):PH X (.ExceptHandler (some (.Name x np)) (some n) (b0::body) pos::Y7) (hAs X.K C' i ts tr):=by
  intro pins s σ H D a C fr dx I l h;obtain⟨b,hb,h⟩:=h;have frm:(X.A.mark (some (.ref a))).frames=X.A.frames:=rfl;have noH:false=true->(X.A.mark (some (.ref a))).handled=none:=λz=>nomatch z;refine wpAny_handleBy_cons (codeAny_handlers_test ?_) (by intro q;cases q);have I0:V2 (X.sub (X.A.mark (some (.ref a))) false (X.pn++pins) (λ_ _=>False)) [] σ H s:=I.into frm noH;refine oH (X:=X.sub (X.A.mark (some (.ref a))) false (X.pn++pins) (λ_ _=>False)) I0 hg hm ?_ hd;obtain⟨T,hT,e1,e2⟩:=id l;obtain⟨vs,sl,g1,sz,v1,v2⟩:=I.xo e1;have ty:Looks (model X.prog X.w) s.heap (typeOf (.ref a)) (.ref C):=(M9 g1).andThen .now;refine(PySem.W.exm_one I.kIn ty hb).here ?_;cases b with
  |false=>
   simp only[F3,N7]at h ⊢;exact hr pins s σ H D a C fr dx I l h
  |true=>
   simp only[cG]at h ⊢;refine codeAny_handlers_suite_as ?_;generalize hNE:notedBy (model X.prog X.w) (X.A.mark (some (.ref a))) X.env (λx s'=>cameBackBy (model X.prog X.w) X.A X.env X.xe x s')=NE;refine Jv I l λs1 I1=>?_;have hil:i<σ.length:=by rw[I.len];exact(P0.mp hi).1
   let xe2:Value->Shared->Prop:=λx s3=>wpAny (model X.prog X.w) (X.A.mark (some (.ref a))) (noteFrame x X.env) (λ_ Nt=>
       wpAny (model X.prog X.w) (X.A.mark (some (.ref a))) (do bindName X.env n .none;unbindBehindTheSuite X.env n pos)
        (λ_ s4=>wpAny (model X.prog X.w) (X.A.mark (some (.ref a))) (PySem.passOn "try.except-as" x X.env:Sem Flow) (λ_ _=>False) NE s4)
        (λy s4=>wpAny (model X.prog X.w) (X.A.mark (some (.ref a))) (setFlight x none) (λ_ s5=>NE y s5) NE s4) Nt) NE s3
   have I2:V2 (X.sub (X.A.mark (some (.ref a))) false (X.pn++pins) xe2) [] σ H s1:=I1.into frm noH;have tk2:RC (X.sub (X.A.mark (some (.ref a))) false (X.pn++pins) xe2) (λσ=>W (σ.set i none)):=by
    refine⟨λp2 σ2 H2 s2 a2 C2 fr2 Yk J2 k2 w2=>?_,xH⟩;refine JS (X:=X.sub (X.A.mark (some (.ref a))) false (X.pn++pins) xe2) (L:=X.env.locals) J2 J2.ok.frames RM hf hf k2 λH3 s3 J3 m3 k3=>?_;refine bO (X:=X.sub (X.A.mark (some (.ref a))) false (X.pn++pins) xe2) J3 hN hi hk λs4 J4=>?_;refine OP J4 k3 λH5 s5 J5 m5 k5=>?_;rw[<-hNE];unfold notedBy;refine JS (X:=X.sub (X.A.mark (some (.ref a))) false (X.pn++pins) xe2) (L:=X.env.locals) J5 J5.ok.frames RM hf hf k5.live λH6 s6 J6 m6 k6=>?_;refine zaK J6 k6 λH7 s7 J7 m7 k7=>?_;refine tk.th pins _ H7 s7 a2 C2 fr2 Yk (J7.back I.ok) k7.live ?_;rw[m7,m6,m5,m3];exact w2
   refine dL (X:=X.sub (X.A.mark (some (.ref a))) false (X.pn++pins) xe2) (v:=V.ref a) I2 hN hi (.inl hk) rfl (λs3 I3=>?_) (.inr hk);refine P5 (zgm a (X.pn++pins) xe2 tk2 [] s3 _ H _ I3 h) (λf s4 h4=>?_) λx s4 h4=>h4;have h5:SP X pins {nx:=λσ' H'=>D.nx (σ'.set i none) H',rt:=D.rt,bk:=λσ' H'=>D.bk (σ'.set i none) H',ct:=λσ' H'=>D.ct (σ'.set i none) H'} f s4:=SP.back I.ok h4;show wpAny _ X.A (do bindName X.env n .none;unbindBehindTheSuite X.env n pos) _ X.xe s4;cases f with
   |next=>
    obtain⟨σ5,H5,I5,q5⟩:=h5;exact bO I5 hN hi hk λs6 I6=>⟨_,H5,I6,q5⟩
   |brk=>
    obtain⟨σ5,H5,I5,q5⟩:=h5;exact bO I5 hN hi hk λs6 I6=>⟨_,H5,I6,q5⟩
   |cont=>
    obtain⟨σ5,H5,I5,q5⟩:=h5;exact bO I5 hN hi hk λs6 I6=>⟨_,H5,I6,q5⟩
   |ret u=>
    obtain⟨v5,σ5,H5,I5,r5,q5⟩:=h5;exact bO I5 hN hi hk λs6 I6=>⟨v5,_,H5,I6,r5,q5⟩
def ziq(Wt:WX)(tb:TS)(th:HR):TS:=λD σ H=>tb D σ H/\∀(a C:Addr)(fr:Bool)(dx:Option Addr)(σ':St)(H':Hp),FG H' a C fr dx .none->Wt σ' (C,fr) dx (iD H')->th a C fr dx D σ' H'
theorem Xh{h0:ExceptHandler}{hs:List ExceptHandler}{Wt:WX}{tb:TS}{th:HR}(RM:X.stack=X.env::X.outer) (hf:X.env.frame=some X.env.locals)
 (hb:∀(pn:List (Addr×Obj))(xe:Value->Shared->Prop),RC (X.sub X.A X.calm pn xe) Wt->Ys (X.sub X.A X.calm pn xe) body tb) (hh:PH X (h0::hs) th):PS X (.Try body (h0::hs) [] [] pos) (ziq Wt tb th):=by
  intro pins s σ H D I h;obtain⟨h1,h2⟩:=h;refine wpAny_Try_except ?_
  let xe2:Value->Shared->Prop:=λe s1=>wpAny (model X.prog X.w) X.A (noteFrame e X.env) (λ_ s2=>wpAny (model X.prog X.w) X.A (setFlight e none) (λ_ s3=>wpAny (model X.prog X.w) X.A (handleBy e X.env (h0::hs)) (SP X pins D) X.xe s3) X.xe s2) X.xe s1
  have I2:V2 (X.sub X.A X.calm (X.pn++pins) xe2) [] σ H s:=I.into rfl I.ok.hd;have tk2:RC (X.sub X.A X.calm (X.pn++pins) xe2) Wt:=by
   refine⟨λp2 σ2 H2 s2 a2 C2 fr2 Yk J2 k2 w2=>?_,xH⟩;refine Jb (X:=X.sub X.A X.calm (X.pn++pins) xe2) (L:=X.env.locals) J2 J2.ok.frames RM hf hf k2 λH3 s3 J3 m3 k3=>?_;exact hh pins s3 σ2 H3 D a2 C2 fr2 Yk (J3.back I.ok) k3 (h2 a2 C2 fr2 Yk σ2 H3 k3 (by rw[m3];exact w2))
  refine P5 (hb (X.pn++pins) xe2 tk2 [] s σ H D I2 h1) (λf s4 h4=>?_) λx s4 h4=>h4;have h5:SP X pins D f s4:=SP.back I.ok h4;cases f with
  |next=>
   obtain⟨σ5,H5,I5,q5⟩:=h5;exact ZC ⟨σ5,H5,I5,q5⟩
  |brk=>exact h5
  |cont=>exact h5
  |ret u=>exact h5
def nM(K:Frag)(C:Addr):Bool:=match K.lookup C with
 |some ⟨_,_,.cls cd,sl⟩=>!cd.hasDel&&(sl.toList[4]?).join==some (.builtin "Exception.__new__")&&!cd.mro.isEmpty&&(cd.mro.contains (.ref C)&&cd.mro.contains (.type "Exception"))&&!cd.mro.contains (.type "AttributeError")&&!cd.mro.contains (.type "NameError")&&
   (specialIn K (.ref C) "__call__"==some (some (.builtin "type.__call__"))&&PySem.W.instIn K (.ref C) (.type "type")==some true)
 |_=>false
structure Yh(M:Model)(h:Heap)(C:Addr):Prop where
 obj:∃oc od cd sl,h.get? C=some ⟨oc,od,.cls cd,sl⟩/\cd.hasDel=false/\cd.mro.isEmpty=false
 made:Looks M h (Bind.madeBy (.ref C)) (some "Exception.__new__")
 base:Looks M h (Bind.staticBase (.ref C)) (.ref C)
 self:Looks M h (isSubtype (.ref C) (.ref C)) true
 exc:Looks M h (isSubtype (.ref C) (.type "Exception")) true
 noA:Looks M h (isSubtype (.ref C) (.type "AttributeError")) false
 noN:Looks M h (isSubtype (.ref C) (.type "NameError")) false
 call:Looks M h (specialOf (.ref C) "__call__") (some (.builtin "type.__call__"))
 typ:Looks M h (isInstance (.ref C) (.type "type")) true
theorem Jq{K:Frag}(KX:K.In h) (q:nM K C=true):Yh M h C:=by
 unfold nM at q;split at q
 .rename_i oc od cd sl lk;simp only[E1,P3,O4]at q;obtain⟨⟨⟨⟨⟨⟨q1,q2⟩,q3⟩,q4,q5⟩,q6⟩,q7⟩,q8,q9⟩:=q;have Ht:clsIn K C=some cd:=by unfold clsIn;rw[lk]
  have mro:Looks M h (mroOf (.ref C)) cd.mro:=(GA KX Ht).andThen .now;obtain⟨c1,l1,hl⟩:∃c1 l1,cd.mro=c1::l1:=by
   cases z:cd.mro with
   |nil=>rw[z]at q3;cases q3
   |cons c1 l1=>exact⟨c1,l1,rfl⟩
  have made:Looks M h (Bind.madeBy (.ref C)) (some "Exception.__new__"):=by
   intro A0 Q0 E0 s0 k0 w0;unfold Bind.madeBy;refine z0 (mro A0 _ E0 s0 k0 ?_);rw[hl,pB];refine z0 (z0 (z0 (z0 (MA (k0 _ _ (KX _ _ lk)) (S0 ?_)))));dsimp only;rw[<-Array.getElem?_toList,q2];exact S0 (S0 (S0 w0))
  have sub:∀{b:Value}{r:Bool},cd.mro.contains b=r->Looks M h (isSubtype (.ref C) b) r:=λ{b r} z=>IA KX (by
   unfold mroIn;rw[Ht,F4,D0 (by rw[q3];decide),z])
  refine⟨⟨oc,od,cd,sl,KX _ _ lk,q1,q3⟩,made,?_,sub q4,sub q5,sub q6,sub q7,PySem.W.looks_specialIn KX q8,PySem.W.looks_instIn KX q9⟩;intro A0 Q0 E0 s0 k0 w0;unfold Bind.staticBase;refine z0 (mro A0 _ E0 s0 k0 ?_);rw[hl,pB];exact z0 (z0 (z0 (made A0 _ E0 s0 k0 (S0 (S0 (S0 w0))))))
 .cases q
abbrev SE(us:List Value):Obj:={cls:=.type "tuple",data:=.seq us.toArray}
abbrev AF(C t:Addr):Obj:={cls:=.ref C,data:=.fields #[.ref t,.none,.none,.none,.bool false,.none]}
theorem zaL(Y:Yh (model prog w) h C)(hus:us.length<=sizeLine)
 (hq:R (.ok (.ret (.ref (h.objs.size+1)))) ⟨(h.push (SE us)).push (AF C h.objs.size),g,d,t,os⟩) :
   codeAny (model prog w) A (.call (.builtin "Exception.__new__") ⟨.ref C::us,[]⟩) R ⟨h,g,d,t,os⟩:=by
  obtain⟨⟨oc,od,cd,sl,hC,e2,e4⟩,made,base,self,exc,noA,noN,call,typ⟩:=Y;have F:=PySem.F.excBase_Exception;have zkD:=F.noStar;refine codeAny_call_builtin_code (Code.quiet_builtin _ F.quiet) ?_;simp only[checkBuiltinCall,F.newKind,F.newSplit,F.newRow];have here:Looks (model prog w) h (Bind.madeHere "BaseException.__new__" (.ref C)) ():=base.andThen (made.andThen (DE (by simp only[aD,F.canon,aE,F3,N7])));have zkE:Looks (model prog w) h (Bind.madeHere "Exception.__new__" (.ref C)) ():=base.andThen (made.andThen (DE (by simp only[aD,aE,F3,N7])))
  repeat (first|simp only[aE,F3,N7]|lk)
  have zkF:=F.ends;refine codeAny_builtinAt F.entry ?_;unfold Builtin.«BaseException.__new__»;refine PySem.wpAt_bind ?_;show PySem.wpAt _ _ _ (stack>>=_) _ _ _;refine PySem.wpAt_bind (PySem.wpAt_stack λp zcu=>PySem.wpAt_of_wpAny ?_)
  wp_walk
  refine PySem.wpAt_of_wpAny ?_;rw[F.owner];have isT:Looks (model prog w) h (isType (.ref C)) true:=by
   unfold isType loadHead;exact(M9 hC).andThen .now
  repeat (first|simp only[Bool.not_true,F3,N7]|lk)
  rw[D0 (by rw[K1];lia)];unfold newObjAsIs;refine z0 (rL (S0 ?_));have hC1:=V0 (SE us) hC;have hC2:=V0 (AF C h.objs.size) hC1;refine z0 ?_;show wpAny _ _ (newObjAsIs (.ref C) _ _) _ _ _;unfold newObjAsIs classHasDel;refine z0 (rL (z0 (z0 (wpAny_load hC2 (S0 ?_)))));rw[e2];refine S0 (S0 ?_);show R _ _;rw[Z4];exact hq
theorem Lv(Y:Yh (model prog w) h C)(hi:Looks (model prog w) h (typeLookup (.ref C) "__init__") (some (.ref f)))(hb:∀self,Looks (model prog w) h (bindSpecial (.ref f) self) (.ref f,[self]))(hus:us.length<=sizeLine)
 (hq:codeAny (model prog w) (A.under (.builtin "type.__call__" ⟨.ref C::us,[]⟩)) (.call (.ref f) ⟨.ref (h.objs.size+1)::us,[]⟩) (InitBack (h.objs.size+1) R) ⟨(h.push (SE us)).push (AF C h.objs.size),g,d,t,os⟩) :
   codeAny (model prog w) A (.call (.ref C) ⟨us,[]⟩) R ⟨h,g,d,t,os⟩:=by
  have Y':=Y;obtain⟨⟨oc,od,cd,sl,hC,e2,e4⟩,made,base,self,exc,noA,noN,call,typ⟩:=Y;refine codeAny_of_tree ?_;show wpAny _ _ (callAny (.ref C) _) _ _ _;refine PySem.W.nd_load hC ?_;show wpAny _ _ (callAny.viaDunder (.ref C) _) _ _ _;unfold callAny.viaDunder;refine z0 (call.at ?_);dsimp only;rw[tc_bind];refine z0 (S0 (z0 (S0 ?_)));refine S0 (a:=Fin.again (.call (.builtin "type.__call__") ⟨.ref C::us,[]⟩)) (And.intro rfl ?_);refine codeAny_call_builtin_at (Code.quiet_builtin _ (by decide +kernel)) entry_typeCall (GG tc_kind tc_split typ (PySem.W.tc_args _ _ _) ?_);unfold Builtin.«type.__call__»;have hm:Looks (model prog w) h (mroOf (.ref C)) cd.mro:=((M9 (part:=none) hC).andThen .now).andThen .now
  repeat (first|simp only[e4,F3,N7]|with_reducible refine OE ?_|lk)
  refine zaL Y' hus ?_;have kp:∀b o,h.get? b=some o->((h.push (SE us)).push (AF C h.objs.size)).get? b=some o:=λb o e=>V0 _ (V0 _ e);have hx:((h.push (SE us)).push (AF C h.objs.size)).get? (h.objs.size+1)=some (AF C h.objs.size):=by heap_get
  have t1:Looks (model prog w) ((h.push (SE us)).push (AF C h.objs.size)) (typeOf (.ref (h.objs.size+1))) (.ref C):=(M9 hx).andThen .now;have s1:=self.keeps kp;have i1:=hi.keeps kp;have b1:=(hb (.ref (h.objs.size+1))).keeps kp;unfold isInstance callSpecial? specialOf
  repeat (first|with_reducible refine OE ?_|lk)
  refine oC hq λr s' z=>?_;rcases r with e|(v|_|_|_)<;>first|exact z|exact z.elim|skip
  obtain⟨rfl,z⟩:=z;exact S0 (S0 z)
structure MkX(K:Frag)(C f:Addr):Prop where
 makes:nM K C=true
 init:findIn K (.ref C) "__init__"= some (some (.ref f))
 fn:isFn K (.ref f)=true
 kp:keepIn K (.ref C)=true
def AT(C:Addr)(sp:Sp)(W:WX)(t:TA):TE:=λσ H Q=>t σ H λvs H1=>vs.length<=1000/\∀x,H1 x=none->sp (.ref x::vs) (upd H1 x (xO C true none .none x)) (λv H2=>v=.non/\Q (.ref x) H2) (W σ)
section
variable {k:Nat}{p:Pos}{es:List Expr}{t:TA}
theorem cX{σ:St}{Q:VK}{vs:List V}(M:MkX X.K C f) (F:EA X.prog X.w X.K X.mg X.base (MR X.prog X.w) cm k f fd ps sp) (hr:R8 cm (k+1) X.A) (hb:IB X.K fd ps [])
 (tk:RC X W) (I:V2 X pins σ H s) (r:D4 vs us) (hl:vs.length<=1000)
 (h:∀x,H x=none->sp (.ref x::vs) (upd H x (xO C true none .none x)) (λv H2=>v=.non/\Q (.ref x) H2) (W σ)) :
   wpAny (model X.prog X.w) X.A (call (.ref C) us) (EP X pins σ Q) X.xe s:=by
  obtain⟨hp,g,d,tk0,os⟩:=s;have hq:=h (hp.objs.size+1) (I.hok.fresh (lL _));have I1:V2 X pins σ H ⟨hp.push (SE us),g,d,tk0,os⟩:=I.kept (h':=hp.push (SE us)) (t':=tk0) (λb u e=>V0 _ e);have hx:((hp.push (SE us)).push (AF C hp.objs.size)).get? (hp.objs.size+1)=some (AF C hp.objs.size):=by heap_get
  have I2:V2 X pins σ (upd H (hp.objs.size+1) (xO C true none .none (hp.objs.size+1))) ⟨(hp.push (SE us)).push (AF C hp.objs.size),g,d,tk0,os⟩:=
   I1.laid (h':=(hp.push (SE us)).push (AF C hp.objs.size)) (t':=tk0) (λb u e=>V0 _ e) (by show(hp.push (SE us)).objs.size<=_;rw[Z4];exact j1 _) (Em ⟨_,_,hx,rfl,rfl,λ_=>rfl⟩)
  have r2:D4 (V.ref (hp.objs.size+1)::vs) (Value.ref (hp.objs.size+1)::us):=.cons rfl r;have Jt:(Value.ref (hp.objs.size+1)::us++[]).length=ps.length:=by
   have e:=r2.length;rw[F.len _ _ _ _ hq]at e;simpa using e.symm
  have hbd:=hb ⟨(hp.push (SE us)).push (AF C hp.objs.size),g,d,tk0,os⟩ (Value.ref (hp.objs.size+1)::us) I2.kIn Jt;rw[D3]at hbd;have hfn:typeIn X.K (.ref f)=some (.type "function"):=O4.mp M.fn;refine OE (Lv (f:=f) (Jq I.kIn M.makes) (qA I.kIn M.init) (λself=>bind_fn I.kIn self hfn) (by rw[<-r.length];exact k4 hl (by decide))
   (oC (F.run _ X.stack _ _ ⟨Value.ref (hp.objs.size+1)::us,[]⟩ (Value.ref (hp.objs.size+1)::us) _ _ (W σ) (hr.make C us []) (I2.env0.make C us []) hbd r2 hq) λr s' GR=>?_))
  cases r with
  |error e=>
   have z:=tk.passes pins σ _ _ e s' I2 GR;exact z
  |ok fl=>
   cases fl with
   |ret u=>
    obtain⟨v,H',I3,rv,ev,q3⟩:=I2.after GR;subst ev;exact⟨rv,⟨V.ref (hp.objs.size+1),H',I3,rfl,q3⟩⟩
   |next=>exact False.elim GR
   |brk=>exact False.elim GR
   |cont=>exact False.elim GR
theorem cO(M:MkX X.K C f)(F:EA X.prog X.w X.K X.mg X.base (MR X.prog X.w) cm k f fd ps sp)(hr:R8 cm (k+1) X.A)(hg:Gl X x)(hm:X.mg x=some (.ref C))(hb:IB X.K fd ps [])(tk:RC X W)
 (ha:PA X (e::es) t) (LZ:(x==("__debug__": Str))=false:=by decide) (he:starEach (e::es) X.env=(false,eval e X.env)::starEach es X.env:=by rfl) (IH:(backTo pos (starEach es X.env)).any (·.1)=false:=by rfl) :
   PE X (.Call (.Name x p) (e::es) [] pos) (AT C sp W t):=by
  intro pins s σ H Q I h;refine F6 (oH I hg hm ?_ LZ);refine fB (h₀:=X.base) I.ok.mod.kin M.kp (n8 (ha pos pins s σ H _ I h) λus s1 ⟨vs,H1,I1,r,hl,q⟩=>⟨I1.kIn,?_⟩) he IH;exact cX M F hr hb tk I1 r hl q
theorem Lq(M:MkX X.K C f)(F:EA X.prog X.w X.K X.mg X.base (MR X.prog X.w) cm k f fd ps sp)(hr:R8 cm (k+1) X.A)(hg:Gl X x)(hm:X.mg x=some (.ref C))(hb:IB X.K fd ps [])(tk:RC X W)
 (LZ:(x==("__debug__": Str))=false:=by decide):PE X (.Call (.Name x p) [] [] pos) (AT C sp W Fa):=by
  intro pins s σ H Q I h;refine F6 (oH I hg hm ?_ LZ);exact UF I.kIn M.kp (cX (us:=[]) M F hr hb tk I .nil h.1 h.2)
end
end L2
namespace L2
open PySem PySem.Spec PyProof.Rows
open Builtin.ObjectAttr
variable {C:Addr}{A:Around}{s:Shared}{Q:Unit->Shared->Prop}
def oM:List Value->Bool
 |[.type a,.type b,.type c]=>a=="Exception" && b=="BaseException" && c=="object"
 |.ref _::r=>oM r
 |_=>false
theorem DT(self:Value):∀{l:List Value},oM l=true->refuseLoop self "__setattr__" l=pure ()
 |[],e=>by cases e
 |.ref c::r,e=>by
  rw[refuseLoop_ref];exact DT self (l:=r) (by unfold oM at e;exact e)
 |[.type a,.type b,.type c],e=>by
  have e':(a=="Exception" && b=="BaseException" && c=="object")=true:=e;simp only[E1,O4]at e';obtain⟨⟨rfl,rfl⟩,rfl⟩:=e';exact PySem.F.store_Exception.passes self
theorem HG:∀{l:List Value},oM l=true->l.contains (.type "object")=true/\l.contains (.type "BaseException")=true
 |[],e=>by cases e
 |.ref c::r,e=>by
  have z:=HG (l:=r) (by unfold oM at e;exact e);rw[jD,jD,z.1,z.2];exact⟨Bool.or_true _,Bool.or_true _⟩
 |[.type a,.type b,.type c],e=>by
  have e':(a=="Exception" && b=="BaseException" && c=="object")=true:=e;simp only[E1,O4]at e';obtain⟨⟨rfl,rfl⟩,rfl⟩:=e';exact⟨by decide,by decide⟩
def Mv(K:Frag)(C:Addr):Bool:=(clsIn K C).any λcd=>oM cd.mro
structure FY(K:Frag)(C:Addr):Prop where
 po:Mv K C=true
 hd:hasDictIn K C=true
 sa:findIn K (.ref C) "__setattr__"= some (some (.builtin "object.__setattr__"))
 ga:findIn K (.ref C) "__getattribute__"= some (some (.builtin "BaseException.__getattribute__"))
 gh:findIn K (.ref C) "__getattr__"= some none
section
variable {prog:Program}{w:World}{K:Frag}{x:Addr}{R:Result->Shared->Prop}
theorem dX{ox:Obj}{od:Option Obj}{name:Str}{tk:Tok}{v:Value}(KX:K.In s.heap) (I:PySem.W.InstAt s.heap x ox C od) (hp:Mv K C=true) (ht:M3 K C name)
 (h:∀b,wpAny (model prog w) A.in1 (storeInOwnDict (.ref x) (.ref C) (.str name tk) name v b)
 (λfin s'=>match fin with|.done f=>R (.ok f) s'|.again c'=>c'.quiet=true/\codeAny (model prog w) A c' R s') (λe s'=>R (.error e) s') s) :
   codeAny (model prog w) A (.call (.builtin "object.__setattr__") ⟨[.ref x,.str name tk,v],[]⟩) R s:=by
  have SF:=PySem.F.store_object;obtain⟨cd,hc,ho⟩:=lC hp;have ne:cd.mro.isEmpty=false:=by
   cases q:cd.mro with
   |nil=>rw[q]at ho;cases ho
   |cons _ _=>rfl
  have sub:Looks (model prog w) s.heap (isInstance (.ref x) (.type "object")) true:=I.type.andThen (IA KX (by
   unfold mroIn;rw[hc,F4,D0 (by rw[ne];decide),(HG ho).1]))
  refine codeAny_call_builtin SF.slot.plain SF.entry (@GG (model prog w) _ _ s "object.__setattr__" "object" "__setattr__" (.ref x) [.str name tk,v] [] _ SF.kind SF.split sub (SF.args (.ref x) (.str name tk) v) ?_);have hm:Looks (model prog w) s.heap (mroOf (.ref C)) cd.mro:=(GA KX hc).andThen .now;rw[PySem.W.osa_eq,refuse_eq];refine z0 (z0 (I.type.here (z0 (hm.here ?_))));rw[DT _ ho];exact S0 (z0 (I.type.here (z0 ((qA KX ht).here (z0 (S0 (h _)))))))
end
section
variable {X:Cx}{pins:List (Addr×Obj)}{σ:List (Option V)}{H:Hp}{a d:Addr}{fr:Bool}{tb:Value}{E:Value->Shared->Prop}{f:Str}{y:V}{u:Value}{fs:List (Str×V)}
theorem Nv(I:V2 X pins σ H s)(e:H a=some (xO C fr none tb a))(c:FY X.K C)(n:M3 X.K C f)(ry:T4 y u)
 (h:∀d H' s',H d=none->d≠a->V2 X pins σ H' s'->H' a=some (xO C fr (some d) tb a)->H' d=some (.xd [(f,y)])->(∀b,b≠a->b≠d->H' b=H b)->Q () s'):wpAny (model X.prog X.w) A (setAttr (.ref a) f u) Q E s:=by
  obtain⟨vs,sl,g1,sz,v1,v2⟩:=I.xo e;have J:PySem.W.InstAt s.heap a ⟨.ref C,none,.fields vs,sl⟩ C none:=⟨g1,rfl,rfl,g9⟩
  have I0:=I.tok (s.toks+1);refine sH I.kIn J c.sa (dX (s:={s with toks:=s.toks+1}) I.kIn J c.po n λb=>?_);obtain⟨cd,hc,hd'⟩:=lC c.hd;refine z0 (S0 (z0 (z0 (MA g1 (z0 (BG (s:={s with toks:=s.toks+1}) (GA I.kIn hc) ?_))))));rw[hd'];show wpAny _ A.in1 (alloc {cls:=.type "dict",data:=.dict #[]} >>= λd=>(update a λo=>{cls:=o.cls,dict:=some d,data:=o.data,slots:=o.slots})>>=λ_=>dictMade (.ref C) a d) _ _ _;refine z0 (rL ?_);generalize hd0:s.heap.objs.size=d;have dn:H d=none:=I.hok.fresh (mC hd0);have da:a≠d:=C1 e dn;have gD:(s.heap.push {cls:=.type "dict",data:=.dict #[]}).get? d=some {cls:=.type "dict",data:=.dict #[]}:=by
   rw[<-hd0];exact V1 s.heap rfl
  have nD:(s.heap.push {cls:=.type "dict",data:=.dict #[]}).Ns d (λ_=>none):=⟨_,#[],_,gD,rfl,λz hz=>absurd hz (by simp),λ_=>rfl⟩
  have I1:=I0.laid (a:=d) (o:=.xd []) (h':=s.heap.push {cls:=.type "dict",data:=.dict #[]}) (t':=s.toks+1) (λb q z=>V0 _ z) (mC hd0)
   ⟨λ_=>none,Heap.Ns1.of_empty nD,λ_=>g9,D1 _,λz hz=>absurd rfl hz⟩
  have e1:upd H d (.xd []) a=some (xO C fr none tb a):=by
   rw[N0 da];exact e
  have g2:(s.heap.push {cls:=.type "dict",data:=.dict #[]}).get? a=some ⟨.ref C,none,.fields vs,sl⟩:=V0 _ g1;refine z0 (wpAny_update g2 ?_);have g3:((s.heap.push {cls:=.type "dict",data:=.dict #[]}).update a λo=>{cls:=o.cls,dict:=some d,data:=o.data,slots:=o.slots}).get? a=some ⟨.ref C,some d,.fields vs,sl⟩:=DB _ g2 rfl;have I2:=I1.write (x:=a) (e:=a) (o:=xO C fr (some d) tb a) (t':=s.toks+1) (h':=(s.heap.push {cls:=.type "dict",data:=.dict #[]}).update a λo=>{cls:=o.cls,dict:=some d,data:=o.data,slots:=o.slots})
   (by rw[e1];exact Sh) (.inl rfl) (λb q hb z=>(Q5 _ _ (N2 hb)).trans z) ⟨_,g3⟩ (Em ⟨vs,sl,g3,sz,v1,v2⟩)
  have e2:upd (upd H d (.xd [])) a (xO C fr (some d) tb a) d=some (.xd []):=by
   rw[N0 (N2 da)];exact C0
  refine S0 (a:=some d) ?_;show wpAny _ _ (storeInDict d (.str f s.toks) f u) _ _ _;unfold storeInDict newKeyGuard;obtain⟨mA,n1,r1,l1,w1⟩:=(show u9 X.prog X.w _ _ d (.xd [])from I2.hok d _ e2)
  refine z0 (S0 (z0 (MN n1 λh3 n3 s3=>?_)));obtain⟨oD,esD,epD,hoD,hdD,hcD⟩:=n3.count (tH f u w1);refine z0 (vI hoD (by rw[hdD];exact wI (k4 hcD (by show 1<=_;rw[kF];decide))) ?_);refine S0 (h d (upd (upd (upd H d (.xd [])) a (xO C fr (some d) tb a)) d (.xd [(f,y)])) _ dn (N2 da) (I2.write (x:=d) (e:=d) (by rw[e2];exact g9) (.inl rfl) (λb q hb z=>(s3.2 b hb).trans z) ⟨_,hoD⟩
   ⟨_,n3,λg=>?_,by show 1<=1000;decide,λg hg=>?_⟩) ?_ C0 λb hb hbd=>?_)
  .show wG (List.lookup g [(f,y)]) (if g=f then some u else mA g);by_cases q:g=f
   .rw[J0 q,q];simp only[L9,qC];exact ry
   .rw[D0 q];have q':(g==f)=false:=by simpa using q
    simp only[L9,q',List.lookup_nil];exact r1 g
  .show g∈[f];by_cases q:g=f
   .rw[q];exact Q1.mpr rfl
   .have z:mA g≠none:=λz=>hg (by show(if g=f then some u else mA g)=none;rw[D0 q];exact z);exact absurd (w1 g z) (by simp)
  .rw[N0 da];exact C0
  .rw[N0 hbd,N0 hb,N0 hbd]
theorem Ov(I:V2 X pins σ H s)(e:H a=some (xO C fr (some d) tb a))(ed:H d=some (.xd fs))(c:FY X.K C)(n:M3 X.K C f)(hl:fs.length<1000)(ry:T4 y u)
 (h:∀s',V2 X pins σ (upd H d (.xd (CG f y fs))) s'->Q () s'):wpAny (model X.prog X.w) A (setAttr (.ref a) f u) Q E s:=by
  obtain⟨vs,sl,g1,sz,v1,v2⟩:=I.xo e;have da:a≠d:=jF e ed (by intro z;cases z);obtain⟨mA,n1,r1,l1,w1⟩:=(show u9 X.prog X.w _ _ d (.xd fs)from I.hok d _ ed)
  obtain⟨od,god,_⟩:=IP n1;have J:PySem.W.InstAt s.heap a ⟨.ref C,some d,.fields vs,sl⟩ C (some od):=⟨g1,rfl,rfl,god⟩
  have I0:=I.tok (s.toks+1);refine sH I.kIn J c.sa (dX (s:={s with toks:=s.toks+1}) I.kIn J c.po n λb=>?_);obtain⟨cd,hc,hd'⟩:=lC c.hd;refine z0 (S0 (z0 (z0 (MA g1 (z0 (BG (s:={s with toks:=s.toks+1}) (GA I.kIn hc) ?_))))));rw[hd'];refine S0 (a:=some d) ?_;show wpAny _ _ (storeInDict d (.str f s.toks) f u) _ _ _;unfold storeInDict newKeyGuard;refine z0 (S0 (z0 (MN n1 λh3 n3 s3=>?_)));obtain⟨oD,esD,epD,hoD,hdD,hcD⟩:=n3.count (tH f u w1);refine z0 (vI hoD (by rw[hdD];exact wI (k4 hcD (by rw[N1,B0,kF];lia))) ?_);refine S0 (h _ (I0.write (x:=d) (e:=d) (by rw[ed];exact g9) (.inl rfl) (λb q hb z=>(s3.2 b hb).trans z) ⟨_,hoD⟩ ⟨_,n3,λg=>?_,?_,λg hg=>?_⟩))
  .show wG ((CG f y fs).lookup g) (if g=f then some u else mA g);rw[jL];by_cases q:g=f
   .rw[J0 q,J0 q];exact ry
   .rw[D0 q,D0 q];exact r1 g
  .have:=kL f y fs
   lia
  .by_cases q:g=f
   .rw[q];exact(xI f y fs).1
   .refine(xI f y fs).2 g (w1 g λz=>hg ?_);show(if g=f then some u else mA g)=none;rw[D0 q];exact z
end
end L2
section
set_option maxHeartbeats 400000
namespace L2
open PySem PySem.Spec PyProof.Rows
theorem zaM:builtinKind "BaseException.__getattribute__"= some .slot:=by decide +kernel
theorem Qv:splitId "BaseException.__getattribute__"= some ("BaseException","__getattribute__"):=by decide +kernel
section
variable {X:Cx}{pins:List (Addr×Obj)}{σ:List (Option V)}{H:Hp}{s:Shared}{a C d:Addr}{fr:Bool}{tb:Value}{A:Around}{E:Value->Shared->Prop}{f:Str}{v:V}{fs:List (Str×V)}
theorem zaN{b:Bool}{Q:Value->Shared->Prop}(I:V2 X pins σ H s) (e:H a=some (xO C fr (some d) tb a)) (ed:H d=some (.xd fs)) (c:FY X.K C) (n:M3 X.K C f) (l:fs.lookup f=some v)
  (h:∀u s',V2 X pins σ H s'->T4 v u->Q u s'):wpAny (model X.prog X.w) A (getAttr (.ref a) f b) Q E s:=by
 obtain⟨vs,sl,g1,sz,v1,v2⟩:=I.xo e;obtain⟨mA,n1,r1,l1,w1⟩:=(show u9 X.prog X.w _ _ d (.xd fs)from I.hok d _ ed)
 obtain⟨od,god,lk0⟩:=IP n1;have J:PySem.W.InstAt s.heap a ⟨.ref C,some d,.fields vs,sl⟩ C (some od):=⟨g1,rfl,rfl,god⟩
 obtain⟨u,hu,ru⟩:∃u,mA f=some u/\T4 v u:=by
  have z:=r1 f;rw[l]at z;cases q:mA f with
  |none=>rw[q]at z;exact z.elim
  |some u=>rw[q]at z;exact⟨u,rfl,z⟩
 have FX:=PySem.F.attr_Exception;have L0:=J.type (M:=model X.prog X.w);have L1:=qA (M:=model X.prog X.w) I.kIn c.ga;have L2':=qA (M:=model X.prog X.w) I.kIn c.gh;have LF:=PySem.W.looks_find (M:=model X.prog X.w) I.kIn J (findObj_own (name:=f) c.hd n rfl (by rw[lk0,hu]));obtain⟨cd,hc,ho⟩:=lC c.po;have ne:cd.mro.isEmpty=false:=by
  cases q:cd.mro with
  |nil=>rw[q]at ho;cases ho
  |cons _ _=>rfl
 have sub:Looks (model X.prog X.w) s.heap (isInstance (.ref a) (.type "BaseException")) true:=J.type.andThen (IA I.kIn (by
  unfold mroIn;rw[hc,F4,D0 (by rw[ne];decide),(HG ho).2]))
 have I':=I.tok (s.toks+1);obtain⟨hp,g,dr,tk,os⟩:=s;unfold getAttr getAttrBy;refine z0 (wpAny_mkText (W4 (z0 (L0.at (z0 (L1.at ?_))))));dsimp only;rw[D0 (by simp)];unfold getAttrByItsOwn hookBefore;rw[J0 (by rfl)];refine z0 (L2'.at ?_);refine z0 (QH (W4 ?_));unfold callGetattribute;rw[D0 (by cases b<;>decide)];unfold boundAndCalled;rw[FX.ga.bind];refine z0 (S0 (OE ?_));refine codeAny_call_builtin FX.ga.plain PySem.F.entry_bexc_ga (@GG (model X.prog X.w) _ _ ⟨hp,g,dr,tk+1,os⟩ "BaseException.__getattribute__" "BaseException" "__getattribute__" (.ref a) [.str f tk] [] _ zaM Qv sub (PySem.F.args_bexc_ga _ _) ?_);show wpAny _ _ (typeOf (.ref a)>>=λtp=>Builtin.ObjectAttr.find (.ref a) tp f>>=_) _ _ _;refine z0 (L0.at (z0 (LF.at ?_)));refine S0 ?_;show wpAny _ _ (handedOut u) _ _ _;rw[PySem.W.handedOut_of (MW ru)];exact S0 (h u _ I' ru)
end
end L2
end
section
set_option maxHeartbeats 1000000
namespace L2
open PySem PySem.Spec PyProof.Rows
inductive Rv(K:Frag)(f:Str)(Q:VK)(x:V)(H1:Hp):Prop
 |mk (a C fr d tb fs v:_):x=.ref a->H1 a=some (xO C fr (some d) tb a)->H1 d=some (.xd fs)->FY K C->M3 K C f->fs.lookup f=some v->Q v H1->Rv K f Q x H1
def zb2(K:Frag)(ta:TE)(f:Str):TE:=λσ H Q=>ta σ H (Rv K f Q)
def zfL(K:Frag)(ta tv:TE)(f:Str):TS:=λD σ H=>tv σ H λy H1=>ta σ H1 λx H2=>∃a C fr dx tb,x=.ref a/\H2 a=some (xO C fr dx tb a)/\FY K C/\M3 K C f/\
 ((dx=none/\∀d H3,H2 d=none->d≠a->H3 a=some (xO C fr (some d) tb a)->H3 d=some (.xd [(f,y)])->(∀b,b≠a->b≠d->H3 b=H2 b)->D.nx σ H3)\/
   ∃d fs,dx=some d/\H2 d=some (.xd fs)/\fs.length<1000/\D.nx σ (upd H2 d (.xd (CG f y fs))))
section
variable {X:Cx}{o e XC:Expr}{f:Str}{pos ZK:Pos}{ta tv:TE}
theorem zaO(he:PE X e ta)(hb:attributeBase e f X.env (eval e X.env)=eval e X.env):PE X (.Attribute e f pos) (zb2 X.K ta f):=by
 intro pins s σ H Q I h;refine Ol hb (n8 (he pins s σ H _ I h) λu s1 ⟨x,H1,I1,rx,a,C,fr,d,tb,fs,v,ex,ea,ed,c,n,l,q⟩=>?_);subst ex;obtain rfl:u=Value.ref a:=rx;exact zaN I1 ea ed c n l λu' s2 I2 ru=>⟨v,H1,I2,ru,q⟩
theorem pM(ha:PE X o ta)(hv:PE X XC tv)(hs:swapsWith XC (some (.Attribute o f ZK)) pos.line X.env=pure false):PS X (.Assign [.Attribute o f ZK] XC pos) (zfL X.K ta tv f):=by
 intro pins s σ H D I h;refine vE (n8 (hv pins s σ H _ I h) λu s1 ⟨y,H1,I1,ry,q⟩=>n8 (ha pins s1 σ H1 _ I1 q) λov s2 ⟨x,H2,I2,rx,a,C,fr,dx,tb,ex,ea,c,n,q2⟩=>?_) hs;subst ex;obtain rfl:ov=Value.ref a:=rx;rcases q2 with⟨rfl,q2⟩|⟨d,fs,rfl,ed,l,q2⟩
 .exact Nv I2 ea c n ry λd H3 s3 dn da I3 e3 e4 kp=>⟨σ,H3,I3,q2 d H3 dn da e3 e4 kp⟩
 .exact Ov I2 ea ed c n l ry λs3 I3=>⟨σ,_,I3,q2⟩
end
structure CAt(K:Frag)(C:Addr)(m:Str)(f:Addr):Prop where
 ga:specialIn K (.ref C) "__getattribute__"= some (some (.builtin "type.__getattribute__"))
 rd:PySem.W.readsIn K C (.type "type")=true
 fd:PySem.W.findCls K (.ref C) (.type "type") m=some (.val (.ref f))
 kp:keepIn K (.ref f)=true
section
variable {X:Cx}{W:WX}{CX:Zs}{k:Nat}{f C:Addr}{fd:FuncData}{ps:List Str}{sp:Sp}{x m:Str}{p pos yE:Pos}{e:Expr}{es:List Expr}{t:TA}{cm:Bool}
theorem ET{pl:Sem Bool}(F:EA X.prog X.w X.K X.mg X.base CX cm k f fd ps sp) (hr:R8 cm k X.A) (hg:Gl X x) (hm:X.mg x=some (.ref C)) (hc:CAt X.K C m f) (hb:IB X.K fd ps []) (hx:BB CX X W) (ha:PA X (e::es) t)
  (LZ:(x==("__debug__": Str))=false:=by decide)
  (RM:starEach (e::es) X.env=(false,eval e X.env)::starEach es X.env:=by rfl) (IH:(backTo pos (starEach es X.env)).any (·.1)=false:=by rfl)
  (ht:eval (.Call (.Attribute (.Name x p) m yE) (e::es) [] pos) X.env=(do
    let ov <-eval (.Name x p) X.env
    standAt yE.atName
    let (f,first) <-holding [ov] (getMethod ov m pl)
    callWith pos f first (backTo pos (starEach (e::es) X.env)) (backToKw pos (keywordEach [] X.env))):=by rfl) :
  PE X (.Call (.Attribute (.Name x p) m yE) (e::es) [] pos) (Rl sp [] W t):=by
 intro pins s σ H Q I h;refine AE (pl:=pl) (oH I hg hm ?_ LZ) ht;refine PySem.W.method_cls I.kIn hc.ga (PySem.W.cls_value I.kIn hc.rd hc.fd rfl ?_);have I0:=I.tok (s.toks+1);refine fB (h₀:=X.base) I.ok.mod.kin hc.kp (n8 (ha pos pins {s with toks:=s.toks+1} σ H _ I0 h) λus s1 ⟨vs,H1,I1,r,q⟩=>⟨I1.kIn,?_⟩) RM IH;exact pY F hr hb .nil hx I1 r q
end
end L2
end
namespace L2
open PySem PySem.Spec PyProof.Rows
variable {Xk tg PF:Expr}{own:List (Str×Nat)}{Kg:List Expr}{pos:Pos}{scope:Scope}{te:TE}{g:TG}{wi:TI}{tt:TT}{E:XK}
section
variable {X:Cx}
abbrev InB(X:Cx)(scope:Scope)(E:XK)(R:Cx->Prop):Prop:=∀{s:Shared}{H:Hp}{C:Addr}{cl:List (Str×Addr)}{fp:List Addr}{xe:Value->Shared->Prop},RC ((X.blk s H scope (compEnvC scope cl C X.env) fp).wish xe) (λ_=>E)->R ((X.blk s H scope (compEnvC scope cl C X.env) fp).wish xe)
theorem Lb{pins:List (Addr×Obj)}{s:Shared}{σ:St}{H:Hp}{Q:VK}{ZK:Pos}{use:Option (Value->Sem Unit)}{Qf:Value->Shared->Prop}
 (tk:RC X (λ_=>E)) (RM:X.stack=X.env::X.outer) (hfm:X.env.frame=some X.env.locals) (hc:X.calm=true) (hN:X.N.Nodup) (I:V2 X pins σ H s) (hi:PI X tg PF wi) (ok:Qa X.N X.env.scope scope own)
 (hg:InB X scope E λY=>PG Y tg g) (ht:InB X scope E λY=>PTs Y Kg tt)
 (he:InB X scope E λY=>PE Y Xk te) (hs:∀x,foldedSetIterable PF X.env x=pure x)
 (h:tLc wi g tt te (own.map (·.2)) σ H Q)
 (hRR:∀D C s' m H',V2 X pins σ H' s'->Q (.ref D) H'->s'.heap.Ns C m->iL X pins H' C->compPost (model X.prog X.w) X.A X.xe use Qf (.ref D) C (.ok .next) s') :
   wpAny (model X.prog X.w) X.A (comprehension (.ListComp Xk [⟨tg,PF,Kg,0⟩] scope pos) scope X.env ZK (newList []) false (eval PF X.env) use) Qf X.xe s:=by
  have Vo:∀y∈scope.names,y.2=.free->∃c,X.env.cells.lookup y.1=some c:=λy hy e=>by
   rcases ok.free y hy e with k|k
   .exact I.ok.has _ (.inl k)
   .exact I.ok.has _ (.inr k)
  refine wpAny_comprehension_free (use:=use) rfl hs (Ph Vo) ok.kind (λy hy e=>by rw[ok.uniq y hy,e])
   (n8 (hi pins s σ H _ I h) λxv s1 hx=>n8 hx λitv s2 h2=>?_)
  obtain⟨it,fp,tn,J,H2,e,I2,T,Uk,f2,q⟩:=h2;subst e;refine N5 (Pa ?_) (by show 0<=sizeLine;decide);generalize hD:s2.heap.objs.size=D;have hDn:H2 D=none:=I2.hok.fresh (mC hD);obtain⟨W,⟨m0,w0⟩,turn⟩:=q D hDn;generalize hs3:({s2 with heap:=s2.heap.push {cls:=.type "list",data:=.seq ([]:List Value).toArray}}:Shared)=s3;have I3:V2 X pins σ (upd H2 D (.lst [])) s3:=by
   rw[<-hs3];refine I2.laid (t':=s2.toks) (λb o e=>V0 _ e) (mC hD) ⟨D1 _,[],0,.nil,?_⟩;rw[<-hD];exact V1 _ rfl
  have h3:s3.heap=s2.heap.push {cls:=.type "list",data:=.seq ([]:List Value).toArray}:=by rw[<-hs3]
  have sz:∀b∈fp,b<s2.heap.objs.size:=λb hb=>by
   obtain⟨o,e,_⟩:=T.obj _ _ Uk b hb;exact K2 e
  have f3:∀b∈fp,iL X pins (upd H2 D (.lst [])) b/\b<s3.heap.objs.size:=λb hb=>by
   have DC:=sz b hb;refine⟨⟨?_,(f2 b hb).2⟩,by rw[h3,Z4];exact VD DC⟩;rw[N0 (by rw[<-hD];exact K3 DC)];exact(f2 b hb).1
  have Bz:tn 0 s3.heap:=T.keep _ _ _ Uk λb _ o e=>by rw[h3];exact V0 _ e
  have I4:=Ra I3 ok hN f3
  let RR:=compPost (model X.prog X.w) X.A X.xe use Qf (.ref D) s3.heap.objs.size
  let xeB:Value->Shared->Prop:=notedBy (model X.prog X.w) X.A (compEnvC scope (cellsFrom (s3.heap.objs.size+1) scope.names (B8 X.env.cells scope.names [])) s3.heap.objs.size X.env) (λe s'=>RR (.error e) s')
  have tkB:RC ((X.blk s3 (upd H2 D (.lst [])) scope (compEnvC scope (cellsFrom (s3.heap.objs.size+1) scope.names (B8 X.env.cells scope.names [])) s3.heap.objs.size X.env) fp).wish xeB) (λ_=>E):=by
   refine⟨λp5 σ5 H5 s5 a5 C5 fr5 dx5 I5 l5 w5=>?_,xH⟩;refine JS (X:=(X.blk s3 (upd H2 D (.lst [])) scope (compEnvC scope (cellsFrom (s3.heap.objs.size+1) scope.names (B8 X.env.cells scope.names [])) s3.heap.objs.size X.env) fp).wish xeB) (L:=X.env.locals) I5 I5.ok.frames RM hfm hfm l5 λH6 s6 I6 m6 l6=>?_;have I7:V2 X pins σ H6 s6:=I3.call' (ch:=fp) I6.os I6.base I6.hok I6.bare λb hb=>⟨(f3 b hb).1.2.2.2.1,(f3 b hb).1.2.1,(f3 b hb).1.2.2.2.2.1,(f3 b hb).1.2.2.2.2.2⟩
   have nC:H6 s3.heap.objs.size=none:=I6.free;obtain⟨m7,hn7,_⟩:=I6.loc;have hn7:s6.heap.Ns s3.heap.objs.size m7:=hn7;have F7:iL X pins H6 s3.heap.objs.size:=I3.fpOk (j1 _) nC;obtain⟨f0,f1,f2,f3',f4,f5⟩:=F7;refine⟨m7,hn7,λh8 sb8 zD hce=>?_⟩;have I8:V2 X pins σ H6 {s6 with heap:=h8}:=I7.turned (t':=s6.toks) (λb o hb e=>(sb8.2 b hb).trans e) f0 f1 f3' f4 f5;exact OP I8 l6 λH9 s9 I9 m9 l9=>tk.th pins σ H9 s9 a5 C5 fr5 dx5 I9 l9.live (by rw[m9,m6];exact w5)
  have pg:=hg tkB;have pt:=ht tkB;have pe:=he tkB;clear tkB;show codeAny _ _ (.compStart (.ListComp Xk [⟨tg,PF,Kg,0⟩] scope pos) 0 (.ref it) (.ref D) (compEnvC scope (cellsFrom (s3.heap.objs.size+1) scope.names (B8 X.env.cells scope.names [])) s3.heap.objs.size X.env)) (compPost (model X.prog X.w) X.A X.xe use Qf (.ref D) s3.heap.objs.size) {s3 with heap:=pushCells (s3.heap.push {cls:=.type "dict",data:=.dict #[]}) scope.names};have nfp:∀b∈fp,(upd H2 D (.lst [])) b=none:=λb hb=>(f3 b hb).1.1;have hxe:xeB=notedBy (model X.prog X.w) X.A (compEnvC scope (cellsFrom (s3.heap.objs.size+1) scope.names (B8 X.env.cells scope.names [])) s3.heap.objs.size X.env) (λe s'=>RR (.error e) s'):=rfl
  clear_value xeB
  generalize hce:compEnvC scope (cellsFrom (s3.heap.objs.size+1) scope.names (B8 X.env.cells scope.names [])) s3.heap.objs.size X.env=ce at I4 pg pt pe hxe ⊢;have cL:ce.locals=s3.heap.objs.size:=by subst hce;rfl
  generalize hH3:upd H2 D (.lst [])=H3 at I3 I4 pg pt pe w0 nfp f3;generalize hs4:({s3 with heap:=pushCells (s3.heap.push {cls:=.type "dict",data:=.dict #[]}) scope.names}:Shared)=s4 at I4 ⊢;have st4:tn 0 s4.heap:=T.keep _ _ _ Bz λb _ o e=>by rw[<-hs4];exact xF _ _ _ _ (V0 _ e)
  have Vk:∀{σ':St}{H':Hp}{s':Shared},V2 (X.blk s3 H3 scope ce fp) [] σ' H' s'->(∀b∈fp,H' b=none)->∀b∈fp,iL (X.blk s3 H3 scope ce fp) [] H' b:=λ{σ' H' s'} I' hn b hb=>
   ⟨hn b hb,(I'.ok.exf b hb).1,I'.ok.exfs b hb,.inl hb,λx c e=>(I'.ok.exf b hb).2 x c e,λp hp=>absurd (show p∈([]:List (Addr×Obj))++[]from hp) (by simp)⟩
  have loop:codeAny (model X.prog X.w) X.A (.compLoop (.ListComp Xk [⟨tg,PF,Kg,0⟩] scope pos) 0 (.ref it) (.ref D) ce) (compPost (model X.prog X.w) X.A X.xe use Qf (.ref D) s3.heap.objs.size) s4:=by
   refine xY (λn s'=>∃i H',V2 (X.blk s3 H3 scope ce fp) [] (Z7 σ (own.map (·.2))) H' s'/\tn i s'.heap/\(∀b∈fp,H' b=none)/\W i n H') ?_ m0 ⟨0,H3,I4,st4,nfp,w0⟩;rintro n s5 ⟨i,H5,I5,st5,n5,w5⟩;rcases turn i n H5 w5 with⟨stop,qq⟩|⟨go,Nx,hNx,step⟩
   .have td:=T.done (X.blk s3 H3 scope ce fp) rfl rfl rfl hc i [] s5 _ H5 (λ_ _=>False) I5 (Vk I5 n5) st5 stop;refine zdf td λr s6 ⟨hr,I6⟩=>?_;subst hr;have I7:V2 X pins σ H5 s6:=I3.call' (ch:=fp) I6.os I6.base I6.hok I6.bare λb hb=>⟨(f3 b hb).1.2.2.2.1,(f3 b hb).1.2.1,(f3 b hb).1.2.2.2.2.1,(f3 b hb).1.2.2.2.2.2⟩
    have nC:H5 s3.heap.objs.size=none:=by
     have z:H5 ce.locals=none:=I6.free;rw[cL]at z;exact z
    obtain⟨m,hn,_⟩:=I6.loc;have hn:s6.heap.Ns ce.locals m:=hn;rw[cL]at hn;exact hRR D s3.heap.objs.size s6 m H5 I7 qq hn (I3.fpOk (j1 _) nC)
   .have ti:=T.item (X.blk s3 H3 scope ce fp) rfl rfl rfl hc i [] s5 _ H5 (λ_ _=>False) I5 (Vk I5 n5) st5 go;refine zdf ti λr s6 ⟨u,hr,h6⟩=>?_;subst hr;refine zdf h6 λ_ s7 ⟨x,H7,I7,r7,y7,st7,n7⟩=>?_;have I7':=I7.pinned (Vk I7 n7) (T.obj _ _ st7);refine P5 (pg _ s7 _ H7 x u _ (I7'.wish xeB) r7 (step x H7 y7)) (λ_ s8 ⟨σ8,H8,I8w,hw8,q8⟩=>?_) λ_ _ z=>(by rw[<-hxe];exact z)
    have I8:=I8w.unwish;refine P5 (pt _ s8 σ8 H8 _ (I8.wish xeB) q8) (λb s9 ⟨H9,I9w,q9⟩=>?_) λ_ _ z=>(by rw[<-hxe];exact z)
    have I9:=I9w.unwish;have fin:∀{s':Shared}{H':Hp},V2 (X.blk s3 H3 scope ce fp) ([]++ZS fp s7.heap) σ8 H' s'->Nx H'->∃m,m<n/\∃i H',V2 (X.blk s3 H3 scope ce fp) [] (Z7 σ (own.map (·.2))) H' s'/\tn i s'.heap/\(∀b∈fp,H' b=none)/\W i m H':=λ{s' H'} I' nx=>by
     obtain⟨m',hm,w'⟩:=hNx H' nx;have zgt:∀b∈fp,∀o,s7.heap.get? b=some o->s'.heap.get? b=some o/\H' b=none:=λb hb o e=>
      let z:=I'.pin (b,o) (i4 _ (i4 _ (uJ hb e)))
      ⟨z.1,z.2.1⟩
     have hl:(Z7 σ (own.map (·.2))).length=σ8.length:=by rw[<-hw8,uL]
     refine⟨m',hm,i+1,H',(I'.unpinned (pins:=[])).weak hl (λj v e=>?_),T.keep _ _ _ st7 λb hb o e=>(zgt b hb o e).1,λb hb=>?_,w'⟩
     .rw[<-hw8]at e;exact(MP e).1
     .obtain⟨o,e,_⟩:=T.obj _ _ st7 b hb;exact(zgt b hb o e).2
    cases b with
    |false=>
     simp only[F3,N7]at q9 ⊢;exact fin I9 q9
    |true=>
     simp only[cG]at q9 ⊢;refine P5 (pe _ s9 σ8 H9 _ (I9.wish xeB) q9) (λz s10 ⟨yv,H10,I10w,r10,acc,hD10,hz10,nx⟩=>?_) λ_ _ z=>(by rw[<-hxe];exact z)
     have I10:=I10w.unwish;exact zde (X:=X.blk s3 H3 scope ce fp) I10 hD10 hz10 r10 λs11 I11=>fin I11 nx
  exact codeAny_compStart_list loop (T.self X.A 0 _ _ _ st4 loop)
theorem GC(tk:RC X (λ_=>E))(RM:X.stack=X.env::X.outer)(hfm:X.env.frame=some X.env.locals)(hc:X.calm=true)(hN:X.N.Nodup)(hi:PI X tg PF wi)(ok:Qa X.N X.env.scope scope own)
 (hg:InB X scope E λY=>PG Y tg g) (ht:InB X scope E λY=>PTs Y Kg tt)
 (he:InB X scope E λY=>PE Y Xk te) (hs:∀x,foldedSetIterable PF X.env x=pure x:=by intro _;rfl) :
   PE X (.ListComp Xk [⟨tg,PF,Kg,0⟩] scope pos) (tLc wi g tt te (own.map (·.2))):=by
  intro pins s σ H Q I h;rw[eval_ListComp];refine Lb tk RM hfm hc hN I hi ok hg ht he hs h λD C s' m H' I' q hn f=>⟨m,hn,λh'' sb=>?_⟩
  obtain⟨f0,f1,f2,f3,f4,f5⟩:=f;exact⟨.ref D,H',I'.turned (t':=s'.toks) (λb o hb e=>(sb.2 b hb).trans e) f0 f1 f3 f4 f5,rfl,q⟩
theorem LI{i:Nat}{y:Str}{py:Pos}{zgu:Pos}(tk:RC X (λ_=>E)) (RM:X.stack=X.env::X.outer) (hfm:X.env.frame=some X.env.locals) (hc:X.calm=true) (hN:X.N.Nodup) (hy:X.N[i]?=some y) (hyl:X.env.scope.names.lookup y=some .local)
 (hsw:swapsWith (.ListComp Xk [⟨tg,PF,Kg,0⟩] scope pos) (some (.Name y py)) zgu.line X.env=pure true) (hi:PI X tg PF wi) (ok:Qa X.N X.env.scope scope own)
 (hg:InB X scope E λY=>PG Y tg g) (ht:InB X scope E λY=>PTs Y Kg tt)
 (he:InB X scope E λY=>PE Y Xk te) (hs:∀x,foldedSetIterable PF X.env x=pure x:=by intro _;rfl) :
   PS X (.Assign [.Name y py] (.ListComp Xk [⟨tg,PF,Kg,0⟩] scope pos) zgu) (Zt (tLc wi g tt te (own.map (·.2))) (pH i)):=by
  intro pins s σ H D I h;rw[exec_Assign_Name_used _ _ _ _ hsw];refine z0 (w9 (z0 ?_));show wpAny _ X.A (do let _ <-comprehension (.ListComp Xk [⟨tg,PF,Kg,0⟩] scope pos) scope X.env (firstIterPos [⟨tg,PF,Kg,0⟩] pos) (newList []) false (eval PF X.env) (some (assign (.Name y py) X.env))) _ _ s;have h:tLc wi g tt te (own.map (·.2)) σ H (λx H1=>pH i x σ H1 D.nx):=h;refine z0 (n8 (Lb (Qf:=λ_ s'=>SP X pins D .next s') tk RM hfm hc hN I hi ok hg ht he hs h λL C s' m H' I' q hn f=>?_) λ_ s' hq=>S0 (S0 hq));show wpAny _ _ (assign (.Name y py) X.env (.ref L)) _ _ _;refine wpAny_assign_Name (LW (v:=V.ref L) I' hN hy (.inl hyl) rfl (λs2 I2 ⟨a,sb,ha⟩=>?_) (.inr hyl));obtain⟨f0,f1,f2,f3,f4,f5⟩:=f;have haC:C≠a:=by
   rcases ha with z|z
   .rw[z];exact f1
   .exact λe=>f4 y a z e.symm
  refine⟨m,hn.sameBut sb haC,λh3 sb3=>?_⟩;exact⟨_,H',I2.turned (t':=s2.toks) (λb o hb e=>(sb3.2 b hb).trans e) f0 f1 f3 f4 f5,q⟩
end
end L2
namespace HT
open PySem PyProof.Rows
def lexGt:List Int->List Int->Bool
 |[],[]=>false
 |[],_::_=>false
 |_::_,[]=>true
 |x::xs,y::ys=>if x=y then lexGt xs ys else decide (y<x)
theorem lexGt_cons(x y:Int)(xs ys:List Int):lexGt (x::xs) (y::ys)=if x=y then lexGt xs ys else decide (y<x):=rfl
theorem lexGt_nil_nil:lexGt [] []=false:=rfl
theorem GT(y:Int)(ys:List Int):lexGt [] (y::ys)=false:=rfl
theorem IT(x:Int)(xs:List Int):lexGt (x::xs) []=true:=rfl
theorem Sv(A:Around)(s:Shared)(a:Int)(t:Tok)(c:Int)(u:Tok)(prog:Program)(w:World)(E:Value->Shared->Prop)(Q:Value->Shared->Prop)(h:Q (.bool (decide (c<a))) s) :
  wpAny (model prog w) A (richCompare .Gt (.int a t) (.int c u)) Q E s:=
 (PyProof.Rows.gt_int h:wpAny (model prog w) A (compareOp .Gt (.int a t) (.int c u)) Q E s)
section
open PySem.SeqAt
open PySem.AutoSeq1 (wpAny_loadPart')
open PySem.MeetsSeq PySem.MeetsSeq2 PySem.MeetsSeq3
theorem WV(l b:Addr)(items u7:Array Value)(n n2:Nat)(dd Tg:Option Addr)(sl Ug:Array (Option Value))(ns ms:List Int)(hi:IntsAre items.toList ns)(hj:IntsAre u7.toList ms) :
  Meets (Builtin.«tuple.__gt__» ⟨[.ref l,.ref b],[]⟩)
   (λ_ R s=>s.heap.get? l=some {cls:=.type "tuple",dict:=dd,data:=.seq items n,slots:=sl}/\s.heap.get? b=some {cls:=.type "tuple",dict:=Tg,data:=.seq u7 n2,slots:=Ug}/\
     R (.ok (.ret (.bool (lexGt ns ms)))) s):=
 .of_wp λprog w A R s h=>by
  obtain⟨hp,g,d,tk,os⟩:=s;obtain⟨hl,hb,h⟩:=h;have f2:=OC;have z1:items.size=ns.length:=by rw[<-hi.length];simp
  have z2:u7.size=ms.length:=by rw[<-hj.length];simp
  wp_walk using wpAny_loadPart' hl,wpAny_loadPart' hb,zI _ (λY7 b s'=>b.1=none/\s'=⟨hp,g,d,tk,os⟩/\∃(vs ws:List Value)(Vg Ss:List Int),Y7=vs.zip ws/\
   IntsAre vs Vg/\IntsAre ws Ss/\Vg.length+u7.size=Ss.length+items.size/\R (.ok (.ret (.bool (lexGt Vg Ss)))) ⟨hp,g,d,tk,os⟩) _
  case turn=>
   rintro⟨y,x⟩ Y7 b s' ⟨BP,rfl,vs,ws,Vg,Ss,hz,hvi,Ig,LC,hR⟩;cases hvi with
   |nil=>rw[List.zip_nil_left]at hz;cases hz
   |cons a t hvi'=>
    cases Ig with
    |nil=>rw[List.zip_nil_right]at hz;cases hz
    |cons c u hwi'=>
     rw[dD]at hz;injection hz with hyx hrest;injection hyx with hy hx;subst hy hx;rw[lexGt_cons]at hR;simp only[N1]at LC;obtain⟨e,he,Dz⟩:=La A.in1 ⟨hp,g,d,tk,os⟩ a t c u;refine z0 (he prog w _ _ ?_);cases e with
     |true=>
      rw[J0 (Dz.mp rfl)]at hR
      wp_walk
      exact⟨rfl,rfl,_,_,_,_,hrest,hvi',hwi',by lia,hR⟩
     |false=>
      rw[D0 (λq=>absurd (Dz.mpr q) X1)]at hR;have hri:=Sv A.in1 ⟨hp,g,d,tk,os⟩ a t c u prog w
      wp_walk using hri
      exact⟨_,rfl,by simpa using hR⟩
  case fin=>
   rintro⟨b1,b2⟩ s' ⟨BP,rfl,vs,ws,Vg,Ss,hz,hvi,Ig,LC,hR⟩;simp only at BP;subst BP;have hv:lexGt Vg Ss=decide (u7.size<items.size):=by
    cases hvi with
    |nil=>
     cases Ig with
     |nil=>
      simp only[O6]at LC;rw[lexGt_nil_nil];exact(Y0 (by lia)).symm
     |cons c u hw=>
      simp only[O6,N1]at LC;rw[GT];exact(Y0 (by lia)).symm
    |cons a t hv=>
     cases Ig with
     |nil=>
      simp only[O6,N1]at LC;rw[IT];exact(F1 (by lia)).symm
     |cons c u hw=>
      rw[dD]at hz;cases hz
   rw[hv]at hR
   wp_walk
   exact⟨_,rfl,by simpa[Builtin.Tuple.tupleCompareSizes]using hR⟩
  case h=>
   exact⟨rfl,rfl,items.toList,u7.toList,ns,ms,rfl,hi,hj,by lia,h⟩
end
theorem gt_tupInts{prog:Program}{w:World}{A:Around}{E:Value->Shared->Prop}{s:Shared}{l b:Addr}{items u7:Array Value}{ns ms:List Int}{Q:Value->Shared->Prop}(hl:IsTup s.heap l items) (hb:IsTup s.heap b u7) (hi:IntsAre items.toList ns) (hj:IntsAre u7.toList ms)
  (hu:A.units<cLine) (h:Q (.bool (lexGt ns ms)) s):wpAny (model prog w) A (compareOp .Gt (.ref l) (.ref b)) Q E s:=by
 obtain⟨⟨cls,dd,data,sl⟩,ho,hc,n,hd⟩:=id hl;obtain⟨⟨zbx,Tg,data2,Ug⟩,jY,VZ,n2,HW⟩:=id hb;simp only at hc hd VZ HW;subst hc hd VZ HW;exact OD (op:=.Gt) ⟨_,ho,rfl⟩ ⟨_,jY,rfl⟩ PySem.F.slot_tuple_gt PySem.F.entry_tuple_gt (PySem.F.args_tuple_gt_2 _ _) (WV l b items u7 n n2 dd Tg sl Ug ns ms hi hj)
  ⟨ho,jY,show Value.bool (lexGt ns ms)≠Value.notImplemented/\Q (.bool (lexGt ns ms)) s from⟨(λx=>nomatch x),h⟩⟩ hu
end HT
namespace L2
open PySem PySem.Spec PyProof.Rows
open PySem.AutoSeq1 (wpAny_loadPart')
variable {it t l:Addr}{A:Around}{items:Array Value}{cm:Bool}{X:Cx}{e:Expr}{Hz:List Expr}{i:Nat}{Hg pos:Pos}{prog P:Program}{s:Shared}{x:Value}{E Q:Value->Shared->Prop}{w:World}
inductive zfM(K:Frag)(x:V)(y:V)(H:Hp)(Q:VK):Prop
 |mk (a b ns ms:_):x=.ref a->y=.ref b->eA K H a (ns.map V.int)->eA K H b (ms.map V.int)->Q (.bl (HT.lexGt ns ms)) H->zfM K x y H Q
theorem zdq(hu:X.A.units<cLine):vJ X (compareOp .Gt) (zfM X.K):=by
 intro pins s σ H x y v u Q I rx ry h;obtain⟨a,b,ns,ms,rfl,rfl,ha,hb,q⟩:=h;cases rx;cases ry;obtain⟨its,r1,p1,_⟩:=I.tuple ha;obtain⟨aL,r2,p2,_⟩:=I.tuple hb;have i1:IntsAre its.toArray.toList ns:=yJ r1;have i2:IntsAre aL.toArray.toList ms:=yJ r2;exact HT.gt_tupInts p1 p2 i1 i2 hu ⟨.bl (HT.lexGt ns ms),H,I,rfl,q⟩
theorem Zh(gH:s.heap.IsTupleIter it t i)(ht:s.heap.IsTuple t items)(hx:items[i]?=some x)
 (hQ:∀h',h'.IsTupleIter it t (i+1)->Heap.SameBut it s.heap h'->Q x {s with heap:=h'}):wpAny (model prog w) A (Builtin.SmallTypes.nextOf (.ref it)) Q E s:=by
  obtain⟨o,ho,hc,hd⟩:=id gH;obtain⟨ot,hot,_,n,Bp⟩:=ht;unfold Builtin.SmallTypes.nextOf;refine z0 (O7 (name:=Str.ofString "__next__") gH.typeIs S9 (J9 S9 gH.typeIs eG ?_ (BF _)));have nt:¬((Value.ref t==Value.none)=true):=λz=>nomatch z;show wpAny _ _ (field (.ref it) 0>>=λv=>if (v==Value.none)=true then _ else _) _ _ s;refine z0 (O5 ho hd (x:=.ref t) rfl ?_);rw[D0 nt];refine z0 (O5 ho hd (x:=.int i 0) rfl (z0 (SB hot Bp ?_)));simp only[c5,hx];refine z0 (P9 ho hd (by simp) (S0 ⟨x,rfl,S0 (hQ _ ⟨_,DB _ ho (Obj.isFreed_of_fields (Obj.data_mapFields hd _)),(Obj.cls_mapFields ..).trans hc,?_⟩ (WF ..))⟩));rw[Obj.data_mapFields hd];simp[rawInt]
theorem eX(hh:A.handled=none)(gH:s.heap.IsTupleIter it t i)(ht:s.heap.IsTuple t items)(hx:items[i]?=none)
 (hE:∀h' e,Heap.ExtBut it s.heap h'->(∃o,h'.get? e=some o/\o.cls=.type "StopIteration")->E (.ref e) {s with heap:=h'}):wpAny (model prog w) A (Builtin.SmallTypes.nextOf (.ref it)) Q E s:=by
  obtain⟨o,ho,hc,hd⟩:=id gH;obtain⟨ot,hot,_,n,Bp⟩:=ht;unfold Builtin.SmallTypes.nextOf;refine z0 (O7 (name:=Str.ofString "__next__") gH.typeIs S9 (J9 S9 gH.typeIs eG ?_ (BF _)));have nt:¬((Value.ref t==Value.none)=true):=λz=>nomatch z;show wpAny _ _ (field (.ref it) 0>>=λv=>if (v==Value.none)=true then _ else _) _ _ s;refine z0 (O5 ho hd (x:=.ref t) rfl ?_);rw[D0 nt];refine z0 (O5 ho hd (x:=.int i 0) rfl (z0 (SB hot Bp ?_)));simp only[c5,hx];refine z0 (YM (z0 (P9 ho hd (by simp) ?_)));show wpAny _ _ (newExc (.type "StopIteration") []>>=_) _ _ _;refine z0 ?_;simp only[newExc,newTuple];refine z0 (N5 ?_ (by size_fits));refine z0 (m:=firstArgMember _ _) (wpAny_of_eq (a:=Value.none) (by first|rfl|(simp only[firstArgMember];rfl)) ?_);refine N5 ?_ (by size_fits);simp only[raiseNew];refine z0 (SH ?_)
  first|rw[show A.in1.handled=none from hh]|rw[hh]
  refine z0 (S0 (DD ?_));exact hE _ _ (((WF ..).extBut.push _).push _) ⟨_,V1 _ rfl,rfl⟩
theorem Mq(hh:A.handled=none)(it t:Addr)(bL:t≠it)(items:Array Value):Draws prog w A it [it,t] items.size (λi v=>items[i]?=some v) (λi h=>h.IsTupleIter it t i/\h.IsTuple t items) where
 live:=λ_ _ st=>let ⟨o,ho,_⟩:=st.1;⟨o,ho⟩
 frame:=λ_ _ _ st hk=>⟨st.1.at λo e=>hk it (by simp) o e,let ⟨o,ho,r⟩:=st.2;⟨o,hk t (by simp) o ho,r⟩⟩
 item:=λi s Q E hi st hQ=>Zh st.1 st.2 (x:=items[i]) (by simp[hi]) λh' a b=>hQ _ h' s.toks (by simp[hi]) ⟨a,st.2.extBut b.extBut bL⟩ b
 done:=λs Q E st hE=>eX hh st.1 st.2 (by simp) hE
theorem NR{e:Addr}{old:Value}{Q:Option Value->Shared->Prop}(he:IsEnum s.heap e it i old) (gH:s.heap.IsTupleIter it l i) (hl:s.heap.IsTuple l items) (hx:items[i]?=some x) (bL:e≠it) (hh:A.handled=none)
 (hQ:∀h' tk,IsEnumOut h' e it ((i:Int)+1) x s.heap.objs.size->h'.IsTupleIter it l (i+1)->h'.get? s.heap.objs.size=some {cls:=.type "tuple",data:=.seq #[.int i tk,x]}->h'.objs.size=s.heap.objs.size+1->
 (∀b o,b≠e->b≠it->s.heap.get? b=some o->h'.get? b=some o)->Q (some (.ref s.heap.objs.size)) {s with heap:=h',toks:=tk+1}):wpAny (model prog w) A (pyNext (.ref e)) Q E s:=by
  have hi:i<items.size:=(R9.mp hx).1;obtain⟨oi,hoi,hci,_⟩:=id gH;obtain⟨ol,hol,Kt,_⟩:=id hl;have hil:l≠it:=λz=>by
   subst z;obtain rfl:oi=ol:=M0 (hoi.symm.trans hol);rw[hci]at Kt;exact absurd Kt (by decide)
  have hel:e≠l:=λz=>by
   subst z;have q:_=ol:=M0 (he.symm.trans hol);rw[<-q]at Kt;exact absurd (show Value.type "enumerate"= Value.type "tuple" from Kt) (by decide)
  refine wpAny_pyNext_enum_itemD (Mq (A:=A.in1) hh it l hil items) he ⟨gH,hl⟩ hi bL (by simp[bL,hel]) λy h' tk hy a b c d k=>?_;obtain rfl:x=y:=M0 (hx.symm.trans hy);exact hQ h' tk a b.1 c d k
theorem JT{e:Addr}{old:Value}{Q:Option Value->Shared->Prop}(hh:A.handled=none) (he:IsEnum s.heap e it i old) (gH:s.heap.IsTupleIter it l i) (hl:s.heap.IsTuple l items) (hx:items[i]?=none)
 (hQ:∀h',Heap.ExtBut it s.heap h'->Q none {s with heap:=h'}):wpAny (model prog w) A (pyNext (.ref e)) Q E s:=by
  have hT:s.TypeIs (.ref e) "enumerate":= ⟨_,he,rfl⟩;unfold pyNext;refine z0 (QH (O7 (name:=Str.ofString "__next__") hT FK (J9 FK hT F.entry_enumerate_next ?_ (F.args_enumerate_next_1 _))));show wpAny _ _ (field (.ref e) 2>>=_) _ _ _;refine z0 (O5 he rfl (x:=.ref it) rfl (z0 (eX hh gH hl hx λh' x k ⟨o,ho,hc⟩=>?_)));exact z0 (wpAny_isInstance (T:= "StopIteration") (b:=true) ⟨o,ho,hc⟩ isSubtype_stop (S0 (hQ _ k)))
theorem Mb(l:Addr)(items:Array Value)(n:Nat)(dct:Option Addr)(sl:Array (Option Value)) :
  Meets (Builtin.«enumerate.__new__» ⟨[.type "enumerate",.ref l],[]⟩) (λ_ R s=>s.heap.get? l=some {cls:=.type "tuple",dict:=dct,data:=.seq items n,slots:=sl}/\
   R (.ok (.ret (.ref (s.heap.push {cls:=.type "tuple_iterator",data:=.fields #[.ref l,.int 0 0]}).objs.size)))
    {s with heap:=(s.heap.push {cls:=.type "tuple_iterator",data:=.fields #[.ref l,.int 0 0]}).push {cls:=.type "enumerate",data:=.fields #[.none,.bool false,.ref s.heap.objs.size,rawInt 0,.none,.none]}}):=
 .of_wp λprog w A R s h=>by
  obtain⟨hp,g,d,tk,os⟩:=s;obtain⟨hl,h⟩:=h;have zmN:=sub_enumerate;have hL:Heap.IsTuple (Shared.heap ⟨hp,g,d,tk,os⟩) l items:=⟨_,hl,rfl,n,rfl⟩
  wp_walk using wpAny_loadPart' hl
  refine wpAny_stack_any λst=>S0 ?_;split
  .rename_i c _ _ _ _ _;cases (c==Value.type "enumerate")<;>
   .wp_walk using wpAny_loadPart' hl,zG hL
    exact⟨_,rfl,h⟩
  .wp_walk using wpAny_loadPart' hl,zG hL
   exact⟨_,rfl,h⟩
theorem Ai(hL:s.heap.IsTuple l items)
 (h:∀h',IsEnum h' (s.heap.objs.size+1) s.heap.objs.size 0 .none->h'.IsTupleIter s.heap.objs.size l 0->h'.objs.size=s.heap.objs.size+2->(∀b o,s.heap.get? b=some o->h'.get? b=some o)->Q (.ref (s.heap.objs.size+1)) {s with heap:=h'}) :
   wpAny (model prog w) A (call (.type "enumerate") [.ref l]) Q E s:=by
  obtain⟨⟨c,dct,dt,sl⟩,hl,hc,n,hd⟩:=hL;obtain rfl:c=.type "tuple":= hc;obtain rfl:dt=.seq items n:=hd;refine callType_new F.called_enumerate (by decide) (F.typeCall_enumerate_1 _) (F.newCall_enumerate_1 _) (λobj=>F.args_object_init_2 obj _) F.entry_enumerate_new (Mb l items n dct sl) ⟨hl,?_⟩;have hz:(s.heap.push {cls:=.type "tuple_iterator",data:=.fields #[.ref l,.int 0 0]}).objs.size=s.heap.objs.size+1:=Z4 ..;have z:=V1 (s.heap.push {cls:=.type "tuple_iterator",data:=.fields #[.ref l,.int 0 0]}) (o:={cls:=.type "enumerate",data:=.fields #[.none,.bool false,.ref s.heap.objs.size,rawInt 0,.none,.none]}) rfl;show _/\_;rw[hz]at z ⊢;exact⟨⟨_,z,rfl⟩,h _ z ⟨_,V0 _ (V1 _ rfl),rfl,rfl⟩ (by rw[Z4,hz]) λb o q=>V0 _ (V0 _ q)⟩
def Tv(K:Frag)(a:Addr):It:=
 ⟨λi H=>∃(xs:List V)(x:V),eA K H a xs/\xs[i]?=some x,λi H v H'=>∃T x,v=.ref T/\H T=none/\H'=upd H T (.tup [.int (i:Nat),x])/\∀xs,eA K H a xs->xs[i]?=some x,λi H=>∃xs:List V,eA K H a xs/\xs.length<=i⟩
theorem Bi{K:Frag}{kk:Nat}(a e it:Addr) :
  XS P w K (.Tuple Hz kk Hg) (Tv K a) [e,it] e (λi h=>(∃old,IsEnum h e it ((i:Nat):Int) old)/\h.IsTupleIter it a i/\e≠it) where
 mem:=by simp
 obj:=λi h st b hb=>by
  obtain⟨⟨old,he⟩,⟨o,ho,hc,hd⟩,_⟩:=st;have e':b=e\/b=it:=by simpa using hb
  rcases e' with z|z
  .rw[z];exact⟨_,he,λv q=>nomatch q⟩
  .rw[z];exact⟨o,ho,λv q=>by rw[hd]at q;cases q⟩
 keep:=λi h h' st k=>let ⟨⟨old,he⟩,hi,bL⟩:=st;⟨⟨old,k e (by simp) _ he⟩,hi.at λo q=>k it (by simp) o q,bL⟩
 item:=by
  intro X hP hw hK hc i pins s σ H E I hf st hg;subst hP hw hK;obtain⟨⟨old,he⟩,gH,bL⟩:=st;obtain⟨xs,x,hq,hx⟩:=hg;obtain⟨its,rv,p,hz⟩:=I.tuple hq;obtain⟨u,hu,ru⟩:=rv.get hx;have hel:e<s.heap.objs.size:=K2 he;have hil:it<s.heap.objs.size:=by obtain⟨_,q,_⟩:=gH;exact K2 q
  refine NR he gH (show s.heap.IsTuple a its.toArray from p) (x:=u) (by simpa using hu) bL (I.ok.hd hc) λh' tk ho Iz hT hsz hk=>?_;refine⟨_,rfl,EG (s:={s with heap:=h',toks:=tk+1}) ho λh'' he' sb=>?_⟩;have hT2:h''.get? s.heap.objs.size=some {cls:=.type "tuple",data:=.seq #[.int i tk,u]}:=(sb.2 _ (bG hel)).trans hT;have new:u9 X.prog X.w (upd H s.heap.objs.size (.tup [.int (i:Nat),x])) h'' s.heap.objs.size (.tup [.int (i:Nat),x]):=
   ⟨by show 2<=sizeLine;decide,[.int i tk,u],.cons ⟨_,rfl⟩ (.cons ru .nil),⟨_,hT2,rfl,_,rfl⟩⟩
  have I1:V2 X pins σ (upd H s.heap.objs.size (.tup [.int (i:Nat),x])) {s with heap:=h'',toks:=tk+1}:=
   I.turnedNew (ch:=[e,it]) (λb ob hb q=>(sb.2 b (λz=>hb (by simp[z]))).trans (hk b ob (λz=>hb (by simp[z])) (λz=>hb (by simp[z])) q)) hf (j1 _) new
  refine⟨.ref s.heap.objs.size,_,I1,rfl,⟨_,x,rfl,I.hok.fresh (j1 _),rfl,λys hy=>by rw[I.tuple_inj hy hq];exact hx⟩,⟨⟨u,?_⟩,Iz.at λo q=>(sb.2 it (N2 bL)).trans q,bL⟩,λb hb=>?_⟩
  .have e1:((i+1:Nat):Int)=(i:Int)+1:=by lia
   rw[e1];exact he'
  .have BP:b<s.heap.objs.size:=by
    have e':b=e\/b=it:=by simpa using hb
    rcases e' with z|z
    .rw[z];exact hel
    .rw[z];exact hil
   rw[N0 (K3 BP)];exact(hf b hb).1
 done:=by
  intro X hP hw hK hc i pins s σ H E I hf st hg;subst hP hw hK;obtain⟨⟨old,he⟩,gH,bL⟩:=st;obtain⟨xs,hq,hx⟩:=hg;obtain⟨its,rv,p,hz⟩:=I.tuple hq;obtain⟨f0,f1,f2,f3,f4,f5⟩:=hf it (by simp);have hl:=rv.length;exact JT (I.ok.hd hc) he gH (show s.heap.IsTuple a its.toArray from p) (by simp;lia) λh' eb=>⟨rfl,I.turned (t':=s.toks) (λb o hb q=>eb b o hb q) f0 f1 f3 f4 f5⟩
 self:=λA i s Q E st h=>let ⟨⟨_,he⟩,_⟩:=st;XD he h
inductive Im(K:Frag)(R:It->Hp->Prop)(vs:List V)(H1:Hp):Prop
 |mk (a xs:_):vs=[.ref a]->eA K H1 a xs->R (Tv K a) H1->Im K R vs H1
def zdr(K:Frag)(ta:TA):TI:=λσ H R=>ta σ H (Im K R)
theorem Uv{ta:TA}{p:Pos}{kk:Nat}(hg:Gl X "enumerate") (hm:X.mg "enumerate"= none) (ha:PA X [e] ta) (hs:starEach [e] X.env=[(false,eval e X.env)]:=by rfl) :
  PI X (.Tuple Hz kk Hg) (.Call (.Name "enumerate" p) [e] [] pos) (zdr X.K ta):=by
 intro pins s σ H R I h;refine Call_ (JH I hg hm boot_enumerate (j5 (n8 (ha pos pins s σ H _ I h) λus s1 ⟨vs,H1,I1,r1,q1⟩=>?_) hs rfl));obtain⟨a,xs,ex,hq,q⟩:=q1;subst ex;cases r1 with
 |cons r rr=>
  cases rr;cases r;obtain⟨its,rv,p',hz⟩:=I1.tuple hq;refine Ai (show s1.heap.IsTuple a its.toArray from p') λh' he gH hsz hk=>XD he ?_;have I2:V2 X pins σ H1 {s1 with heap:=h'}:=I1.kept (t':=s1.toks) hk;refine⟨s1.heap.objs.size+1,[s1.heap.objs.size+1,s1.heap.objs.size],_,_,H1,rfl,I2,Bi a (s1.heap.objs.size+1) s1.heap.objs.size,⟨⟨.none,he⟩,gH,Nat.succ_ne_self _⟩,λb hb=>?_,q⟩;have e':b=s1.heap.objs.size+1\/b=s1.heap.objs.size:=by simpa using hb
  have hle:s1.heap.objs.size<=b:=by
   rcases e' with z|z
   .rw[z];exact Nat.le_add_right _ _
   .rw[z];exact j1 _
  exact I1.fpOk hle (I1.hok.fresh hle)
inductive zfN(K:Frag)(x:V)(y:V)(H:Hp)(Q:VK):Prop
 |mk (p q xs:_):x=.ref p->y=.ref q->SqL K H p xs->SqL K H q []->Q (.bl (!xs.isEmpty)) H->zfN K x y H Q
theorem zds(hu:X.A.units<cLine):vJ X (compareOp .NotEq) (zfN X.K):=by
 intro pins s σ H x y v u Q I rx ry h;obtain⟨p,q,xs,rfl,rfl,hp,hq,k⟩:=h;cases rx;cases ry;obtain⟨its,r1,p1,_⟩:=I.list hp;obtain⟨aL,r2,p2,_⟩:=I.list hq;cases r2;have l1:=r1.length;have fin:∀b:Bool,b=!xs.isEmpty->EP X pins σ Q (.bool b) s:=λb e=>⟨.bl b,H,I,rfl,by rw[e];exact k⟩
 cases xs with
 |nil=>
  cases r1;exact(SeqAt.RcNeAt.lists (e:=λ_=>true) p1.isList p2.isList rfl hu (λj h1 _=>absurd h1 (by simp)) X.prog X.w X.xe _ (fin _ rfl):wpAny (model X.prog X.w) X.A (compareOp .NotEq (.ref p) (.ref q)) _ X.xe s)
 |cons x xs=>
  exact(SeqAt.RcNeAt.lists_lengths p1.isList p2.isList (by simp[<-l1]) hu X.prog X.w X.xe _ (fin _ rfl):wpAny (model X.prog X.w) X.A (compareOp .NotEq (.ref p) (.ref q)) _ X.xe s)
theorem R8.mark{k:Nat}{h:Option Value}(r:R8 cm k A):R8 false k (A.mark h):=⟨(λz=>nomatch z),r.dp,r.un⟩
theorem eO{K:Frag}{f:Str}{ta:TE}(hK:X.K=K) (he:PE X e ta) (hb:attributeBase e f X.env (eval e X.env)=eval e X.env):PE X (.Attribute e f pos) (zb2 K ta f):=by
 subst hK;exact zaO he hb
theorem NT{K:Frag}{W:WX}{c:Expr}{te tc:TE}{b:Addr}(hK:X.K=K) (tk:RC X W) (hh:X.A.handled=some (.ref b)) (he:PE X e te) (hcs:PE X c tc):PS X (.Raise (some e) (some c) pos) (Hm K W b te tc):=by
 subst hK;exact Hq tk hh he hcs
open PySem.W (Codec OpenSpec) in
theorem walk_specX{r:OpenSpec}{k:Nat}{q:Program}{Jz:List Str}{XP:(Str->Option Value)->Heap->Prop}{YP:World->Heap->Prop}{d:DefRec}{K:Params->Frag}{ps:List Str}{sp:Frag->Sp}
 (Kz:r.wellSaid=true) (hdf:d.params.defaults=[]) (LC:r.args.length=ps.length) (hr:R8 cm k callerA) (hY:∀(w:World)(h:Heap),YP w h->(K w.params).In h)
 (F:∀(w:World)(mg:Str->Option Value)(fa:Addr)(h:Heap),YP w h->(K w.params).In h->h.Ns mainGlobals mg->mg d.name=some (.ref fa)->
 ∃fd:FuncData,(∀(s:Shared)(us:List Value),us.length=ps.length->BindsTo s fd ⟨us,[]⟩ (ps.zip us))/\∀base:Heap,(K w.params).In base->base.Ns mainGlobals mg->EA r.prog w (K w.params) mg base (MR r.prog w) cm k fa fd ps (sp (K w.params)))
 (hsp:∀(K:Frag)(H:Hp)(xs:List V)(a:Codec.denoteAll r.args),Db H->Codec.withinAll r.args a=true->Codec.app r.args r.asked a=true->sK K H xs (Codec.encAll r.args a)->
 sp K xs H (λv H'=>Dw K H' v (r.ret.enc (Codec.app r.args r.f a))) λ_ _ _=>False):WalkOS q Jz XP YP r d [] (λf vs=>PySem.call f vs):=
  Dq (K:=K) (CX:=λw=>MR r.prog w) (sp:=λw=>sp (K w.params)) Kz hdf LC hr hY F (λw H xs a h1 h2 h3 h4=>hsp (K w.params) H xs a h1 h2 h3 h4) λ_ _ _ _ _ ⟨_,_,_,_,_,_,_,_,_,_,_,q⟩=>q
theorem zb3:BB (MR P w) X (λ_ _ _ _=>False):=λ_ _ _ _ _ _ _ ⟨_,_,_,_,_,_,_,_,_,_,_,q⟩=>q.elim
end L2
namespace Wm
open Bd
def L8(s:UInt8):Bytes->List Bytes
 |[]=>[[]]
 |c::r=>if c=s then[]::L8 s r else match L8 s r with
  |[]=>[[c]]
  |x::l=>(c::x)::l
def Bt(s:UInt8)(p:List Bytes×Bytes)(c:UInt8):List Bytes×Bytes:=if c=s then(p.1++[p.2],[])else(p.1,p.2++[c])
def fl(s:UInt8)(t:Bytes):List Bytes×Bytes:=t.foldl (Bt s) ([],[])
def parts(p:List Bytes×Bytes):List Bytes:=p.1++[p.2]
theorem zaQ(s:UInt8)(t:Bytes)(c:UInt8):fl s (t++[c])=Bt s (fl s t) c:=by
 grind [fl]
theorem ZM:∀t:Bytes,wordsOf t=L8 32 t
 |[]=>rfl
 |c::r=>by
  unfold wordsOf L8;rw[ZM r];rfl
theorem rA(s:UInt8):∀t:Bytes,∃x l,L8 s t=x::l
 |[]=>⟨_,_,rfl⟩
 |c::r=>by
  obtain⟨x,l,e⟩:=rA s r;unfold L8
  all_goals grind
theorem aN(s:UInt8):∀(t:Bytes)(i:List Bytes)(l x:Bytes)(r:List Bytes),L8 s t=x::r->parts (t.foldl (Bt s) (i,l))=i++(l++x)::r
 |[],i,l,x,r,h=>by
  cases h;simp[parts]
 |c::t,i,l,x,r,h=>by
  obtain⟨y,q,e⟩:=rA s t;rw[h9];unfold L8 at h;rw[e]at h;by_cases hc:c=s
  .rw[J0 hc]at h;obtain⟨h1,h2⟩:=xB h;subst h1 h2;rw[show Bt s (i,l) c=(i++[l],[])from J0 hc,aN s t _ _ y q e];simp
  .rw[D0 hc]at h;obtain⟨h1,h2⟩:=xB h;subst h1 h2;rw[show Bt s (i,l) c=(i,l++[c])from D0 hc,aN s t _ _ y q e];simp
theorem OT(s:UInt8)(t:Bytes):parts (fl s t)=L8 s t:=by
 obtain⟨x,l,e⟩:=rA s t;unfold fl;rw[aN s t [] [] x l e,e];rfl
theorem Nb:∀t:Bytes,L8 10 t=(linesOf t).1++[(linesOf t).2]
 |[]=>rfl
 |c::r=>by
  have ih:=Nb r;unfold L8 linesOf;by_cases h:c=10
  .simp only[J0 h];rw[ih];rfl
  .simp only[D0 h];rw[ih];cases e:(linesOf r).1 with
   |nil=>rfl
   |cons x l=>rfl
theorem Ob(t:Bytes):fl 10 t=linesOf t:=by
 grind [OT,Nb,parts,List.append_inj']
theorem Vv:∀d:Nat,d<10->UInt8.ofNat (Nat.digitChar d).toNat=UInt8.ofNat (48+d):=by decide
theorem PP{n:Nat}(h:n<10):number n=[UInt8.ofNat (48+n)]:=by
 show((String.ofList (Nat.toDigits 10 n)).toList.map _)=_;rw[qF,Nat.toDigits_of_lt_base h];show[UInt8.ofNat (Nat.digitChar n).toNat]=_;rw[Vv n h]
theorem fX{n:Nat}(h:10<=n):number n=number (n/10)++[UInt8.ofNat (48+n%10)]:=by
 show((String.ofList (Nat.toDigits 10 n)).toList.map _)=((String.ofList (Nat.toDigits 10 (n/10))).toList.map _)++_;rw[qF,qF,Nat.toDigits_of_base_le (by decide) h,U0];show _++[UInt8.ofNat (Nat.digitChar (n%10)).toNat]=_;rw[Vv (n%10) (bN _ (by decide))]
theorem HJ(x:Bytes)(c:UInt8):valueOf (x++[c])=10*valueOf x+(c.toNat-48):=by
 grind [valueOf]
theorem Pb{c:UInt8}(h:isDigit c=true):UInt8.ofNat (48+(c.toNat-48))=c/\c.toNat-48<10:=by
 unfold isDigit at h;simp only[E1,O0]at h;refine⟨?_,by lia⟩
 simp_all
def IG(x:Bytes):Bool:=x.headD 0==48&&decide (1<x.length)
theorem Qb:∀(n:Nat),10<=n->(number n).headD 0≠48/\number n≠[]/\1<(number n).length:=by
 intro n
 induction n using Nat.strongRecOn with
 |_ n ih=>
  intro h;rw[fX h];by_cases h2:10<=n/10
  .obtain⟨a,b,c⟩:=ih (n/10) (by lia) h2;cases e:number (n/10)with
   |nil=>exact absurd e b
   |cons y l=>
    rw[e]at a;refine⟨a,by simp,?_⟩;simp
  .rw[PP (by lia)];refine⟨?_,by simp,by simp⟩;have hn:n/10<10:=by lia
   have h1:1<=n/10:=by lia
   have q:∀d:Nat,d<10->1<=d->UInt8.ofNat (48+d)≠48:=by decide
   exact q _ hn h1
theorem Nq:∀(x:Bytes),x≠[]->x.all isDigit=true->x.headD 0≠48->1<=valueOf x:=by
 intro x
 suffices h:∀(y:Bytes)(a:Nat),1<=a->1<=y.foldl (λ(n:Nat)(c:UInt8)=>10*n+(c.toNat-48)) a by
  intro hx hd hh;cases x with
  |nil=>grind
  |cons c r=>
   unfold valueOf;rw[h9];refine h r _ ?_;simp only[S8,E1]at hd;have hc:isDigit c=true:=hd.1;unfold isDigit at hc;simp only[E1,O0]at hc;have:c.toNat≠48:=λz=>hh (by
    exact DF.mp z)
   lia
 intro y
 induction y<;>grind
theorem fO:∀(n:Nat)(x:Bytes),x.length=n->x≠[]->x.all isDigit=true->IG x=false->number (valueOf x)=x
 |0,x,hl,hx,_,_=>absurd (d4.mp hl) hx
 |n+1,x,hl,hx,hd,hn=>by
  have e:x=x.dropLast++[x.getLast hx]:=(rB hx).symm;generalize x.dropLast=y at e;generalize x.getLast hx=c at e;subst e;simp only[List.all_append,S8,gO,TH,E1]at hd;obtain⟨e2,h2⟩:=Pb hd.2;rw[HJ];cases y with
  |nil=>
   show number (10*0+(c.toNat-48))=[c];rw[Nat.mul_zero,fG,PP h2,e2]
  |cons d r=>
   have hh:(d::r).headD 0≠48:=by
    unfold IG at hn;grind
   have p:=Nq (d::r) (by simp) hd.1 hh;have nn:IG (d::r)=false:=by
    unfold IG;grind
   have ih:=fO n (d::r) (by simpa using hl) (by simp) hd.1 nn;rw[fX (by lia),show(10*valueOf (d::r)+(c.toNat-48))/10=valueOf (d::r) by lia,show(10*valueOf (d::r)+(c.toNat-48))%10=c.toNat-48 by lia,ih,e2]
def MI(x:Bytes):Bool:=decide (1<=x.length)&&(decide (x.length<=5)&&(x.all isDigit&&!IG x))
theorem HM(x:Bytes):readNumber x=if MI x=true then some (valueOf x)else none:=by
 unfold readNumber;by_cases h:MI x=true
 .rw[J0 h];unfold MI at h;simp only[E1,O0,P3]at h;obtain⟨h1,h2,h3,h4⟩:=h;have hx:x≠[]:=λz=>by grind
  rw[J0 ⟨hx,h2,h3,fO x.length x rfl hx h3 h4⟩]
 .rw[D0 h];refine D0 λ⟨a,b,c,d⟩=>h ?_;unfold MI;have l1:1<=x.length:=by
   cases x with
   |nil=>grind
   |cons _ _=>simp
  simp only[E1,O0,P3];refine⟨l1,b,c,?_⟩;cases hn:IG x with
  |false=>rfl
  |true=>
   unfold IG at hn;by_cases h10:10<=valueOf x
   .have z:=(Qb _ h10).1;grind
   .rw[PP (by lia)]at d;rw[<-d]at hn;simp at hn
theorem Ci:∀(x:Bytes),x.length<=5->x.all isDigit=true->valueOf x<100000:=by
 have h:∀(n:Nat)(x:Bytes),x.length=n->x.all isDigit=true->valueOf x<10^n:=by
  intro n
  induction n with
  |zero=>
   intro x hl _;rw[d4.mp hl];decide
  |succ n ih=>
   intro x hl hd;have hx:x≠[]:=λz=>by rw[z]at hl;cases hl
   have e:x=x.dropLast++[x.getLast hx]:=(rB hx).symm;generalize x.dropLast=y at e;generalize x.getLast hx=c at e;subst e;simp only[List.all_append,S8,gO,TH,E1]at hd;obtain⟨_,h2⟩:=Pb hd.2;have z:=ih y (by simpa using hl) hd.1;rw[HJ,iO]
   lia
 intro x hl hd;exact P2 (h x.length x rfl hd) (sA (by decide) hl)
def QT(s:UInt8):List Bytes->Bytes
 |[]=>[]
 |[x]=>x
 |x::y::l=>x++s::QT s (y::l)
theorem cN(s:UInt8):∀t:Bytes,QT s (L8 s t)=t
 |[]=>rfl
 |c::r=>by
  have ih:=cN s r;obtain⟨x,l,e⟩:=rA s r;unfold L8;rw[e]at ih ⊢;by_cases h:c=s
  .rw[J0 h];show[]++s::QT s (x::l)=c::r;rw[ih,h];rfl
  .rw[D0 h];cases l with
   |nil=>
    have ih':x=r:=ih;show c::x=c::r;rw[ih']
   |cons y l=>
    show(c::x)++s::QT s (y::l)=c::r;have ih':x++s::QT s (y::l)=r:=ih;rw[<-ih'];rfl
theorem jO{s:UInt8}:∀{w:Bytes}(r:Bytes),(∀c∈w,c≠s)->L8 s (w++s::r)=w::L8 s r
 |[],r,_=>by
  show L8 s (s::r)=[]::L8 s r;rw[L8,J0 rfl]
 |c::w,r,h=>by
  show L8 s (c::(w++s::r))=_;rw[L8,D0 (h c (by simp)),jO (w:=w) r λd hd=>h d (by simp[hd])]
def K4(jC:Bytes)(line:Bytes):Option (List Bytes):=match L8 32 line with
 |w::r=>if w=jC then some r else none
 |[]=>none
theorem RT{w line x:Bytes}:behind w line=some x↔line=w++32::x:=by
 unfold behind;constructor
 .intro h;by_cases e:line.take (w.length+1)=w++[32]
  .rw[J0 e]at h;have h':=M0 h;rw[<-Z9 (w.length+1) line,e,h'];simp
  all_goals grind
 .intro h;subst h;rw[J0]
  .congr 1;rw[show w++32::x=(w++[32])++x by simp,List.drop_left' (by simp)]
  .rw[show w++32::x=(w++[32])++x by simp,List.take_left' (by simp)]
theorem gX(jC:String)(ok:UInt8->Bool)(line:Bytes)(hw:∀c∈ascii jC,c≠32)(h32:ok 32=false) :
  formed jC ok line=match K4 (ascii jC) line with
   |some [x]=>if x≠[]/\x.all ok=true then some x else none
   |_=>none:=by
 unfold formed;cases hb:behind (ascii jC) line with
 |some Y7=>
  have e:=RT.mp hb;have hs:=jO (s:=32) Y7 hw;rw[<-e]at hs;unfold K4;rw[hs];dsimp only;rw[J0 rfl,F4];obtain⟨x,l,ex⟩:=rA 32 Y7;have hj:=cN 32 Y7;rw[ex]at hj ⊢;cases l with
  |nil=>
   have Nz:x=Y7:=hj;rw[Nz]
  |cons y l=>
   have Nz:x++32::QT 32 (y::l)=Y7:=hj;show(if Y7≠[]/\Y7.all ok=true then some Y7 else none)=none;refine D0 λ⟨_,z⟩=>?_;rw[<-Nz]at z;simp[h32]at z
 |none=>
  rw[Option.bind_none];unfold K4;obtain⟨x,l,ex⟩:=rA 32 line;have hj:=cN 32 line;rw[ex]at hj ⊢;dsimp only;by_cases q:x=ascii jC
  .rw[J0 q];cases l with
   |nil=>rfl
   |cons y l=>
    exfalso;have Nz:x++32::QT 32 (y::l)=line:=hj;rw[q]at Nz;rw[RT.mpr Nz.symm]at hb;cases hb
  .rw[D0 q]
theorem kO(jC:String)(n:Nat)(line:Bytes):numbersIn jC n line=(K4 (ascii jC) line).bind λr=>if r.length=n then r.mapM readNumber else none:=by
 grind [numbersIn,K4,ZM]
def xL(x:Bytes):Option Nat:=if x=ascii "free" then some 0 else if x=ascii "side" then some 1 else if x=ascii "end" then some 2 else none
theorem Wv(jC:String)(line:Bytes):endIn jC line=match K4 (ascii jC) line with
  |some [x]=>xL x
  |_=>none:=by
 unfold endIn K4;rw[ZM];obtain⟨x,l,ex⟩:=rA 32 line;rw[ex];cases l with
 |nil=>
  grind
 |cons y l=>
  cases l with
  |nil=>
   dsimp only;by_cases q:x=ascii jC
   .rw[J0 q,J0 q];rfl
   .rw[D0 q,D0 q]
  |cons z l=>
   grind
inductive HV where
 |nm (b:Bytes)
 |num (n:Nat)
 deriving DecidableEq
def yH(x:Bytes):Except Nat Bytes:=if x=[]\/x.all isSmall=false then .error 1 else if 15<x.length then .error 2 else .ok x
def EE(x:Bytes)(most:Nat):Except Nat Nat:=match readNumber x with
 |none=>.error 1
 |some n=>if n<1\/most<n then .error 2 else .ok n
def GY(i:Nat):String:=(["wall","long","high","left","right","reveal"]:List String).getD i ""
def EF(i:Nat)(x:Bytes):Except Nat HV:=
 if i=0 then(yH x).map .nm else if i=1 then(EE x 32).map .num else if i=2 then(EE x 8).map .num else match xL x with
  |some e=>.ok (.num e)
  |none=>.error 1
def YF(i:Nat)(line:Bytes):Except Nat HV:=match K4 (ascii (GY i)) line with
 |some [x]=>EF i x
 |_=>.error 1
def IM(line:Bytes)(long high:Nat)(before:List Opening):Except Nat Opening:=match (K4 (ascii "open") line).bind λr=>r.mapM readNumber with
 |some [a,b,c,d]=>
  let o:Opening:=⟨a,b,c,d⟩
  if o.within long high=false then .error 2
  else if (before.getLast?.any λ(p:Opening)=>!p.before o)=true then .error 3
  else if (before.any λ(p:Opening)=>p.meets o)=true then .error 4
  else if 8<=before.length then .error 5
  else .ok o
 |_=>.error 1
def SC(h:List HV)(i:Nat):Nat:=match h[i]? with
 |some (.num n)=>n
 |_=>0
def zH(h:List HV)(o:List Opening)(line:Bytes):Except Nat (List HV×List Opening):=
 if h.length<6 then(match YF h.length line with
  |.error k=>.error k
  |.ok v=>.ok (h++[v],o))
 else match IM line (SC h 1) (SC h 2) o with
  |.error k=>.error k
  |.ok p=>.ok (h,o++[p])
def NI:List Bytes->Nat->List HV->List Opening->Except Fault (List HV×List Opening)
 |[],_,h,o=>.ok (h,o)
 |l::r,i,h,o=>match zH h o l with
  |.error k=>.error (i,k)
  |.ok z=>NI r (i+1) z.1 z.2
def ZF(z:List Bytes×Bytes):Except Fault (List HV×List Opening):=match NI z.1 0 [] []with
 |.error e=>.error e
 |.ok x=>if x.1.length<6\/z.2≠[]then .error (z.1.length,1)else .ok x
def zdt(h:List HV):Bytes:=match h[0]? with
 |some (HV.nm b)=>b
 |_=>[]
def ED(h:List HV)(o:List Opening):Wall:=⟨zdt h,SC h 1,SC h 2,SC h 3,SC h 4,SC h 5,o⟩
def bE(L:List Bytes)(i:Nat):Except Fault HV:=
 if i=0 then(match lineAt L 0 "wall" isSmall with
  |.error e=>.error e
  |.ok name=>if NAME<name.length then .error (0,2)else .ok (.nm name))
 else if i=1 then(sizeAt L 1 "long" LENGTH).map .num else if i=2 then(sizeAt L 2 "high" HIGH).map .num
 else if i=3 then(endAt L 3 "left").map .num else if i=4 then(endAt L 4 "right").map .num else(endAt L 5 "reveal").map .num
def OI(L:List Bytes):Nat->List HV->Except Fault Wall
 |0,h=>match opensAt L (SC h 1) (SC h 2) (L.length+1) 6 []with
  |.error e=>.error e
  |.ok l=>.ok (ED h l)
 |n+1,h=>match bE L h.length with
  |.error e=>.error e
  |.ok v=>OI L n (h++[v])
def xE(z:List Bytes×Bytes):List Bytes:=z.1++(if z.2=[]then[]else[[]])
theorem Di(t:Bytes):judgeWall t=OI (xE (linesOf t)) 6 []:=by
 unfold judgeWall;generalize hL:xE (linesOf t)=L;have hL':(linesOf t).1++(if (linesOf t).2=[]then[]else[[]])=L:=hL;simp only[hL'];simp only[OI,O6,List.nil_append,T1,N1,List.cons_append,fG];have s0:bE L 0=(match lineAt L 0 "wall" isSmall with
  |.error e=>.error e
  |.ok name=>if NAME<name.length then .error (0,2)else .ok (.nm name)):=rfl
 have s1:bE L 1=(sizeAt L 1 "long" LENGTH).map .num:=rfl;have s2:bE L 2=(sizeAt L 2 "high" HIGH).map .num:=rfl;have s3:bE L 3=(endAt L 3 "left").map .num:=rfl;have s4:bE L 4=(endAt L 4 "right").map .num:=rfl;have s5:bE L 5=(endAt L 5 "reveal").map .num:=rfl;simp only[Nat.reduceAdd,s0,s1,s2,s3,s4,s5];cases lineAt L 0 "wall" isSmall with
 |error e=>rfl
 |ok name=>
  dsimp only;by_cases hn:NAME<name.length
  .grind
  .rw[D0 hn,D0 hn];cases sizeAt L 1 "long" LENGTH with
   |error e=>rfl
   |ok long=>
    cases sizeAt L 2 "high" HIGH with
    |error e=>rfl
    |ok high=>
     cases endAt L 3 "left" with
     |error e=>rfl
     |ok left=>
      cases endAt L 4 "right" with
      |error e=>rfl
      |ok right=>
       cases endAt L 5 "reveal" with
       |error e=>rfl
       |ok reveal=>rfl
theorem iX(L:List Bytes)(i:Nat)(jC:String)(most:Nat):sizeAt L i jC most=match L[i]? with
  |none=>.error (i,1)
  |some x=>match K4 (ascii jC) x with
   |some [y]=>(match EE y most with
    |.error k=>.error (i,k)
    |.ok n=>.ok n)
   |_=>.error (i,1):=by
 unfold sizeAt;cases L[i]? with
 |none=>rfl
 |some x=>
  rw[F4,kO];dsimp only;cases K4 (ascii jC) x with
  |none=>rfl
  |some r=>
   rw[F4]
   match r with
   |[]=>rfl
   |[y]=>
    rw[J0 (show[y].length=1 from rfl)];unfold EE;cases hy:readNumber y with
    |none=>simp[hy]
    |some n=>
     simp only[W8,List.mapM_nil,hy];show(if n<1\/most<n then Except.error (i,2)else Except.ok n)=_;by_cases q:n<1\/most<n
     .rw[J0 q,J0 q]
     .rw[D0 q,D0 q]
   |y::z::l=>
    dsimp only;rw[D0 (by simp)]
theorem UT(L:List Bytes)(i:Nat)(jC:String):endAt L i jC=match L[i]? with
  |none=>.error (i,1)
  |some x=>match K4 (ascii jC) x with
   |some [y]=>(match xL y with
    |none=>.error (i,1)
    |some n=>.ok n)
   |_=>.error (i,1):=by
 unfold endAt;cases L[i]? with
 |none=>rfl
 |some x=>
  rw[F4,Wv];dsimp only;cases K4 (ascii jC) x with
  |none=>rfl
  |some r=>
   match r with
   |[]=>rfl
   |[y]=>
    dsimp only;cases xL y<;>rfl
   |y::z::l=>rfl
def lift(i:Nat)(r:Except Nat HV):Except Fault HV:=match r with
 |.error k=>.error (i,k)
 |.ok v=>.ok v
def VT(L:List Bytes)(i:Nat)(jC:String):Except Fault HV:=match lineAt L i jC isSmall with
 |.error e=>.error e
 |.ok name=>if NAME<name.length then .error (i,2)else .ok (HV.nm name)
def HY(L:List Bytes)(i:Nat)(jC:String):Except Fault HV:=match L[i]? with
 |none=>.error (i,1)
 |some x=>match K4 (ascii jC) x with
  |some [y]=>(match yH y with
   |.error k=>.error (i,k)
   |.ok n=>.ok (HV.nm n))
  |_=>.error (i,1)
theorem Oq(L:List Bytes)(i:Nat)(jC:String)(hw:∀c∈ascii jC,c≠32):VT L i jC=HY L i jC:=by
 unfold VT HY lineAt;cases L[i]? with
 |none=>rfl
 |some x=>
  rw[F4,gX _ _ _ hw (by decide)];dsimp only;cases K4 (ascii jC) x with
  |none=>rfl
  |some r=>
   match r with
   |[]=>rfl
   |[y]=>
    dsimp only;unfold yH;by_cases h1:y=[]\/y.all isSmall=false
    .rw[J0 h1,D0];grind
    .rw[D0 h1,J0]
     .dsimp only;by_cases h2:NAME<y.length
      .rw[J0 h2,J0 (show 15<y.length from h2)]
      .rw[D0 h2,D0 (show ¬15<y.length from h2)]
     all_goals grind
   |y::z::l=>rfl
theorem Rb(L:List Bytes)(i:Nat)(hi:i<6):bE L i=match L[i]? with
  |none=>.error (i,1)
  |some x=>lift i (YF i x):=by
 unfold bE YF
 match i,hi with
 |0,_=>
  show VT L 0 "wall"= _;rw[Oq L 0 "wall" (by decide)];unfold HY;cases L[0]? with
  |none=>rfl
  |some x=>
   dsimp only;show _=lift 0 (match K4 (ascii "wall") x with
    |some [x]=>EF 0 x
    |_=>.error 1)
   cases K4 (ascii "wall") x with
   |none=>rfl
   |some r=>
    match r with
    |[]=>rfl
    |[y]=>
     dsimp only;unfold EF;cases yH y<;>rfl
    |y::z::l=>rfl
 |1,_=>
  rw[D0 (by decide),J0 rfl,iX];cases L[1]? with
  |none=>rfl
  |some x=>
   dsimp only;show _=lift 1 (match K4 (ascii "long") x with
    |some [x]=>EF 1 x
    |_=>.error 1)
   cases K4 (ascii "long") x with
   |none=>rfl
   |some r=>
    match r with
    |[]=>rfl
    |[y]=>
     show Except.map HV.num (match EE y 32 with
      |.error k=>(.error (1,k):Except Fault Nat)
      |.ok n=>.ok n)=lift 1 ((EE y 32).map HV.num)
     cases EE y 32<;>rfl
    |y::z::l=>rfl
 |2,_=>
  rw[D0 (by decide),D0 (by decide),J0 rfl,iX];cases L[2]? with
  |none=>rfl
  |some x=>
   dsimp only;show _=lift 2 (match K4 (ascii "high") x with
    |some [x]=>EF 2 x
    |_=>.error 1)
   cases K4 (ascii "high") x with
   |none=>rfl
   |some r=>
    match r with
    |[]=>rfl
    |[y]=>
     show Except.map HV.num (match EE y 8 with
      |.error k=>(.error (2,k):Except Fault Nat)
      |.ok n=>.ok n)=lift 2 ((EE y 8).map HV.num)
     cases EE y 8<;>rfl
    |y::z::l=>rfl
 |3,_=>
  rw[D0 (by decide),D0 (by decide),D0 (by decide),J0 rfl,UT];cases L[3]? with
  |none=>rfl
  |some x=>
   dsimp only;show _=lift 3 (match K4 (ascii "left") x with
    |some [x]=>EF 3 x
    |_=>.error 1)
   cases K4 (ascii "left") x with
   |none=>rfl
   |some r=>
    match r with
    |[]=>rfl
    |[y]=>
     dsimp only;show _=lift 3 (match xL y with
      |some e=>.ok (HV.num e)
      |none=>.error 1)
     cases xL y<;>rfl
    |y::z::l=>rfl
 |4,_=>
  rw[D0 (by decide),D0 (by decide),D0 (by decide),D0 (by decide),J0 rfl,UT];cases L[4]? with
  |none=>rfl
  |some x=>
   dsimp only;show _=lift 4 (match K4 (ascii "right") x with
    |some [x]=>EF 4 x
    |_=>.error 1)
   cases K4 (ascii "right") x with
   |none=>rfl
   |some r=>
    match r with
    |[]=>rfl
    |[y]=>
     dsimp only;show _=lift 4 (match xL y with
      |some e=>.ok (HV.num e)
      |none=>.error 1)
     cases xL y<;>rfl
    |y::z::l=>rfl
 |5,_=>
  rw[D0 (by decide),D0 (by decide),D0 (by decide),D0 (by decide),D0 (by decide),UT];cases L[5]? with
  |none=>rfl
  |some x=>
   dsimp only;show _=lift 5 (match K4 (ascii "reveal") x with
    |some [x]=>EF 5 x
    |_=>.error 1)
   cases K4 (ascii "reveal") x with
   |none=>rfl
   |some r=>
    match r with
    |[]=>rfl
    |[y]=>
     dsimp only;show _=lift 5 (match xL y with
      |some e=>.ok (HV.num e)
      |none=>.error 1)
     cases xL y<;>rfl
    |y::z::l=>rfl
 |n+6,h=>lia
theorem Qq(i:Nat)(hi:i<6):YF i []=.error 1:=by
 match i,hi with
 |0,_=>rfl
 |1,_=>rfl
 |2,_=>rfl
 |3,_=>rfl
 |4,_=>rfl
 |5,_=>rfl
 |n+6,h=>lia
theorem mO:∀{r:List Bytes}{ns:List Nat},r.mapM readNumber=some ns->ns.length=r.length
 |[],ns,h=>by
  grind
 |x::r,ns,h=>by
  rw[W8]at h;cases e:readNumber x with
  |none=>grind
  |some n=>
   cases e2:r.mapM readNumber with
   |none=>grind
   |some l=>
    rw[e,e2]at h;have h':n::l=ns:=M0 h;rw[<-h'];simp[mO e2]
theorem Ei(L:List Bytes)(long high f i:Nat)(l:List Opening):opensAt L long high (f+1) i l=match L[i]? with
  |none=>.ok l
  |some x=>match IM x long high l with
   |.error k=>.error (i,k)
   |.ok o=>opensAt L long high f (i+1) (l++[o]):=by
 rw[opensAt];cases L[i]? with
 |none=>rfl
 |some x=>
  dsimp only;unfold IM;rw[kO];cases K4 (ascii "open") x with
  |none=>rfl
  |some r=>
   rw[F4,F4];by_cases hr:r.length=4
   .rw[J0 hr];cases hm:r.mapM readNumber with
    |none=>rfl
    |some ns=>
     have hl:=(mO hm).trans hr
     match ns,hl with
     |[a,b,c,d],_=>
      dsimp only;by_cases q1:Opening.within ⟨a,b,c,d⟩ long high=false
      .rw[J0 q1,J0 q1]
      .rw[D0 q1,D0 q1];by_cases q2:(l.getLast?.any λ(p:Opening)=>!p.before ⟨a,b,c,d⟩)=true
       .rw[J0 q2,J0 q2]
       .rw[D0 q2,D0 q2];by_cases q3:(l.any λ(p:Opening)=>p.meets ⟨a,b,c,d⟩)=true
        .rw[J0 q3,J0 q3]
        .rw[D0 q3,D0 q3];by_cases q4:OPENS<=l.length
         .rw[J0 q4,J0 (show 8<=l.length from q4)]
         .rw[D0 q4,D0 (show ¬8<=l.length from q4)]
   .rw[D0 hr];cases hm:r.mapM readNumber with
    |none=>rfl
    |some ns=>
     have hl:=mO hm
     match ns,hl with
     |[],_=>rfl
     |[_],_=>rfl
     |[_,_],_=>rfl
     |[_,_,_],_=>rfl
     |[_,_,_,_],hl=>exact absurd hl.symm hr
     |_::_::_::_::_::_,_=>rfl
theorem IJ{z:List Bytes×Bytes}{i:Nat}{x:Bytes}(h:z.1[i]?=some x):(xE z)[i]?=some x:=by
 unfold xE;have hi:=(P0.mp h).1;rw[w8 hi];exact h
theorem WT(z:List Bytes×Bytes):(xE z)[z.1.length]?=if z.2=[]then none else some []:=by
 unfold xE;rw[G6 (j1 _),nO];by_cases h:z.2=[]
 .rw[J0 h,J0 h];rfl
 .rw[D0 h,D0 h];rfl
theorem YT(z:List Bytes×Bytes):z.1.length<=(xE z).length:=by
 grind [xE]
def fin(z:List Bytes×Bytes):Except Fault (List HV×List Opening)->Except Fault Wall
 |.error e=>.error e
 |.ok x=>if x.1.length<6\/z.2≠[]then .error (z.1.length,1)else .ok (ED x.1 x.2)
theorem Rq(z:List Bytes×Bytes)(h:List HV)(h6:h.length=6):∀(f i:Nat)(o:List Opening),i<=z.1.length->(xE z).length+1<=f+i->
  (match opensAt (xE z) (SC h 1) (SC h 2) f i o with
  |.error e=>.error e
  |.ok l=>.ok (ED h l))=fin z (NI (z.1.drop i) i h o):=by
 intro f
 induction f with
 |zero=>
  have:=YT z
  lia
 |succ f ih=>
  intro i o hi hf;rw[Ei];by_cases hl:i<z.1.length
  .have ex:z.1[i]?=some z.1[i]:=K0 hl;rw[IJ ex,W6 hl];dsimp only;rw[NI];unfold zH;rw[D0 (by lia)];cases IM z.1[i] (SC h 1) (SC h 2) o with
   |error k=>rfl
   |ok p=>
    exact ih (i+1) _ hl (by lia)
  .have e:i=z.1.length:=by lia
   subst e;rw[WT,rC];show _=if h.length<6\/z.2≠[]then Except.error (z.1.length,1)else Except.ok (ED h o)
   by_cases h2:z.2=[]
   .grind
   .rw[D0 h2,J0 (.inr h2)];rfl
theorem Xv(z:List Bytes×Bytes):∀(n:Nat)(h:List HV),h.length+n=6->h.length<=z.1.length->OI (xE z) n h=fin z (NI (z.1.drop h.length) h.length h []):=by
 intro n
 induction n with
 |zero=>
  intro h h6 hl;have h6':h.length=6:=h6;rw[h6']at hl ⊢;exact Rq z h h6' _ 6 [] hl (by lia)
 |succ n ih=>
  intro h h6 hl;rw[OI,Rb _ _ (by lia)];by_cases DC:h.length<z.1.length
  .have ex:z.1[h.length]?=some z.1[h.length]:=K0 DC;rw[IJ ex,W6 DC];dsimp only;rw[NI];unfold zH;rw[J0 (by lia)];cases YF h.length z.1[h.length]with
   |error k=>rfl
   |ok v=>
    have q:=ih (h++[v]) (by simp;lia) (by simp;lia);show OI (xE z) n (h++[v])=_;rw[q];simp
  .have e:h.length=z.1.length:=by lia
   have ea:=WT z;rw[<-e]at ea;have er:fin z (NI (z.1.drop h.length) h.length h [])=.error (z.1.length,1):=by
    rw[e,rC];show(if h.length<6\/z.2≠[]then Except.error (z.1.length,1)else Except.ok (ED h []))=_;rw[J0 (Or.inl (show h.length<6 by lia))]
   rw[er,ea];by_cases h2:z.2=[]
   .grind
   .rw[D0 h2];dsimp only;rw[Qq _ (by lia)];show Except.error (h.length,1)=_;rw[e]
theorem Sb(t:Bytes):judgeWall t=match ZF (fl 10 t)with
  |.error e=>.error e
  |.ok x=>.ok (ED x.1 x.2):=by
 rw[Di,Xv _ 6 [] rfl (D1 _),<-Ob];show fin (fl 10 t) (NI (fl 10 t).1 0 [] [])=_;unfold ZF fin;cases NI (fl 10 t).1 0 [] []with
 |error e=>rfl
 |ok x=>
  dsimp only;by_cases q:x.1.length<6\/(fl 10 t).2≠[]
  .rw[J0 q,J0 q]
  .rw[D0 q,D0 q]
abbrev WS:=List HV×List Opening×List Bytes
def QQ(s:WS)(line:Bytes):Except Nat WS:=match zH s.1 s.2.1 line with
 |.error k=>.error k
 |.ok z=>.ok (z.1,z.2,s.2.2++[line])
def Yv(s:WS)(Y7:Bytes):Option Nat:=if s.1.length<6\/Y7≠[]then some 1 else none
def PR{S:Type}(step:S->Bytes->Except Nat S):List Bytes->Nat->S->Except Fault S
 |[],_,s=>.ok s
 |l::r,i,s=>match step s l with
  |.error k=>.error (i,k)
  |.ok s'=>PR step r (i+1) s'
def JG{S:Type}(step:S->Bytes->Except Nat S) (fin:S->Bytes->Option Nat) (s0:S) (z:List Bytes×Bytes):Except Fault S:=match PR step z.1 0 s0 with
 |.error e=>.error e
 |.ok s=>match fin s z.2 with
  |some k=>.error (z.1.length,k)
  |none=>.ok s
theorem Zv:∀(JE:List Bytes)(i:Nat)(h:List HV)(o:List Opening)(ls:List Bytes),PR QQ JE i (h,o,ls)=match NI JE i h o with
  |.error e=>.error e
  |.ok x=>.ok (x.1,x.2,ls++JE)
 |[],i,h,o,ls=>by
  rw[PR,NI,D3]
 |l::r,i,h,o,ls=>by
  rw[PR,NI];have e:QQ (h,o,ls) l=match zH h o l with
   |.error k=>.error k
   |.ok z=>.ok (z.1,z.2,ls++[l]):=rfl
  rw[e];cases zH h o l with
  |error k=>rfl
  |ok z=>
   dsimp only;rw[Zv r (i+1) z.1 z.2 (ls++[l]),b9];rfl
theorem zaR(z:List Bytes×Bytes):JG QQ Yv ([],[],[]) z=match ZF z with
  |.error e=>.error e
  |.ok x=>.ok (x.1,x.2,z.1):=by
 unfold JG ZF;rw[Zv];cases NI z.1 0 [] []with
 |error e=>rfl
 |ok x=>
  dsimp only;unfold Yv;dsimp only;by_cases q:x.1.length<6\/z.2≠[]
  .rw[J0 q,J0 q]
  .rw[D0 q,D0 q];rfl
def GK(wd line:Bytes):Option Bytes:=match K4 wd line with
 |some [x]=>some x
 |_=>none
def JJ(x:Bytes)(wF most:Nat):Except Nat Nat:=match readNumber x with
 |none=>.error 1
 |some n=>if n<wF\/most<n then .error 2 else .ok n
end Wm
section
set_option maxHeartbeats 1000000
namespace Wm
open Bd
variable {z:List Bytes×Bytes}{i:Nat}
abbrev BS:=Nat×Bond
variable {s:BS}
def wM(x:Bytes)(lo hi:Nat):Except Nat Nat:=if x.length≠1 then .error 1 else JJ x lo hi
def XV(x:Bytes):Except Nat Bytes:=if x=[]\/x.all isBig=false then .error 1 else .ok x
def dN(x:Bytes):Except Nat Row:=match XV x with
 |.error k=>.error k
 |.ok x=>match lettersOf inOrder x with
  |none=>.error 3
  |some r=>.ok r
def Ub(x:Bytes):Except Nat Row:=match XV x with
 |.error k=>.error k
 |.ok x=>if 8<x.length then .error 2 else match lettersOf (λ(r:Row)=>r.all λ(p:Piece)=>!p.isCut) x with
  |none=>.error 3
  |some r=>.ok r
def HN{α:Type}(w:String) (line:Bytes) (f:Bytes->Except Nat α):Except Nat α:=match GK (ascii w) line with
 |none=>.error 1
 |some x=>f x
def CA(s:BS)(line:Bytes):Except Nat BS:=
 if s.1=0 then(HN "bond" line yH).map λn=>(1,{s.2 with name:=n})
 else if s.1=1 then(HN "lap" line λx=>wM x 1 3).map λn=>(2,{s.2 with lap:=n})
 else if s.1=2 then(HN "most" line λx=>wM x 0 2).map λn=>(3,{s.2 with most:=n})
 else if s.1=3/\0<s.2.most then(HN "makes" line dN).map λr=>(4,{s.2 with makes:=r})
 else match HN "course" line Ub with
  |.error k=>.error k
  |.ok r=>if 8<=s.2.courses.length then .error 4 else .ok (s.1+1,{s.2 with courses:=s.2.courses++[r]})
def oO(s:BS)(Y7:Bytes):Option Nat:=if Y7≠[]\/s.2.courses=[]then some 1 else none
def FE:Bond:=⟨[],0,0,[],[]⟩
def zaS(z:List Bytes×Bytes):Except Fault BS->Except Fault Bond
 |.error e=>.error e
 |.ok s=>match oO s z.2 with
  |some k=>.error (z.1.length,k)
  |none=>.ok s.2
def PD(z:List Bytes×Bytes)(i:Nat)(s:BS):Except Fault Bond:=zaS z (PR CA (z.1.drop i) i s)
theorem Vb(h:i<z.1.length):PD z i s=match CA s z.1[i]with
  |.error k=>.error (i,k)
  |.ok s'=>PD z (i+1) s':=by
 unfold PD;rw[W6 h,PR];cases CA s z.1[i]with
 |error k=>rfl
 |ok s'=>rfl
theorem Aw(z:List Bytes×Bytes)(s:BS):PD z z.1.length s=match oO s z.2 with
  |some k=>.error (z.1.length,k)
  |none=>.ok s.2:=by
 unfold PD;rw[rC];rfl
theorem QI(L:List Bytes)(i:Nat)(w:String)(ok:UInt8->Bool)(hw:∀c∈ascii w,c≠32)(h32:ok 32=false):lineAt L i w ok=match L[i]? with
  |none=>.error (i,1)
  |some x=>match HN w x (λy=>if y=[]\/y.all ok=false then .error 1 else .ok y)with
   |.error k=>.error (i,k)
   |.ok y=>.ok y:=by
 unfold lineAt;cases L[i]? with
 |none=>rfl
 |some x=>
  rw[F4,gX w ok x hw h32];unfold HN GK;dsimp only;generalize K4 (ascii w) x=r
  match r with
  |none=>rfl
  |some []=>rfl
  |some (_::_::_)=>rfl
  |some [y]=>
   dsimp only;by_cases h:y=[]\/y.all ok=false
   .rw[J0 h,D0];rintro⟨a,b⟩;rcases h with h|h
    .exact a h
    .rw[h]at b;cases b
   .rw[D0 h,J0];refine⟨λq=>h (.inl q),?_⟩;cases q:y.all ok with
    |true=>rfl
    |false=>exact absurd (.inr q) h
theorem RQ(L:List Bytes)(i:Nat)(w:String)(lo hi:Nat)(hw:∀c∈ascii w,c≠32):numberAt L i w lo hi=match L[i]? with
  |none=>.error (i,1)
  |some x=>match HN w x (λy=>wM y lo hi)with
   |.error k=>.error (i,k)
   |.ok n=>.ok n:=by
 unfold numberAt;rw[QI L i w isDigit hw (by decide)];cases L[i]? with
 |none=>rfl
 |some x=>
  unfold HN;dsimp only;cases GK (ascii w) x with
  |none=>rfl
  |some y=>
   dsimp only;unfold wM JJ;by_cases h1:y.length≠1
   .rw[J0 h1];by_cases h:y=[]\/y.all isDigit=false
    .rw[J0 h]
    .rw[D0 h]
     match y,h1 with
     |[],_=>rfl
     |[_],h1=>exact absurd rfl h1
     |_::_::_,_=>rfl
   .rw[D0 h1]
    match y,h1 with
    |[],h1=>exact absurd (by decide) h1
    |_::_::_,h1=>exact absurd (by simp) h1
    |[c],_=>
     rw[HM];by_cases hd:isDigit c=true
     .have ok1:MI [c]=true:=by
       unfold MI IG;simp[hd]
      rw[D0 (by simp[hd]),J0 ok1];have ev:valueOf [c]=c.toNat-48:=by
       unfold valueOf;simp
      rw[ev];show(if c.toNat-48<lo\/hi<c.toNat-48 then(.error (i,2):Except Fault Nat)else .ok (c.toNat-48))=_;dsimp only;by_cases h:c.toNat-48<lo\/hi<c.toNat-48
      .rw[J0 h,J0 h]
      .rw[D0 h,D0 h]
     .have hd':isDigit c=false:=S4.mpr hd;have ok1:¬MI [c]=true:=by
       unfold MI;simp[hd']
      rw[J0 (.inr (by simp[hd'])),D0 ok1]
theorem ZT{α:Type}(w:String) (f:Bytes->Except Nat α):HN w [] f=.error 1:=by
 have e:GK (ascii w) []=none:=by
  unfold GK K4;show(match (if []=ascii w then some ([]:List Bytes)else none)with
   |some [x]=>some x
   |_=>none)=none
  by_cases h:[]=ascii w
  .rw[J0 h]
  .rw[D0 h]
 unfold HN;rw[e]
theorem jX(z:List Bytes×Bytes):(xE z).length=z.1.length+if z.2=[]then 0 else 1:=by
 unfold xE;rw[T1];by_cases h:z.2=[]
 .rw[J0 h,J0 h];rfl
 .rw[D0 h,D0 h];rfl
theorem pO{x:Bytes}(h:3<=s.1) (h2:¬(s.1=3/\0<s.2.most)):CA s x=match HN "course" x Ub with
  |.error k=>.error k
  |.ok r=>if 8<=s.2.courses.length then .error 4 else .ok (s.1+1,{s.2 with courses:=s.2.courses++[r]}):=by
 unfold CA;rw[D0 (by lia),D0 (by lia),D0 (by lia),D0 h2]
theorem Xb(z:List Bytes×Bytes):∀(f i:Nat)(b:Bond),i<=z.1.length->(xE z).length+1<=f+i->(3<=i/\¬(i=3/\0<b.most))->(b.courses≠[]\/i<(xE z).length)->
  (match coursesAt (xE z) f i b.courses with
  |.error e=>.error e
  |.ok l=>.ok {b with courses:=l})=PD z i (i,b):=by
 intro f
 induction f with
 |zero=>
  intro i b hi hf;have:=YT z
  lia
 |succ f ih=>
  intro i b hi hf hs bL;rw[coursesAt];have ll:=jX z;by_cases hl:i<z.1.length
  .rw[D0 (by lia),QI _ _ _ _ (by decide) (by decide),IJ (K0 hl),Vb hl,pO hs.1 hs.2];dsimp only;unfold HN;dsimp only;cases GK (ascii "course") z.1[i]with
   |none=>rfl
   |some y=>
    dsimp only;unfold Ub XV;by_cases h:y=[]\/y.all isBig=false
    .rw[J0 h]
    .rw[D0 h];dsimp only;by_cases h8:8<y.length
     .rw[J0 h8,J0 (show PATTERN<y.length from h8)]
     .rw[D0 h8,D0 (show ¬PATTERN<y.length from h8)];cases lettersOf (λ(r:Row)=>r.all λ(p:Piece)=>!p.isCut) y with
      |none=>rfl
      |some r=>
       dsimp only;by_cases hc:8<=b.courses.length
       .rw[J0 hc,J0 (show COURSES<=b.courses.length from hc)]
       .rw[D0 hc,D0 (show ¬COURSES<=b.courses.length from hc)];exact ih (i+1) {b with courses:=b.courses++[r]} hl (by lia) ⟨by lia,λq=>by lia⟩ (.inl (by simp))
  .have e:i=z.1.length:=by lia
   subst e;rw[Aw];unfold oO;by_cases h2:z.2=[]
   .rw[J0 h2]at ll;rw[J0 (by lia),D0];rintro(q|q)
    .exact q h2
    .exact bL.elim (λw=>w q) λw=>by lia
   .rw[D0 h2]at ll;rw[D0 (by lia),J0 (.inl h2),QI _ _ _ _ (by decide) (by decide),WT,D0 h2];dsimp only;rw[ZT]
theorem yL(h:¬i<z.1.length)(hi:i<=z.1.length)(hc:s.2.courses=[]):PD z i s=.error (i,1):=by
 have e:i=z.1.length:=by lia
 subst e;rw[Aw];unfold oO;rw[J0 (.inr hc)]
theorem Jm(t:Bytes):judge t=match JG CA oO (0,FE) (fl 10 t)with
  |.error e=>.error e
  |.ok s=>.ok s.2:=by
 have ep:∀z,PD z 0 (0,FE)=match JG CA oO (0,FE) z with
   |.error e=>.error e
   |.ok s=>.ok s.2:=λz=>by
  unfold PD JG;rw[zL];cases PR CA z.1 0 (0,FE)with
  |error e=>rfl
  |ok s=>
   show(match oO s z.2 with
    |some k=>(.error (z.1.length,k):Except Fault Bond)
    |none=>.ok s.2)=_
   cases h:oO s z.2 with
   |none=>
    dsimp only;rw[h]
   |some k=>
    dsimp only;rw[h]
 rw[<-ep,Ob];unfold judge;generalize hz:linesOf t=z;have hL:z.1++(if z.2=[]then[]else[[]])=xE z:=rfl;simp only[hL];have zbC:∀{i:Nat},¬i<z.1.length->(xE z)[i]?=none\/(xE z)[i]?=some []:=λ{i} h=>by
  unfold xE;rw[G6 (by lia)];by_cases h2:z.2=[]
  .rw[J0 h2];exact .inl rfl
  .rw[D0 h2];cases i-z.1.length with
   |zero=>exact .inr rfl
   |succ n=>exact .inl rfl
 rw[QI _ 0 _ _ (by decide) (by decide)];by_cases l0:0<z.1.length
 rotate_left
 .rw[yL l0 (D1 _) rfl];rcases zbC l0 with e|e
  .rw[e]
  .rw[e];dsimp only;rw[ZT]
 rw[IJ (K0 l0),Vb l0];have st0:CA (0,FE) z.1[0]=(HN "bond" z.1[0] yH).map λn=>(1,{FE with name:=n}):=rfl;rw[st0];dsimp only;unfold HN;dsimp only;cases GK (ascii "bond") z.1[0]with
 |none=>rfl
 |some x=>
  dsimp only;unfold yH;by_cases h:x=[]\/x.all isSmall=false
  .rw[J0 h,J0 h];rfl
  rw[D0 h,D0 h];dsimp only;by_cases hn:15<x.length
  .rw[J0 hn,J0 (show NAME<x.length from hn)];rfl
  rw[D0 hn,D0 (show ¬NAME<x.length from hn)];dsimp only[Except.map];rw[RQ _ 1 _ _ _ (by decide)];by_cases l1:1<z.1.length
  rotate_left
  .rw[yL l1 l0 rfl];rcases zbC l1 with e|e
   .rw[e]
   .rw[e];dsimp only;rw[ZT]
  rw[IJ (K0 l1),Vb l1];have Lg:CA (1,{FE with name:=x}) z.1[1]=(HN "lap" z.1[1] λx=>wM x 1 3).map λn=>(2,{FE with name:=x,lap:=n}):=rfl;rw[Lg];dsimp only;cases HN "lap" z.1[1] λx=>wM x 1 3 with
  |error k=>rfl
  |ok lap=>
   dsimp only[Except.map];rw[RQ _ 2 _ _ _ (by decide)];by_cases l2:2<z.1.length
   rotate_left
   .rw[yL l2 l1 rfl];rcases zbC l2 with e|e
    .rw[e]
    .rw[e];dsimp only;rw[ZT]
   rw[IJ (K0 l2),Vb l2];have Uk:CA (2,{FE with name:=x,lap:=lap}) z.1[2]=(HN "most" z.1[2] λx=>wM x 0 2).map λn=>(3,{FE with name:=x,lap:=lap,most:=n}):=rfl;rw[Uk];dsimp only;cases HN "most" z.1[2] λx=>wM x 0 2 with
   |error k=>rfl
   |ok most=>
    dsimp only[Except.map];have ll:=jX z;have fin:∀(i:Nat)(b:Bond),3<=i->¬(i=3/\0<b.most)->i<=z.1.length->b.courses=[]->
      (if (xE z).length<=i then(.error (i,1):Except Fault Bond)else match coursesAt (xE z) ((xE z).length+1) i []with
        |.error e=>.error e
        |.ok l=>.ok {b with courses:=l})=PD z i (i,b):=λi b h3 hm hi hb=>by
     by_cases q:(xE z).length<=i
     .rw[J0 q,yL (by have:=YT z;lia) hi hb]
     .rw[D0 q,<-Xb z ((xE z).length+1) i b hi (by lia) ⟨h3,hm⟩ (.inr (by lia)),hb]
    by_cases m0:most=0
    .rw[J0 m0];dsimp only;rw[J0 m0];exact fin 3 {FE with name:=x,lap:=lap,most:=most} (j1 _) (λq=>by have:=q.2;dsimp only at this;lia) l2 rfl
    .rw[D0 m0,QI _ 3 _ _ (by decide) (by decide)];by_cases l3:3<z.1.length
     rotate_left
     .rw[yL l3 l2 rfl];rcases zbC l3 with e|e
      .rw[e]
      .rw[e];dsimp only;rw[ZT]
     rw[IJ (K0 l3),Vb l3];have Bz:CA (3,{FE with name:=x,lap:=lap,most:=most}) z.1[3]=(HN "makes" z.1[3] dN).map λr=>(4,{FE with name:=x,lap:=lap,most:=most,makes:=r}):=by
      unfold CA;dsimp only;rw[D0 (by decide),D0 (by decide),D0 (by decide),J0 ⟨rfl,by lia⟩]
     rw[Bz];dsimp only;unfold HN;dsimp only;cases GK (ascii "makes") z.1[3]with
     |none=>rfl
     |some y=>
      dsimp only;unfold dN XV;by_cases h:y=[]\/y.all isBig=false
      .rw[J0 h];rfl
      rw[D0 h];dsimp only;cases lettersOf inOrder y with
      |none=>rfl
      |some r=>
       dsimp only[Except.map];rw[D0 m0];exact fin 4 {FE with name:=x,lap:=lap,most:=most,makes:=r} (by decide) (λq=>by have:=q.1;lia) l3 rfl
end Wm
end
namespace L2
open PySem PySem.Spec PyProof.Rows
theorem aU{K:Frag}{H:Hp}:∀ns:List Int,PQ K H (ns.map V.int) (ns.map PyData.int)
 |[]=>.nil
 |n::r=>.cons (.int n) (aU r)
theorem kX:∀ns ms:List Int,PyData.eqvAll (ns.map PyData.int) (ms.map PyData.int)=decide (ns=ms)
 |[],[]=>rfl
 |[],_::_=>rfl
 |_::_,[]=>rfl
 |n::r,m::q=>by
  have ih:=kX r q;show(PyData.eqv (.int n) (.int m)&&PyData.eqvAll (r.map PyData.int) (q.map PyData.int))=_;rw[ih,d3];simp[PyData.eqv]
theorem lX:∀ns:List Int,PyData.canLayAll0 (ns.map PyData.int)=true
 |[]=>by simp[PyData.canLayAll0]
 |n::r=>by simp[PyData.canLayAll0,PyData.canLay0,lX r]
theorem mX:∀ns:List Int,PyData.depthAll (ns.map PyData.int)<=1
 |[]=>by simp[PyData.depthAll]
 |n::r=>by
  have ih:=mX r;simp[PyData.depthAll,PyData.depth]
  lia
abbrev NB(H:Hp):List Addr->List (List Int)->Prop:=Paired λa ms=>H a=some (.tup (ms.map V.int))
inductive zdu(K:Frag)(neg:Bool)(x:V)(y:V)(H:Hp)(Q:VK):Prop
 |mk (s p:Addr) (ns:List Int) (as:List Addr) (Ot:List (List Int)):x=.ref s->y=.ref p->H s=some (.tup (ns.map V.int))->SqL K H p (as.map V.ref)->NB H as Ot->Q (.bl (if neg then !Ot.contains ns else Ot.contains ns)) H->zdu K neg x y H Q
def eqT(H:Hp)(ns:List Int)(u:Value):Bool:=match u with
 |.ref a=>(match H a with
  |some (.tup ys)=>decide (ys=ns.map V.int)
  |_=>false)
 |_=>false
theorem TQ{ns ms:List Int}:ms.map V.int=ns.map V.int↔ms=ns:=kD λ_ _ e=>V.int.inj e
theorem IY{H:Hp}{ns:List Int}:∀{as:List Addr}{Ot:List (List Int)}{us:List Value},NB H as Ot->D4 (as.map V.ref) us->us.any (eqT H ns)=Ot.contains ns
 |_,_,_,.nil,r=>by
  cases r;rfl
 |_,_,_,.cons (a:=a) (b:=ms) h t,r=>by
  cases r with
  |cons r1 r2=>
   cases r1;rw[T8,IY t r2,jD];congr 1;show(match H a with
    |some (.tup ys)=>decide (ys=ns.map V.int)
    |_=>false)=_
   rw[h];show decide (ms.map V.int=ns.map V.int)=(ns==ms);rw[d3,O0,O4,TQ];exact eq_comm
section
variable {X:Cx}
theorem zdv{pins:List (Addr×Obj)}{σ:St}{H:Hp}{s:Shared}{a b:Addr}{ms ns:List Int}{A:Around}(I:V2 X pins σ H s) (ha:H a=some (.tup (ms.map V.int))) (hb:H b=some (.tup (ns.map V.int))) (hu:A.units+2<cLine):SeqAt.EqAt A s (.ref a) (.ref b) (decide (ms=ns)):=by
 obtain⟨as,r1⟩:=Dp.reads I (.tuple (ms.map PyData.int)) (.ref a) (.ref a) (.tup (.inl (.inl ha)) (aU ms)) rfl;obtain⟨bs,r2⟩:=Dp.reads I (.tuple (ns.map PyData.int)) (.ref b) (.ref b) (.tup (.inl (.inl hb)) (aU ns)) rfl;have l:∀l:List Int,PyData.canLay0 (.tuple (l.map PyData.int))=true:=λl=>by
  have:=lX l;simpa[PyData.canLay0]using this
 have d:PyData.depth (.tuple (ms.map PyData.int))<=2:=by
  have:=mX ms;simp[PyData.depth]
  lia
 have e:=SeqAt.eqAt_reads _ _ A s _ _ as bs r1 r2 (l ms) (l ns) (Q9 (Nat.add_le_add_left (k4 (Nat.min_le_left _ _) d) _) hu);rw[show PyData.eqv (.tuple (ms.map PyData.int)) (.tuple (ns.map PyData.int))=decide (ms=ns)from kX ms ns]at e;exact e
theorem Bw{pins:List (Addr×Obj)}{σ:St}{H:Hp}{s:Shared}{b:Addr}{ns:List Int}{A:Around}(I:V2 X pins σ H s) (hb:H b=some (.tup (ns.map V.int))) (hu:A.units+2<cLine) :
  ∀{as:List Addr}{Ot:List (List Int)}{us:List Value},NB H as Ot->D4 (as.map V.ref) us->∀u∈us,SeqAt.EqAt A s u (.ref b) (eqT H ns u)
 |_,_,_,.nil,r=>λu hu=>by
  cases r;cases hu
 |_,_,_,.cons (a:=a) (b:=ms) h t,r=>λu hu'=>by
  cases r with
  |cons r1 r2=>
   cases r1;rcases S1.mp hu' with rfl|m
   .have e:eqT H ns (.ref a)=decide (ms=ns):=by
     show(match H a with
      |some (.tup ys)=>decide (ys=ns.map V.int)
      |_=>false)=_
     rw[h];exact S3.mpr TQ
    rw[e];exact zdv I h hb hu
   .exact Bw I hb hu t r2 u m
theorem Yb{A:Around}(hu:A.units+64<cLine):A.in1.units+2<cLine:=by
 have:A.in1.units<=A.units+1:=by first|exact j1 _|(simp[Around.in1,Around.units])
 lia
theorem Fi(hu:X.A.units+64<cLine):vJ X (compareOp .In) (zdu X.K false):=by
 intro pins s σ H x y v u Q I rx ry h;obtain⟨a,p,ns,as,Ot,rfl,rfl,hs,hq,ht,q⟩:=h;cases rx;cases ry;obtain⟨its,r,pl,hz⟩:=I.list hq;refine SeqAt.in_listAt (eqT H ns) pl.isList (λw hw=>Bw I hs (Yb hu) ht r w (by simpa using hw)) ⟨.bl _,H,I,rfl,?_⟩;rw[show its.toArray.any (eqT H ns)=its.any (eqT H ns) by simp,IY ht r];exact q
theorem YV(hu:X.A.units+64<cLine):vJ X (compareOp .NotIn) (zdu X.K true):=by
 intro pins s σ H x y v u Q I rx ry h;obtain⟨a,p,ns,as,Ot,rfl,rfl,hs,hq,ht,q⟩:=h;cases rx;cases ry;obtain⟨its,r,pl,hz⟩:=I.list hq;refine SeqAt.notIn_listAt (eqT H ns) pl.isList (λw hw=>Bw I hs (Yb hu) ht r w (by simpa using hw)) ⟨.bl _,H,I,rfl,?_⟩;rw[show its.toArray.any (eqT H ns)=its.any (eqT H ns) by simp,IY ht r];exact q
end
end L2
namespace Wm
open Bd
variable {y n x i f:Nat}{s:Option Nat}{α:Type}{w:Wall}
def Ct(f i:Nat):Option Nat:=if f<i then some f else none
theorem bU:stretchesFrom w y (n+1) x s=if w.isOpen x y=true then(match s with
  |some a=>[(a,x-a)]
  |none=>[])++stretchesFrom w y n (x+1) none else stretchesFrom w y n (x+1) (s.orElse λ(_:Unit)=>some x):=by
 cases s<;>rfl
theorem Zb:stretchesFrom w y 0 x s=match s with
  |some a=>[(a,x-a)]
  |none=>[]:=by
 cases s<;>rfl
theorem cU(ho:w.isOpen i y=true):stretchesFrom w y (n+1) i (Ct f i)=(if f<i then[(f,i-f)]else[])++stretchesFrom w y n (i+1) (Ct (i+1) (i+1)):=by
 grind [bU,Ct]
theorem dU(hf:f<=i)(ho:w.isOpen i y=false):stretchesFrom w y (n+1) i (Ct f i)=stretchesFrom w y n (i+1) (Ct f (i+1)):=by
 grind [bU,Ct]
theorem JY:stretchesFrom w y 0 i (Ct f i)=if f<i then[(f,i-f)]else[]:=by
 grind [Zb,Ct]
theorem KY(w:Wall)(y:Nat):∀(n i:Nat)(s:Option Nat),(stretchesFrom w y n i s).length<=n+1
 |0,i,s=>by
  rw[Zb];cases s<;>simp
 |n+1,i,s=>by
  rw[bU];by_cases h:w.isOpen i y=true
  .rw[J0 h,T1];have z:=KY w y n (i+1) none;cases s with
   |none=>simp;lia
   |some a=>simp;lia
  .rw[D0 h];have z:=KY w y n (i+1) (s.orElse λ(_:Unit)=>some i)
   lia
theorem JM(w:Wall)(y:Nat):(w.stretches y).length<=w.long+1:=KY w y _ _ _
def gG(w:Wall)(y:Nat)(l:List (Nat×Nat)):List Part:=(l.filter λ(s:Nat×Nat)=>!(decide (0<y)&&(w.stretches (y-1)).contains s)).map λ(s:Nat×Nat)=>⟨s.1,y,s.2,w.runOf s y⟩
theorem eN(n:Nat):List.range (n+1)=List.range n++[n]:=jA
def AH(w:Wall)(n:Nat):List Part:=(List.range n).flatMap λy=>gG w y (w.stretches y)
theorem qO(w:Wall)(n:Nat):AH w (n+1)=AH w n++gG w n (w.stretches n):=by
 unfold AH;rw[eN,o9];simp
theorem LY(w:Wall)(y:Nat)(l:List (Nat×Nat))(s:Nat×Nat):gG w y (l++[s])=gG w y l++if (decide (0<y)&&(w.stretches (y-1)).contains s)=true then[]else[⟨s.1,y,s.2,w.runOf s y⟩]:=by
 unfold gG;rw[M8,U0];rw[Y5,FF];cases (decide (0<y)&&(w.stretches (y-1)).contains s)<;>rfl
theorem UQ(w:Wall)(y:Nat)(l:List (Nat×Nat)):(gG w y l).length<=l.length:=by
 grind [gG]
theorem AL(w:Wall):∀n,(AH w n).length<=n*(w.long+1)
 |0=>by simp[AH]
 |n+1=>by
  rw[qO,T1];have h1:=AL w n;have h2:=UQ w n (w.stretches n);have h3:=JM w n;rw[Nat.succ_mul]
  lia
def VQ(w:Wall):List (List (Nat×Nat)):=(List.range w.high).map w.stretches
theorem oX(h:y<w.high):(VQ w)[y]?=some (w.stretches y):=by
 unfold VQ;rw[P1,Z6 h];rfl
theorem zdw(w:Wall)(s:Nat×Nat)(y:Nat)(hy:y<=w.high):(((VQ w).drop y).takeWhile λl=>l.contains s).length=w.runOf s y:=by
 unfold Wall.runOf VQ;have e:((List.range w.high).map w.stretches).drop y=(List.range (w.high-y)).map λk=>w.stretches (y+k):=by
  apply List.ext_getElem?;grind
 rw[e,List.takeWhile_map,B0];rfl
theorem Km{α:Type}{p:α->Bool}:∀{l:List α}{k:Nat}{x:α},l[k]?=some x->(∀j y,j<k->l[j]?=some y->p y=true)->(l.takeWhile p).length=if p x=true then k+1+((l.drop (k+1)).takeWhile p).length else k
 |[],k,x,h,_=>by simp at h
 |a::l,0,x,h,_=>by
  have e:a=x:=M0 h;subst e;rw[HC];cases q:p a with
  |true=>simp;lia
  |false=>simp
 |a::l,k+1,x,h,hp=>by
  have pa:p a=true:=hp 0 a (by lia) rfl;have ih:=Km (l:=l) (k:=k) (x:=x) (p:=p) h λj y hj hy=>hp (j+1) y (by lia) hy;rw[HC,J0 pa,N1,ih,List.drop_succ_cons];by_cases q:p x=true
  .rw[J0 q,J0 q]
   lia
  .rw[D0 q,D0 q]
theorem Cw{α:Type}{p:α->Bool}:∀{l:List α},(∀j y,j<l.length->l[j]?=some y->p y=true)->(l.takeWhile p).length=l.length
 |[],_=>rfl
 |a::l,h=>by
  have pa:p a=true:=h 0 a (by simp) rfl;rw[HC,J0 pa,N1,N1,Cw (l:=l) λj y hj hy=>h (j+1) y (by simp;lia) hy]
def pI(s:Nat×Nat):List Int:=[(s.1:Int),(s.2:Int)]
theorem zdx{a b:Nat×Nat}:pI a=pI b↔a=b:=by
 grind [pI]
theorem WQ(s:Nat×Nat):∀l:List (Nat×Nat),(l.map pI).contains (pI s)=l.contains s
 |[]=>rfl
 |a::l=>by
  grind [zdx]
theorem Gi(w:Wall)(x y:Nat):w.isOpen x y=(w.opens.map λo=>o.has x y).any id:=by
 rw[VN];rfl
end Wm
namespace HT
open PySem PyProof.Rows
section
open PySem.SeqAt
open PySem.AutoSeq1 (wpAny_loadPart')
open PySem.MeetsSeq PySem.MeetsSeq2 PySem.MeetsSeq3
end
end HT
namespace L2
open PySem PySem.Spec PyProof.Rows
open PySem.AutoSeq1 (wpAny_loadPart')
inductive zfO(K:Frag)(x:V)(y:V)(H:Hp)(Q:VK):Prop
 |mk (p q xs:_):x=.ref p->y=.ref q->SqL K H p xs->SqL K H q []->Q (.bl xs.isEmpty) H->zfO K x y H Q
theorem Ew{X:Cx}(hu:X.A.units<cLine):vJ X (compareOp .Eq) (zfO X.K):=by
 intro pins s σ H x y v u Q I rx ry h;obtain⟨p,q,xs,rfl,rfl,hp,hq,k⟩:=h;cases rx;cases ry;obtain⟨its,r1,p1,_⟩:=I.list hp;obtain⟨aL,r2,p2,_⟩:=I.list hq;cases r2;have l1:=r1.length;have fin:∀b:Bool,b=xs.isEmpty->EP X pins σ Q (.bool b) s:=λb e=>⟨.bl b,H,I,rfl,by rw[e];exact k⟩
 cases xs with
 |nil=>
  cases r1;exact(SeqAt.RcAt.lists (e:=λ_=>true) p1.isList p2.isList rfl hu (λj h1 _=>absurd h1 (by simp)) X.prog X.w X.xe _ (fin _ rfl):wpAny (model X.prog X.w) X.A (compareOp .Eq (.ref p) (.ref q)) _ X.xe s)
 |cons x xs=>
  exact(SeqAt.RcAt.lists_lengths p1.isList p2.isList (by simp[<-l1]) hu X.prog X.w X.xe _ (fin _ rfl):wpAny (model X.prog X.w) X.A (compareOp .Eq (.ref p) (.ref q)) _ X.xe s)
section
variable {X:Cx}
end
end L2
namespace HT
open PySem PyProof.Rows
variable {t:Addr}{A:Around}{prog:Program}{s:Shared}{E Q:Value->Shared->Prop}{w:World}
theorem getItem_tuple_whole{sl:Addr}{items:Array Value}{vl vu:Value}{lo hi:Option Int}(ht:IsTup s.heap t items) (hs:s.heap.IsSliceOf sl vl vu .none) (pl:IsPart vl lo) (pu:IsPart vu hi)
 (hw:sIx items.size 0 lo=0/\sIx items.size items.size hi=items.size)
 (h:Q (.ref t) s):wpAny (model prog w) A (getItem (.ref t) (.ref sl)) Q E s:=by
  obtain⟨os,hos,hcs,MZ⟩:=id hs;have hTs:s.TypeIs (.ref sl) "slice":= ⟨os,hos,hcs⟩;unfold getItem
  try with_reducible refine W4 ?_
  first|refine z0 (S0 ?_)|skip
  refine z0 (wpAny_sequenceKey ht.typeIs (by decide) ?_);refine z0 (O7 (name:=Str.ofString "__getitem__") ht.typeIs B5
   (J9 B5 ht.typeIs entry_tuple_getitem ?_ (args_tuple_getitem _ _)))
  show wpAny _ _ (Builtin.Tuple.tupleItemsOf (.ref t)>>=_) _ _ s;refine z0 (tupleItemsOf_ ht ?_);refine z0 (PN hTs ?_);rw[J0 (by decide)];refine z0 (CI hs pl pu ?_);have zi9:((((sIx items.size 0 lo:Nat):Int)==0&&(1:Int)==1&&(sIx items.size items.size hi-sIx items.size 0 lo)==items.size)=true):=by
   rw[hw.1,hw.2];simp
  show wpAny _ _ (if (((sIx items.size 0 lo:Nat):Int)==0&&(1:Int)==1&&(sIx items.size items.size hi-sIx items.size 0 lo)==items.size)=true then _ else _) _ _ s;rw[J0 zi9];refine z0 (z0 (PN ht.typeIs (S0 ?_)));rw[J0 (by decide)];refine z0 (YM ?_)
  first
   |exact S0 ⟨_,rfl,S0 h⟩
   |exact z0 (S0 ⟨_,rfl,S0 h⟩)
theorem cat_tupA{b:Addr}{vs ws:List Value}(ht:IsTup s.heap t vs.toArray) (hb:IsTup s.heap b ws.toArray)
 (h0:vs=[]->Q (.ref b) s) (h1:vs≠[]->ws=[]->Q (.ref t) s)
 (h2:vs≠[]->ws≠[]->Q (.ref s.heap.objs.size) {s with heap:=s.heap.push {cls:=.type "tuple",data:=.seq (vs++ws).toArray}})
 (hsz:vs.length+ws.length<=sizeLine):wpAny (model prog w) A (binaryOp .Add (.ref t) (.ref b)) Q E s:=by
  by_cases hv:vs=[]
  .obtain⟨⟨cls,dd,data,sl⟩,ho,hc,n,hd⟩:=id ht;obtain⟨⟨zbx,Tg,data2,Ug⟩,jY,VZ,n2,HW⟩:=id hb;simp only at hc hd VZ HW;subst hc hd VZ HW;exact NN ⟨_,ho,rfl⟩ ⟨_,jY,rfl⟩ BI FM QD AD (QC _ _)
    (tuple_addW0 t b vs.toArray ws.toArray n n2 dd Tg sl Ug (by simp[hv])) ⟨ho,jY,h0 hv⟩
  .exact zaw ht hb hv (h1 hv) (h2 hv) hsz
end HT
namespace L2
open PySem PySem.Spec PyProof.Rows
section
variable {X:Cx}
theorem Ac{H:Hp}{p:Addr}{o:HO}(n:H p=none):Same H (upd H p o):=λb ob e=>by
 rw[N0 (λz=>by rw[z,n]at e;cases e)];exact e
inductive zb4(K:Frag)(x:V)(lo:Option Int)(hi:Option Int)(H:Hp)(Q:VK):Prop
 |mk (a xs:_):x=.ref a->eA K H a xs->(∀(H':Hp)(p:Addr),Same H H'->eA K H' p (vM xs lo hi)->Q (.ref p) H')->zb4 K x lo hi H Q
theorem zaU:SlR X (zb4 X.K):=by
 intro pins s σ H x v vl vu lo hi sl Q I rx hs pl pu h;obtain⟨a,xs,rfl,hx,q⟩:=h;by_cases hw:HT.sIx xs.length 0 lo=0/\HT.sIx xs.length xs.length hi=xs.length
 .cases rx;obtain⟨its,r,ht,hz⟩:=I.tuple hx;have LC:its.toArray.size=xs.length:=by rw[K1];exact r.length.symm
  refine⟨"tuple",_,B5.lookup,ht.typeIs,?_⟩;refine HT.getItem_tuple_whole ht hs pl pu (by rw[LC];exact hw) ?_;have e:vM xs lo hi=xs:=by
   unfold vM;rw[hw.1,hw.2];simp
  exact⟨.ref a,H,I,rfl,q H a (Same.refl _) (by rw[e];exact hx)⟩
 .exact zc6 pins s σ H (.ref a) v vl vu lo hi sl Q I rx hs pl pu ⟨a,xs,rfl,hx,hw,λp np=>q _ p (Ac np) (.inl (.inl C0))⟩
inductive Hi(K:Frag)(x:V)(y:V)(H:Hp)(Q:VK):Prop
 |mk (a b xs ys:_):x=.ref a->y=.ref b->eA K H a xs->eA K H b ys->xs.length+ys.length<=sizeLine->(∀(H':Hp)(p:Addr),Same H H'->eA K H' p (xs++ys)->Q (.ref p) H')->Hi K x y H Q
theorem Bc:vJ X (binaryOp .Add) (Hi X.K):=by
 intro pins s σ H x y v u Q I rx ry h;obtain⟨a,b,xs,ys,rfl,rfl,ha,hb,hz,q⟩:=h;cases rx;cases ry;obtain⟨its,r1,p1,_⟩:=I.tuple ha;obtain⟨aL,r2,p2,_⟩:=I.tuple hb;refine HT.cat_tupA p1 p2 (λz=>⟨.ref b,H,I,rfl,q H b (Same.refl _) ?_⟩) (λ_ z=>⟨.ref a,H,I,rfl,q H a (Same.refl _) ?_⟩) (λ_ _=>?_) (by rw[<-r1.length,<-r2.length];exact hz)
 .rw[r1.nil_iff.mp z];exact hb
 .rw[r2.nil_iff.mp z,D3];exact ha
 .have np:H s.heap.objs.size=none:=I.hok.fresh (j1 _);refine⟨.ref s.heap.objs.size,_,I.laid (t':=s.toks) (o:=.tup (xs++ys)) (λb ob q=>V0 _ q) (j1 _) ?_,rfl,q _ _ (Ac np) (.inl (.inl C0))⟩;exact⟨by rw[T1];exact hz,_,r1.append r2,IsTup.new _ _⟩
theorem pX{K:Frag}(hK:X.K=K):vJ X (binaryOp .Add) (Hi K):=by
 subst hK;exact Bc
end
theorem eU(n m:Nat):Builtin.bitAnd (n:Int) (m:Int)=((n&&&m:Nat):Int):=by
 unfold Builtin.bitAnd;rw[F1 (show(0:Int)<=(n:Int) by lia),F1 (show(0:Int)<=(m:Int) by lia)];simp
theorem RI(n m:Nat):Builtin.bitOr (n:Int) (m:Int)=((n|||m:Nat):Int):=by
 unfold Builtin.bitOr Builtin.bitAnd;have e:∀k:Nat,Builtin.bitNot (Builtin.bitNot (k:Int))=(k:Int):=λk=>by unfold Builtin.bitNot;lia
 have l:∀k:Nat,decide (0<=Builtin.bitNot (k:Int))=false:=λk=>Y0 (by unfold Builtin.bitNot;lia);rw[l n,l m];dsimp only;rw[e,e,e];simp
theorem rO(n d:Nat):(n:Int)*2^((d:Int)).toNat=((n <<< d:Nat):Int):=by
 rw[c5,SI]
 push_cast
 rfl
theorem Lm(n d:Nat):(n:Int)/2^((d:Int)).toNat=((n >>> d:Nat):Int):=by
 rw[c5,BC]
 push_cast
 rfl
end L2
namespace Wf
open Bd
variable {b:Bond}{dH dB:List Nat}{a l:List Row}{L n lap left right:Nat}{p:Panel}{r:Row}{w:Way}
theorem Sq(l:List Nat):∀(n i:Nat),(l.foldl (λ(n x:Nat)=>n|||2^x) n).testBit i=(n.testBit i||decide (i∈l)):=by
 induction l<;>grind
theorem JA(l:List Nat)(i:Nat):(bitsOf l).testBit i=decide (i∈l):=by
 grind [bitsOf,Sq]
theorem Tq(n:Nat)(ds:List Nat):∀(m i:Nat),(ds.foldl (λ(m d:Nat)=>m|||(n*2^d|||n/2^d)) m).testBit i=(m.testBit i||ds.any λd=>(decide (d<=i)&&n.testBit (i-d))||n.testBit (i+d)):=by
 induction ds with
 |nil=>intro m i;simp
 |cons d ds ih=>
  intro m i;rw[h9,ih,KG,KG,Nat.testBit_mul_two_pow,Nat.testBit_div_two_pow,Bool.or_assoc,T8]
theorem Mm(lap n i:Nat):(near lap n).testBit i=(List.range lap).any λd=>(decide (d<=i)&&n.testBit (i-d))||n.testBit (i+d):=by
 unfold near;rw[Tq,Nat.zero_testBit,OH]
theorem Cc{x y:Nat}:x&&&y=0↔∀i,x.testBit i=true->y.testBit i=false:=by
 constructor
 .intro h i hx;have z:=GF x y i;grind
 .intro h;apply X8;grind
def rX(lap:Nat)(above zcu:List Nat):Prop:=∀a∈above,∀b∈zcu,¬gap a b<lap
theorem mD(lap:Nat)(dH Oz:List Nat):(near lap (bitsOf dH)&&&bitsOf Oz==0)=true↔rX lap Oz dH:=by
 rw[O4,Cc];constructor
 .intro h a ha b hb hg;have z:(near lap (bitsOf dH)).testBit a=true:=by
   rw[Mm,RE];unfold gap at hg;by_cases c:a<b
   .rw[J0 c]at hg;refine⟨b-a,w6.mpr hg,?_⟩;rw[JA,JA,Y3];right;rw[show a+(b-a)=b by lia];exact F1 hb
   .rw[D0 c]at hg;refine⟨a-b,w6.mpr hg,?_⟩;rw[JA,JA,Y3];left;rw[show a-(a-b)=b by lia,F1 (show a-b<=a by lia),TC];exact F1 hb
  grind [JA]
 .intro h i hi;rw[JA];refine Y0 λhj=>?_;rw[Mm,RE]at hi;obtain⟨d,hd,hi⟩:=hi;have hd:=w6.mp hd;rw[JA,JA,Y3,E1,O0,O0,O0]at hi;rcases hi with⟨h1,h2⟩|h2
  .refine h i hj _ h2 ?_;unfold gap;by_cases c:i<i-d
   .lia
   .rw[D0 c]
    lia
  .refine h i hj _ h2 ?_;unfold gap
   all_goals grind
theorem c9(p:Piece):1<=p.length:=by cases p<;>decide
theorem sO{p q:Piece}(h:p.rank=q.rank):p=q:=by cases p<;>cases q<;>first|rfl|(exact absurd h (by decide))
theorem C3(p:Piece)(r:Row):lengthOf (p::r)=p.length+lengthOf r:=rfl
theorem UH(h:lengthOf r=0):r=[]:=by
 cases r with
 |nil=>rfl
 |cons p r=>
  rw[C3]at h;have:=c9 p
  lia
theorem uO(x y:Piece)(r s:Row):rowBefore (x::r) (y::s)=(decide (x.rank<y.rank)||(x==y&&rowBefore r s)):=rfl
theorem qM:∀r:Row,rowBefore r r=false
 |[]=>rfl
 |x::r=>by
  rw[uO,qM r];simp
theorem fU:∀{r s t:Row},rowBefore r s=true->rowBefore s t=true->rowBefore r t=true
 |[],_,_,h,_=>by cases h
 |_::_,[],_,h,_=>by cases h
 |_::_,_::_,[],_,h=>by cases h
 |x::r,y::s,z::t,h1,h2=>by
  rw[uO,Y3,E1,O0,O4]at h1 h2 ⊢;rcases h1 with h1|⟨rfl,h1⟩
  .grind
  .rcases h2 with h2|⟨rfl,h2⟩
   .lia
   .exact .inr ⟨rfl,fU h1 h2⟩
theorem gU:∀{r s:Row},lengthOf r=lengthOf s->r=s\/rowBefore r s=true\/rowBefore s r=true
 |[],s,h=>.inl (UH h.symm).symm
 |x::r,[],h=>by
  rw[C3]at h;have:=c9 x;have z:lengthOf ([]:Row)=0:=rfl
  lia
 |x::r,y::s,h=>by
  rw[uO,uO];by_cases c:x.rank<y.rank
  .grind
  .by_cases d:y.rank<x.rank
   .grind
   .obtain rfl:x=y:=sO (by lia);rw[C3,C3]at h;rcases gU (r:=r) (s:=s) (by lia)with e|e|e
    all_goals grind
def ZV(L n:Nat)(l:List Row):Prop:=l.length=n/\∀r∈l,lengthOf r=L
theorem KJ(r s:Row)(l m:List Row):rowsBefore (r::l) (s::m)=(rowBefore r s||(r==s&&rowsBefore l m)):=rfl
theorem sX:∀l:List Row,rowsBefore l l=false
 |[]=>rfl
 |r::l=>by
  rw[KJ,qM,sX l];simp
theorem Dc:∀{a b c:List Row},rowsBefore a b=true->rowsBefore b c=true->rowsBefore a c=true
 |[],_,_,h,_=>by cases h
 |_::_,[],_,h,_=>by cases h
 |_::_,_::_,[],_,h=>by cases h
 |x::r,y::s,z::t,h1,h2=>by
  rw[KJ,Y3,E1,O4]at h1 h2 ⊢;rcases h1 with h1|⟨rfl,h1⟩
  .grind [fU]
  .rcases h2 with h2|⟨rfl,h2⟩
   .grind
   .exact .inr ⟨rfl,Dc h1 h2⟩
theorem Ec{L:Nat}:∀{n:Nat}{a b:List Row},ZV L n a->ZV L n b->a=b\/rowsBefore a b=true\/rowsBefore b a=true
 |0,a,b,ha,hb=>.inl (by rw[d4.mp ha.1,d4.mp hb.1])
 |n+1,[],_,ha,_=>absurd ha.1 (by simp)
 |n+1,_::_,[],_,hb=>absurd hb.1 (by simp)
 |n+1,r::a,s::b,ha,hb=>by
  rw[KJ,KJ];rcases gU (r:=r) (s:=s) ((ha.2 r (by simp)).trans (hb.2 s (by simp)).symm)with rfl|e|e
  .have Mt:ZV L n a:=⟨by simpa using ha.1,λx hx=>ha.2 x (by simp[hx])⟩
   have BP:ZV L n b:=⟨by simpa using hb.1,λx hx=>hb.2 x (by simp[hx])⟩
   rcases Ec Mt BP with e|e|e
   all_goals grind
  all_goals grind
theorem VH(l m:List Row):sooner l m=true↔cutsIn l<cutsIn m\/(cutsIn l=cutsIn m/\(piecesIn l<piecesIn m\/(piecesIn l=piecesIn m/\rowsBefore l m=true))):=by
 unfold sooner;simp only[Y3,E1,O0,O4]
theorem QP(l:List Row):¬sooner l l=true:=by
 rw[VH];rintro(h|⟨_,h|⟨_,h⟩⟩)
 .lia
 .lia
 .rw[sX]at h;cases h
theorem UI{b c:List Row}(h1:sooner a b=true) (h2:sooner b c=true):sooner a c=true:=by
 grind [VH,Dc]
theorem Fc{b:List Row}(h1:sooner a b=true):¬sooner b a=true:=λh2=>QP a (UI h1 h2)
theorem hU{b:List Row}(ha:ZV L n a) (hb:ZV L n b):a=b\/sooner a b=true\/sooner b a=true:=by
 grind [VH,Ec]
theorem TB(r:Row)(l:List Row):cutsIn (r::l)=cutsOf r+cutsIn l:=rfl
theorem yB(r:Row)(l:List Row):piecesIn (r::l)=r.length+piecesIn l:=rfl
theorem Nm(r:Row)(l m:List Row):sooner (r::l) (r::m)=sooner l m:=by
 rw[d3,VH,VH,TB,TB,yB,yB,KJ,qM];simp only[qC,TC,OH];constructor
 .rintro(h|⟨e,h|⟨f,h⟩⟩)
  .exact .inl (by lia)
  .exact .inr ⟨by lia,.inl (by lia)⟩
  .exact .inr ⟨by lia,.inr ⟨by lia,h⟩⟩
 .rintro(h|⟨e,h|⟨f,h⟩⟩)
  .exact .inl (by lia)
  .exact .inr ⟨by lia,.inl (by lia)⟩
  .exact .inr ⟨by lia,.inr ⟨by lia,h⟩⟩
def vO(w:Way):Prop:=w.cuts=cutsIn w.rows/\w.pieces=piecesIn w.rows/\∀r,w.rows.head?=some r->w.bits=bitsOf (jointsOf r)
theorem Gc(h:vO w):vO (wayOn r w):=by
 obtain⟨h1,h2,_⟩:=h;refine⟨?_,?_,λs hs=>?_⟩
 .show cutsOf r+w.cuts=cutsIn (r::w.rows);rw[h1,TB]
 .show r.length+w.pieces=piecesIn (r::w.rows);rw[h2,yB]
 .obtain rfl:r=s:=M0 hs;rfl
theorem Uq:vO ⟨[],0,0,0⟩:=⟨rfl,rfl,λr h=>nomatch h⟩
theorem UE{v:Way}(hv:vO v) (hw:vO w):v.sooner w=sooner v.rows w.rows:=by
 unfold Way.sooner sooner;rw[hv.1,hw.1,hv.2.1,hw.2.1]
theorem Vq{α:Type}(le:α->α->Bool) (G:α->Prop) (tr:∀a b c,G a->G b->G c->le a b=true->le b c=true->le a c=true) (to:∀a b,G a->G b->(le a b||le b a)=true) (l:List α) (hl:∀a∈l,G a) :
  (l.mergeSort le).Pairwise λa b=>le a b=true:=by
 classical
 let le2:α->α->Bool:=λa b=>if G a then(if G b then le a b else true)else(if G b then false else true)
 have e:l.mergeSort le=l.mergeSort le2:=by
  have z:=List.map_mergeSort (r:=le) (s:=le2) (f:=id) (l:=l) λa ha b hb=>by
   grind
  simpa using z
 have p:=List.pairwise_mergeSort (le:=le2) (λa b c h1 h2=>by
  show(if G a then(if G c then le a c else true)else(if G c then false else true))=true;have h1:(if G a then(if G b then le a b else true)else(if G b then false else true))=true:=h1;have h2:(if G b then(if G c then le b c else true)else(if G c then false else true))=true:=h2;by_cases ga:G a
  .rw[J0 ga]at h1 ⊢;by_cases gc:G c
   .rw[J0 gc]at h2 ⊢;by_cases gb:G b
    .rw[J0 gb]at h1 h2;exact tr a b c ga gb gc h1 h2
    grind
   .rw[D0 gc]
  .rw[D0 ga]at h1 ⊢;by_cases gb:G b
   .grind
   .rw[D0 gb]at h2;exact h2) (λa b=>by
  show((if G a then(if G b then le a b else true)else(if G b then false else true))||(if G b then(if G a then le b a else true)else(if G a then false else true)))=true;by_cases ga:G a
  .by_cases gb:G b
   all_goals grind
  .by_cases gb:G b
   .grind
   .rw[D0 ga,D0 gb];rfl) l
 rw[<-e]at p;refine List.Pairwise.imp_of_mem ?_ p;intro a b ha hb h;have h:(if G a then(if G b then le a b else true)else(if G b then false else true))=true:=h
 simp_all
theorem XQ{l:List Way}(hl:∀w∈l,vO w/\ZV L n w.rows) (h:firstOn lap dH (inWayOrder l)=some w) :
  w∈l/\(near lap (bitsOf dH)&&&w.bits==0)=true/\∀v∈l,(near lap (bitsOf dH)&&&v.bits==0)=true->v.rows=w.rows\/sooner w.rows v.rows=true:=by
 have h':(inWayOrder l).find? (λ(w:Way)=>near lap (bitsOf dH)&&&w.bits==0)=some w:=h;obtain⟨h1,as,bs,e,h2⟩:=cB.mp h';have ml:w∈l:=pD.mp (show w∈inWayOrder l by rw[e];simp);refine⟨ml,h1,λv hv pv=>?_⟩;have p:=Vq (λ(v w:Way)=>!w.sooner v) (λw=>vO w/\ZV L n w.rows) (λa b c ga gb gc h1 h2=>?_) (λa b ga gb=>?_) l hl
 .have p:(inWayOrder l).Pairwise λa b=>(!b.sooner a)=true:=p;rw[e]at p;have mv:v∈as++w::bs:=by
   rw[<-e];exact pD.mpr hv
  rcases F2.mp mv with m|m
  .grind
  .rcases S1.mp m with rfl|m
   .grind
   .have z:=(qD.mp (List.pairwise_append.mp p).2.1).1 v m;rw[UE (hl v hv).1 (hl w ml).1]at z;rcases hU (hl v hv).2 (hl w ml).2 with q|q|q
    all_goals grind
 .rw[UE gc.1 ga.1,P3];rw[UE gb.1 ga.1,P3]at h1;rw[UE gc.1 gb.1,P3]at h2;rw[S4]at h1 h2 ⊢;intro q;rcases hU ga.2 gb.2 with z|z|z
  .grind
  .exact h2 (UI q z)
  .exact h1 z
 .rw[UE gb.1 ga.1,UE ga.1 gb.1,Y3,P3,P3,S4,S4];by_cases z:sooner b.rows a.rows=true
  .exact .inr (Fc z)
  .exact .inl z
theorem iU{l:List Way}(h:firstOn lap dH (inWayOrder l)=none):∀v∈l,¬(near lap (bitsOf dH)&&&v.bits==0)=true:=by
 intro v hv;have h':(inWayOrder l).find? (λ(w:Way)=>near lap (bitsOf dH)&&&w.bits==0)=none:=h;exact rD.mp h' v (pD.mpr hv)
theorem Hc(r:Row):∀l:List Row,r∈once l↔r∈l
 |[]=>sC
 |[x]=>sC
 |x::y::l=>by
  have ih:=Hc r (y::l);unfold once
  all_goals grind
theorem Wq(r:Row)(l:List Row):r∈inRowOrder l↔r∈l:=by
 unfold inRowOrder;rw[Hc,pD]
theorem Z3(r s:Row):lengthOf (r++s)=lengthOf r+lengthOf s:=by
 induction r with
 |nil=>simp[lengthOf,sum]
 |cons p r ih=>
  grind [C3]
theorem jU(w:Row):∀(f i left:Nat)(m:Row),middle w f i left=some m->lengthOf m=left
 |0,i,left,m,h=>by
  unfold middle at h;by_cases c:left=0
  .rw[J0 c]at h;obtain rfl:=M0 h;exact c.symm
  grind
 |f+1,i,left,m,h=>by
  unfold middle at h;by_cases c:left=0
  .rw[J0 c]at h;obtain rfl:=M0 h;exact c.symm
  .rw[D0 c]at h;by_cases d:left<(w.getD (i%w.length) .S).length
   .rw[J0 d]at h;cases h
   .rw[D0 d]at h;cases q:middle w f (i+1) (left-(w.getD (i%w.length) .S).length)with
    |none=>grind
    |some r=>
     rw[q]at h;obtain rfl:=M0 h;have z:=jU w f (i+1) _ r q;rw[C3,z]
     lia
theorem Ic{k length:Nat}:r∈rowsOf b k length left right↔
  (endIs left k r.head?&&endIs right k r.getLast?)=true/\∃p∈endsOf b.makes b.most,∃q∈endsOf b.makes b.most,lengthOf p+lengthOf q<=length/\∃i<(b.course k).length,∃m,middle (b.course k) length i (length-lengthOf p-lengthOf q)=some m/\r=p++(m++q):=by
 unfold rowsOf;dsimp only;rw[Wq,R4];constructor
 .rintro⟨h1,h2⟩;refine⟨h2,?_⟩;obtain⟨p,hp,h1⟩:=R7.mp h1;obtain⟨q,hq,h1⟩:=R7.mp h1;by_cases c:length<lengthOf p+lengthOf q
  .rw[J0 c]at h1;cases h1
  .rw[D0 c]at h1;obtain⟨i,hi,h1⟩:=C6.mp h1;cases e:middle (b.course k) length i (length-lengthOf p-lengthOf q)with
   |none=>rw[e]at h1;cases h1
   |some m=>
    rw[e]at h1;exact⟨p,hp,q,hq,by lia,i,w6.mp hi,m,e,(M0 h1).symm⟩
 .rintro⟨h2,p,hp,q,hq,c,i,hi,m,e,rfl⟩;refine⟨R7.mpr ⟨p,hp,R7.mpr ⟨q,hq,?_⟩⟩,h2⟩;rw[D0 (by lia)];exact C6.mpr ⟨i,w6.mpr hi,by rw[e];rfl⟩
theorem Fw{k length:Nat}(h:r∈rowsOf b k length left right):lengthOf r=length:=by
 grind [Ic,Z3,jU]
def BL(b:Bond)(p:Panel):Nat->List Row->Prop
 |_,[]=>True
 |k,r::l=>r∈rowsOf b k p.length p.left p.right/\(∀s,l.head?=some s->rX b.lap (jointsOf s) (jointsOf r))/\BL b p (k+1) l
theorem rM{b:Bond}{p:Panel}:∀{k:Nat}{l:List Row},BL b p k l->∀r∈l,lengthOf r=p.length
 |_,[],_,r,hr=>by cases hr
 |k,s::l,h,r,hr=>by
  rcases S1.mp hr with rfl|m
  .exact Fw h.1
  .exact rM h.2.2 r m
theorem LJ{k:Nat}(h:BL b p k l) (hn:l.length=n):ZV p.length n l:=⟨hn,rM h⟩
structure Up(b:Bond)(p:Panel)(n k:Nat)(l:List Way):Prop where
 good:∀w∈l,vO w/\BL b p k w.rows/\w.rows.length=n+1/\∀m,BL b p k m->m.length=n+1->m.head?=w.rows.head?->m=w.rows\/sooner w.rows m=true
 all:∀m,BL b p k m->m.length=n+1->∃w∈l,w.rows.head?=m.head?
theorem MY(b:Bond)(p:Panel):∀(n k:Nat),Up b p n k (upFrom b p n k)
 |0,k=>by
  refine⟨λw hw=>?_,λm hm hl=>?_⟩
  .obtain⟨r,hr,rfl⟩:=S2.mp hw;refine⟨Gc Uq,⟨hr,(λs h=>nomatch h),trivial⟩,rfl,λm hm hl hh=>.inl ?_⟩
   match m,hl,hh with
   |[s],_,hh=>
    obtain rfl:s=r:=M0 hh;rfl
  .match m,hl,hm with
   |[s],_,hm=>exact⟨_,S2.mpr ⟨s,hm.1,rfl⟩,rfl⟩
 |n+1,k=>by
  have ih:=MY b p n (k+1);have hl:∀w∈upFrom b p n (k+1),vO w/\ZV p.length (n+1) w.rows:=λw hw=>⟨(ih.good w hw).1,LJ (ih.good w hw).2.1 (ih.good w hw).2.2.1⟩
  have zeg:∀(r s:Row)(w:Way),w∈upFrom b p n (k+1)->w.rows.head?=some s->((near b.lap (bitsOf (jointsOf r))&&&w.bits==0)=true↔rX b.lap (jointsOf s) (jointsOf r)):=λr s w hw hs=>by
   rw[(ih.good w hw).1.2.2 s hs];exact mD _ _ _
  refine⟨λw hw=>?_,λm hm hml=>?_⟩
  .obtain⟨r,hr,hw⟩:=C6.mp hw;cases hf:firstOn b.lap (jointsOf r) (inWayOrder (upFrom b p n (k+1)))with
   |none=>grind
   |some a=>
    rw[hf]at hw;obtain rfl:=M0 hw;obtain⟨ma,pa,wF⟩:=XQ hl hf;obtain⟨ga,sa,la,_⟩:=ih.good a ma;refine⟨Gc ga,⟨hr,λs hs=>(zeg r s a ma hs).mp pa,sa⟩,by show a.rows.length+1=_;rw[la],λm hm hml hh=>?_⟩
    match m,hml,hh,hm with
    |s::m',hml,hh,hm=>
     obtain rfl:s=r:=M0 hh;have To:m'.length=n+1:=by simpa using hml
     obtain⟨a',ma',Mt⟩:=ih.all m' hm.2.2 To;obtain⟨_,_,_,lst⟩:=ih.good a' ma';obtain⟨t,ht⟩:∃t,m'.head?=some t:=by
      cases m' with
      |nil=>simp at To
      |cons t _=>grind
     have pa':=(zeg s t a' ma' (Mt.trans ht)).mpr (hm.2.1 t ht);show s::m'=s::a.rows\/sooner (s::a.rows) (s::m')=true;rw[Nm];rcases wF a' ma' pa' with q1|q1
     .rcases lst m' hm.2.2 To Mt.symm with q2|q2
      all_goals grind
     .rcases lst m' hm.2.2 To Mt.symm with q2|q2
      .grind
      .exact .inr (UI q1 q2)
  .match m,hml,hm with
   |r::m',hml,hm=>
    have To:m'.length=n+1:=by simpa using hml
    obtain⟨a',ma',Mt⟩:=ih.all m' hm.2.2 To;obtain⟨t,ht⟩:∃t,m'.head?=some t:=by
     cases m' with
     |nil=>simp at To
     |cons t _=>grind
    have pa':=(zeg r t a' ma' (Mt.trans ht)).mpr (hm.2.1 t ht);cases hf:firstOn b.lap (jointsOf r) (inWayOrder (upFrom b p n (k+1)))with
    |none=>exact absurd pa' (iU hf a' ma')
    |some a=>exact⟨wayOn r a,C6.mpr ⟨r,hm.1,by rw[hf];rfl⟩,rfl⟩
def wO(b:Bond)(p:Panel)(dB:List Nat)(l:List Row):Prop:=BL b p p.first l/\l.length=p.courses/\∀s,l.head?=some s->rX b.lap (jointsOf s) dB
theorem RP(hc:1<=p.courses)(h:fillOf b p dB=some l):wO b p dB l/\∀m,wO b p dB m->m=l\/sooner l m=true:=by
 have U:=MY b p (p.courses-1) p.first;unfold fillOf at h;cases hf:firstOn b.lap dB (inWayOrder (upFrom b p (p.courses-1) p.first))with
 |none=>grind
 |some w=>
  rw[hf]at h;obtain rfl:w.rows=l:=M0 h;obtain⟨mw,pw,wF⟩:=XQ (λw hw=>⟨(U.good w hw).1,LJ (U.good w hw).2.1 (U.good w hw).2.2.1⟩) hf;obtain⟨gw,sw,lw,lst⟩:=U.good w mw;refine⟨⟨sw,by lia,λs hs=>?_⟩,λm ⟨sm,lm,am⟩=>?_⟩
  .rw[gw.2.2 s hs]at pw;exact(mD _ _ _).mp pw
  .obtain⟨v,mv,hv⟩:=U.all m sm (by lia);obtain⟨gv,sv,lv,zja⟩:=U.good v mv;obtain⟨t,ht⟩:∃t,m.head?=some t:=by
    cases m with
    |nil=>simp at lm;lia
    |cons t _=>grind
   have pv:(near b.lap (bitsOf dB)&&&v.bits==0)=true:=by
    rw[gv.2.2 t (hv.trans ht)];exact(mD _ _ _).mpr (am t ht)
   rcases wF v mv pv with q1|q1
   .grind
   .rcases zja m sm (by lia) hv.symm with q2|q2
    .grind
    .exact .inr (UI q1 q2)
theorem Xq(hc:1<=p.courses)(h:fillOf b p dB=none):∀m,¬wO b p dB m:=by
 have U:=MY b p (p.courses-1) p.first;intro m ⟨sm,lm,am⟩;unfold fillOf at h;cases hf:firstOn b.lap dB (inWayOrder (upFrom b p (p.courses-1) p.first))with
 |some w=>grind
 |none=>
  obtain⟨v,mv,hv⟩:=U.all m sm (by lia);obtain⟨t,ht⟩:∃t,m.head?=some t:=by
   cases m with
   |nil=>simp at lm;lia
   |cons t _=>grind
  refine iU hf v mv ?_;rw[(U.good v mv).1.2.2 t (hv.trans ht)];exact(mD _ _ _).mpr (am t ht)
theorem zaV(hc:1<=p.courses)(hl:wO b p dB l)(h:∀m,wO b p dB m->m=l\/sooner l m=true):fillOf b p dB=some l:=by
 cases hf:fillOf b p dB with
 |none=>exact absurd hl (Xq hc hf l)
 |some m=>
  obtain⟨fm,lm⟩:=RP hc hf;rcases h m fm with q|q
  .rw[q]
  .rcases lm l hl with q'|q'
   .rw[q']
   .exact absurd q (Fc q')
theorem VI(makes:List Piece):∀(n:Nat)(r:Row),r∈endsOf makes n↔r.length<=n/\∀p∈r,p∈makes
 |0,r=>by
  unfold endsOf;grind
 |n+1,r=>by
  unfold endsOf;rw[S1,R7];constructor
  .rintro(rfl|⟨s,hs,h⟩)
   .grind
   .obtain⟨p,hp,rfl⟩:=S2.mp h;obtain⟨h1,h2⟩:=(VI makes n s).mp hs
    all_goals grind
  .rintro⟨h1,h2⟩;cases r with
   |nil=>grind
   |cons p s=>exact .inr ⟨s,(VI makes n s).mpr ⟨by simpa using h1,λq hq=>h2 q (by simp[hq])⟩,S2.mpr ⟨p,h2 p (by simp),rfl⟩⟩
theorem kU(w:Row)(i n:Nat):repeated w i (n+1)=w.getD (i%w.length) .S::repeated w (i+1) n:=by
 unfold repeated;rw[lB,L3,B3];congr 1;refine b7 λj _=>?_;show w.getD ((i+(j+1))%w.length) .S=w.getD ((i+1+j)%w.length) .S;rw[show i+(j+1)=i+1+j by lia]
theorem Om(w:Row)(i n:Nat):(repeated w i n).length=n:=by
 unfold repeated;rw[B0,o6]
theorem LG:∀r:Row,r.length<=lengthOf r
 |[]=>j1 _
 |p::r=>by
  rw[C3,N1];have h1:=LG r;have h2:=c9 p
  lia
theorem MJ(w:Row):∀(f i left:Nat)(m:Row),left<=f->(middle w f i left=some m↔m=repeated w i m.length/\lengthOf m=left)
 |0,i,left,m,h=>by
  have h0:left=0:=by lia
  subst h0;unfold middle;rw[J0 rfl];constructor
  .intro e;obtain rfl:=M0 e;exact⟨rfl,rfl⟩
  .rintro⟨_,e⟩;rw[UH e]
 |f+1,i,left,m,h=>by
  unfold middle;by_cases c:left=0
  .rw[J0 c];subst c;constructor
   .intro e;obtain rfl:=M0 e;exact⟨rfl,rfl⟩
   .rintro⟨_,e⟩;rw[UH e]
  .rw[D0 c];have pp:=c9 (w.getD (i%w.length) .S);by_cases d:left<(w.getD (i%w.length) .S).length
   .rw[J0 d];constructor
    .grind
    .rintro⟨e1,e2⟩;cases m with
     |nil=>exact absurd e2.symm c
     |cons p m=>
      rw[N1,kU]at e1;obtain⟨rfl,_⟩:=xB e1;rw[C3]at e2
      lia
   .rw[D0 d];constructor
    .intro e;cases q:middle w f (i+1) (left-(w.getD (i%w.length) .S).length)with
     |none=>grind
     |some r=>
      rw[q]at e;obtain rfl:=M0 e;obtain⟨h1,h2⟩:=(MJ w f (i+1) _ r (by lia)).mp q;refine⟨?_,?_⟩
      .rw[N1,kU,<-h1]
      .rw[C3,h2]
       lia
    .rintro⟨e1,e2⟩;cases m with
     |nil=>exact absurd e2.symm c
     |cons p m=>
      rw[N1,kU]at e1;obtain⟨rfl,e1'⟩:=xB e1;rw[C3]at e2;rw[(MJ w f (i+1) (left-(w.getD (i%w.length) .S).length) m (by lia)).mpr ⟨e1',by lia⟩];rfl
def Ii(b:Bond)(k:Nat)(r:Row):Prop:=∃p m q:Row,r=p++(m++q)/\p.length<=b.most/\q.length<=b.most/\(∀x∈p,x∈b.makes)/\(∀x∈q,x∈b.makes)/\∃i<(b.course k).length,m=repeated (b.course k) i m.length
theorem yO{k length:Nat}:r∈rowsOf b k length left right↔lengthOf r=length/\(endIs left k r.head?&&endIs right k r.getLast?)=true/\Ii b k r:=by
 rw[Ic];constructor
 .rintro⟨h,p,hp,q,hq,c,i,hi,m,e,rfl⟩;obtain⟨p1,p2⟩:=(VI _ _ _).mp hp;obtain⟨q1,q2⟩:=(VI _ _ _).mp hq;obtain⟨m1,m2⟩:=(MJ _ _ _ _ _ (by lia)).mp e;refine⟨?_,h,p,m,q,rfl,p1,q1,p2,q2,i,hi,m1⟩;rw[Z3,Z3,m2]
  lia
 .rintro⟨hl,h,p,m,q,rfl,p1,q1,p2,q2,i,hi,m1⟩;rw[Z3,Z3]at hl;exact⟨h,p,(VI _ _ _).mpr ⟨p1,p2⟩,q,(VI _ _ _).mpr ⟨q1,q2⟩,by lia,i,hi,m,(MJ _ _ _ _ _ (by lia)).mpr ⟨m1,by lia⟩,rfl⟩
end Wf
namespace Srt
open PySem PyProof.Rows
variable {a a' b b' PB u6:Array Keyed}{Γ:Ctx}{x x' PV zbE:Keyed}{f:Keyed->Keyed}{less:Keyed->Keyed->Bool}{G:Keyed->Prop}{M:Model}{c:Prop}{s s':Shared}{t:String}{α β γ:Type}
structure Dt(M:Model)(Γ:Ctx)(s s':Shared)(kd DA:SortKind)(G:Keyed->Prop)(f:Keyed->Keyed)(less:Keyed->Keyed->Bool):Prop where
 real:∀x y,G x->G y->∀(Q:Bool->Shared->Prop)(E:Value->Pos->Shared->Prop)(p:Pos),Q (less x y) s->Sem.wp M Γ (keyLt' kd x.1 y.1) (λa _ s1=>Q a s1) E p s
 fake:∀x y,G x->G y->∀(Q:Bool->Pos->Shared->Prop)(E:Value->Pos->Shared->Prop)(p:Pos),Sem.wp M Γ (keyLt' DA (f x).1 (f y).1) Q E p s'->∃p1,Q (less x y) p1 s'
section
variable {kd DA:SortKind}
def AR(G:Keyed->Prop)(f:Keyed->Keyed)(a a':Array Keyed):Prop:=(∀x∈a,G x)/\a'=a.map f
def KR(G:Keyed->Prop)(f:Keyed->Keyed)(x x':Keyed):Prop:=G x/\x'=f x
structure SR(kd DA:SortKind)(G:Keyed->Prop)(f:Keyed->Keyed)(st O9:SortSt):Prop where
 k:kindOf st=kd
 k':kindOf O9=DA
 arr:AR G f (arrOf st) (arrOf O9)
 pend:pendingOf O9=pendingOf st
 gal:gallopOf O9=gallopOf st
 fl:failedOf st=none
 fl':failedOf O9=none
def cE(M:Model)(Γ:Ctx)(s s':Shared)(kd DA:SortKind)(G:Keyed->Prop)(f:Keyed->Keyed){α:Type}(R:α->α->Prop) (m m':StateT SortSt Sem α):Prop:=
 ∀st O9,SR kd DA G f st O9->∀(Q':α×SortSt->Pos->Shared->Prop)(E':Value->Pos->Shared->Prop)(p':Pos),Sem.wp M Γ (m'.run O9) Q' E' p' s'->
  ∀(E:Value->Pos->Shared->Prop)(p:Pos),Sem.wp M Γ (m.run st) (λr _ s1=>s1=s/\∃r' p1,R r.1 r'.1/\SR kd DA G f r.2 r'.2/\Q' r' p1 s') E p s
theorem j4{R:α->α->Prop}{a a':α}(h:R a a'):cE M Γ s s' kd DA G f R (pure a) (pure a'):=by
 intro st O9 hs Q' E' p' w E p;exact⟨rfl,(a',O9),p',h,hs,w⟩
theorem Y2{R:α->α->Prop}{R2:β->β->Prop}{m m':StateT SortSt Sem α}{g g':α->StateT SortSt Sem β}(h1:cE M Γ s s' kd DA G f R m m') (h2:∀a a',R a a'->cE M Γ s s' kd DA G f R2 (g a) (g' a')) :
  cE M Γ s s' kd DA G f R2 (m>>=g) (m'>>=g'):=by
 intro st O9 hs Q' E' p' w E p;rw[HF,S6]at w ⊢;refine DL M Γ _ ?_ (λe p1 s1 q=>q) p s (h1 st O9 hs _ _ _ w E p);rintro⟨a,Lg⟩ p1 s1 ⟨rfl,⟨a',Ts⟩,p2,ra,rs,w2⟩;exact h2 a a' ra Lg Ts rs _ _ _ w2 E p1
theorem BH:cE M Γ s s' kd DA G f (SR kd DA G f) (get:StateT SortSt Sem SortSt) get:=by
 intro st O9 hs Q' E' p' w E p;exact⟨rfl,(O9,O9),p',hs,hs,w⟩
theorem VE{g g':SortSt->SortSt}(h:∀st O9,SR kd DA G f st O9->SR kd DA G f (g st) (g' O9)):cE M Γ s s' kd DA G f (λ_ _=>True) (modify g:StateT SortSt Sem PUnit) (modify g'):=by
 intro st O9 hs Q' E' p' w E p;exact⟨rfl,(⟨⟩,g' O9),p',trivial,h _ _ hs,w⟩
theorem zaW{a a':SortSt}(h:SR kd DA G f a a'):cE M Γ s s' kd DA G f (λ_ _=>True) (set a:StateT SortSt Sem PUnit) (set a'):=by
 intro st O9 hs Q' E' p' w E p;exact⟨rfl,(⟨⟩,a'),p',trivial,h,w⟩
theorem WI:cE M Γ s s' kd DA G f (λ_ _=>True) (liftM (rule t):StateT SortSt Sem Unit) (liftM (rule t)):=by
 intro st O9 hs Q' E' p' w E p;exact⟨rfl,((),O9),p',trivial,hs,w⟩
theorem UP{R:α->α->Prop}{m:StateT SortSt Sem α}:cE M Γ s s' kd DA G f R m (liftM (unsupported t:Sem α)):=by
 intro st O9 hs Q' E' p' w E p;exact False.elim w
theorem dE{R:α->α->Prop}{c':Prop}[Decidable c] [Decidable c'] {m n m' n':StateT SortSt Sem α}(hc:c↔c') (h1:c->cE M Γ s s' kd DA G f R m m') (h2:¬c->cE M Γ s s' kd DA G f R n n') :
  cE M Γ s s' kd DA G f R (if c then m else n) (if c' then m' else n'):=by
 all_goals grind
theorem AR.size(h:AR G f a a'):a'.size=a.size:=by rw[h.2,MG]
theorem AR.at(h:AR G f a a')(i:Nat):a'[i]?=(a[i]?).map f:=by rw[h.2,Array.getElem?_map]
theorem eE(h:AR G f a a')(i:Nat):cE M Γ s s' kd DA G f (KR G f) (elem' a i) (elem' a' i):=by
 rw[elem'_eq,elem'_eq,h.at i];cases e:a[i]? with
 |none=>
  intro st O9 hs Q' E' p' w E p;exact False.elim w
 |some x=>exact j4 ⟨h.1 x (Array.mem_of_getElem? e),rfl⟩
theorem lU(T:Dt M Γ s s' kd DA G f less){y y':Keyed}(hx:KR G f x x') (hy:KR G f y y'):cE M Γ s s' kd DA G f Eq (lt' x y) (lt' x' y'):=by
 obtain⟨gx,rfl⟩:=hx;obtain⟨gy,rfl⟩:=hy;rw[lt'_eq,lt'_eq];intro st O9 hs Q' E' p' w E p;rw[HF,StateT.run_get]at w ⊢;rw[S6,zO]at w ⊢;rw[HF,hs.k']at w;rw[HF,hs.k];rw[S6]at w ⊢;have w1:Sem.wp M Γ ((StateT.lift (keyLt' DA (f x).1 (f y).1).attempt:StateT SortSt Sem _).run O9) _ E' p' s':=w;show Sem.wp M Γ ((StateT.lift (keyLt' kd x.1 y.1).attempt:StateT SortSt Sem _).run st) _ E p s;rw[StateT.run_lift]at w1 ⊢;unfold Sem.attempt at w1 ⊢;rw[S6,Sem.wp_tryCatch]at w1 ⊢;have w2:Sem.wp M Γ ((keyLt' DA (f x).1 (f y).1)>>=λa=>pure (Except.ok a)) _ _ p' s':=w1;rw[S6]at w2;obtain⟨p1,w3⟩:=T.fake x y gx gy _ _ _ w2;show Sem.wp M Γ ((keyLt' kd x.1 y.1)>>=λa=>pure (Except.ok a)) _ _ p s;rw[S6];refine DL M Γ _ ?_ (λe p1 s1 q=>q) p s (T.real x y gx gy (λa s1=>a=less x y/\s1=s) _ p ⟨rfl,rfl⟩);rintro a p2 s1 ⟨rfl,rfl⟩;exact⟨rfl,(some (less x y),O9),p1,rfl,hs,w3⟩
theorem mU(T:Dt M Γ s s' kd DA G f less)(i j:Nat):cE M Γ s s' kd DA G f Eq (ltAt' i j) (ltAt' i j):=by
 refine Y2 BH λst O9 hs=>?_;refine Y2 (eE hs.arr i) λx x' hx=>?_;exact Y2 (eE hs.arr j) λy y' hy=>lU T hx hy
theorem AR.push(h:AR G f a a')(hx:KR G f x x'):AR G f (a.push x) (a'.push x'):=by
 obtain⟨h1,rfl⟩:=h;obtain⟨gx,rfl⟩:=hx;refine⟨λz hz=>?_,by rw[Array.map_push]⟩
 all_goals grind
theorem AR.append(h:AR G f a a')(hb:AR G f b b'):AR G f (a++b) (a'++b'):=by
 obtain⟨h1,rfl⟩:=h;obtain⟨h2,rfl⟩:=hb;refine⟨λz hz=>?_,by rw[Array.map_append]⟩
 all_goals grind
theorem AR.extract(h:AR G f a a')(i j:Nat):AR G f (a.extract i j) (a'.extract i j):=by
 obtain⟨h1,rfl⟩:=h;refine⟨λz hz=>h1 z ?_,by rw[Array.map_extract]⟩;obtain⟨k,hk,rfl⟩:=Array.mem_iff_getElem.mp hz;grind
theorem AR.reverse(h:AR G f a a'):AR G f a.reverse a'.reverse:=by
 obtain⟨h1,rfl⟩:=h;exact⟨λz hz=>h1 z (Array.mem_reverse.mp hz),by rw[Array.map_reverse]⟩
theorem AR.swap(h:AR G f a a')(i j:Nat):AR G f (a.swapIfInBounds i j) (a'.swapIfInBounds i j):=by
 obtain⟨h1,rfl⟩:=h;refine⟨λz hz=>?_,?_⟩
 .unfold Array.swapIfInBounds at hz;split at hz
  .split at hz
   .exact h1 z ((Array.swap_perm _ _).mem_iff.mp hz)
   .exact h1 z hz
  .exact h1 z hz
 .apply Array.ext
  .simp
  .intro k hk hk2;unfold Array.swapIfInBounds;by_cases c1:i<a.size
   .by_cases c2:j<a.size
    .simp[c1,c2,Array.getElem_swap];split
     .rfl
     .split<;>rfl
    .simp[c1,c2]
   .simp[c1]
theorem AR.foldl{g g':Array Keyed->γ->Array Keyed}(hg:∀a a' c,AR G f a a'->AR G f (g a c) (g' a' c)):∀(l:List γ){a a':Array Keyed},AR G f a a'->AR G f (l.foldl g a) (l.foldl g' a')
 |[],_,_,h=>h
 |c::l,_,_,h=>AR.foldl hg l (hg _ _ c h)
theorem SR.setArr{st O9:SortSt}{a a':Array Keyed}(h:SR kd DA G f st O9) (ha:AR G f a a'):SR kd DA G f (setArr st a) (setArr O9 a'):=⟨h.k,h.k',ha,h.pend,h.gal,h.fl,h.fl'⟩
theorem Jc(i j:Nat):cE M Γ s s' kd DA G f (λ_ _=>True) (reverseSlice' i j) (reverseSlice' i j):=by
 refine VE λst O9 hs=>hs.setArr ?_;exact AR.foldl (g:=λa k=>a.swapIfInBounds (i+k) (j-1-k)) (λa a' c h=>h.swap _ _) _ hs.arr
theorem Gw(i j:Nat):cE M Γ s s' kd DA G f (λ_ _=>True) (moveDown' i j) (moveDown' i j):=by
 refine VE λst O9 hs=>hs.setArr ?_;exact AR.foldl (g:=λa k=>a.swapIfInBounds (i-k) (i-k-1)) (λa a' c h=>h.swap _ _) _ hs.arr
def Og{β:Type}(R:β->β->Prop):ForInStep β->ForInStep β->Prop
 |.done a,.done a'=>R a a'
 |.yield a,.yield a'=>R a a'
 |_,_=>False
theorem Kc{β:Type}{R:β->β->Prop}{g g':Nat->β->StateT SortSt Sem (ForInStep β)}(h:∀i c c',R c c'->cE M Γ s s' kd DA G f (Og R) (g i c) (g' i c')) :
  ∀(l:List Nat){c c':β},R c c'->cE M Γ s s' kd DA G f R (forIn l c g) (forIn l c' g')
 |[],c,c',hc=>by
  exact j4 hc
 |x::l,c,c',hc=>by
  rw[pB,pB];refine Y2 (h x c c' hc) λr r' hr=>?_;cases r with
  |done b=>
   cases r' with
   |done b'=>exact j4 hr
   |yield b'=>exact hr.elim
  |yield b=>
   cases r' with
   |done b'=>exact hr.elim
   |yield b'=>exact Kc h l hr
theorem WE{R:β->β->Prop}{g g':Nat->β->StateT SortSt Sem (ForInStep β)}{a b:Nat}{c c':β}(hc:R c c') (h:∀i c c',R c c'->cE M Γ s s' kd DA G f (Og R) (g i c) (g' i c')) :
  cE M Γ s s' kd DA G f R (forIn [a:b] c g) (forIn [a:b] c' g'):=by
 rw[UB,UB];exact Kc h _ hc
end
section
variable {kd DA:SortKind}
theorem fE{R:β->β->Prop}{a a':β}(h:R a a'):Og R (.done a) (.done a'):=h
theorem XE{R:β->β->Prop}{a a':β}(h:R a a'):Og R (.yield a) (.yield a'):=h
theorem Yq(T:Dt M Γ s s' kd DA G f less)(lo n:Nat):cE M Γ s s' kd DA G f Eq (countRun' lo n) (countRun' lo n):=by
 rw[countRun'_eq];refine Y2 (R:=Eq) (WE (R:=Eq) rfl λi c c' hc=>?_) λc c' hc=>?_
 .subst hc
  repeat' first
   |exact j4 (fE rfl)
   |exact j4 (XE rfl)
   |dsimp only
   |(refine Y2 (mU T _ _) λr r' hr=>?_;subst hr)
   |(refine dE sC (λ_=>?_) (λ_=>?_))
   |split
 .subst hc
  repeat' first
   |exact j4 rfl
   |exact j4 (fE rfl)
   |exact j4 (XE rfl)
   |dsimp only
   |(refine Y2 (mU T _ _) λr r' hr=>?_;subst hr)
   |(refine Y2 (Jc _ _) λr r' hr=>?_)
   |(refine Y2 WI λr r' hr=>?_)
   |(refine Y2 (R:=Eq) (WE (R:=Eq) rfl λi c c' hc=>?_) λc c' hc=>?_<;>subst hc)
   |(refine dE sC (λ_=>?_) (λ_=>?_))
   |(refine Y2 (R:=Eq) (dE sC (λ_=>?_) (λ_=>?_)) λc c' hc=>?_)
   |split
theorem Ji(T:Dt M Γ s s' kd DA G f less)(lo n ok:Nat):cE M Γ s s' kd DA G f Eq (binarySort' lo n ok) (binarySort' lo n ok):=by
 repeat' first
   |exact j4 rfl
   |exact j4 (fE rfl)
   |exact j4 (XE rfl)
   |dsimp only
   |(refine Y2 (mU T _ _) λr r' hr=>?_;subst hr)
   |(refine Y2 (Gw _ _) λr r' hr=>?_)
   |(refine Y2 (R:=Eq) (WE (R:=Eq) rfl λi c c' hc=>?_) λc c' hc=>?_<;>subst hc)
   |(refine dE sC (λ_=>?_) (λ_=>?_))
   |split
end
section
variable {kd DA:SortKind}
theorem VP{R:α->α->Prop}[Decidable c] {m n m' n':StateT SortSt Sem α}(h1:cE M Γ s s' kd DA G f R m m') (h2:cE M Γ s s' kd DA G f R n n'):cE M Γ s s' kd DA G f R (if c then m else n) (if c then m' else n'):=dE sC (λ_=>h1) λ_=>h2
theorem NY{R:β->β->Prop}{m m':StateT SortSt Sem (Option α)}{g g':Option α->StateT SortSt Sem β}(h:cE M Γ s s' kd DA G f Eq m m') (h0:cE M Γ s s' kd DA G f R (g none) (g' none)) (h1:∀a,cE M Γ s s' kd DA G f R (g (some a)) (g' (some a))):cE M Γ s s' kd DA G f R (m>>=g) (m'>>=g'):=Y2 h λa a' e=>by
 subst e;cases a
 .exact h0
 .exact h1 _
theorem Ki(T:Dt M Γ s s' kd DA G f less)(left:Bool)(hk:KR G f PV zbE)(ha:AR G f a a')(b i:Nat):cE M Γ s s' kd DA G f Eq (beyond' left PV a b i) (beyond' left zbE a' b i):=by
 unfold beyond';refine Y2 (eE ha _) λx x' hx=>?_;refine dE sC (λ_=>lU T hx hk) λ_=>?_;refine Y2 (lU T hk hx) λr r' hr=>?_;subst hr;exact j4 rfl
theorem NJ(T:Dt M Γ s s' kd DA G f less)(left:Bool)(hk:KR G f PV zbE)(ha:AR G f a a')(b n h:Nat):cE M Γ s s' kd DA G f Eq (gallop' left PV a b n h) (gallop' left zbE a' b n h):=by
 rw[gallop'_eq,gallop'_eq]
 repeat' first
   |exact j4 rfl
   |exact j4 (fE rfl)
   |exact j4 (XE rfl)
   |dsimp only
   |(refine Y2 (Ki T _ hk ha _ _) λr r' hr=>?_;subst hr)
   |(refine Y2 (R:=Eq) (WE (R:=Eq) rfl λi c c' hc=>?_) λc c' hc=>?_<;>subst hc)
   |(refine dE sC (λ_=>?_) (λ_=>?_))
   |split
theorem SR.gallop{st O9:SortSt}(h:SR kd DA G f st O9) (g:Nat):SR kd DA G f (setGallop st g) (setGallop O9 g):=⟨h.k,h.k',h.arr,h.pend,rfl,h.fl,h.fl'⟩
theorem Lc(g:Nat):cE M Γ s s' kd DA G f (λ_ _=>True) (setMinGallop' g) (setMinGallop' g):=by
 rw[setMinGallop'_eq];exact VE λst O9 hs=>hs.gallop g
def OR(G:Keyed->Prop)(f:Keyed->Keyed):Option (Array Keyed)->Option (Array Keyed)->Prop
 |none,none=>True
 |some a,some a'=>AR G f a a'
 |_,_=>False
def LR(G:Keyed->Prop)(f:Keyed->Keyed){γ:Type}(c c':Option (Array Keyed)×Array Keyed×γ):Prop:=OR G f c.1 c'.1/\AR G f c.2.1 c'.2.1/\c'.2.2=c.2.2
theorem AR.one(h:KR G f x x'):AR G f #[x] #[x']:=by
 obtain⟨g,rfl⟩:=h;exact⟨λz hz=>by rw[Array.mem_singleton.mp hz];exact g,by simp⟩
theorem LR.start{t:γ}(h:AR G f PB u6):LR G f (none,PB,t) (none,u6,t):=⟨trivial,h,rfl⟩
theorem LR.all{P:(Option (Array Keyed)×Array Keyed×γ)->(Option (Array Keyed)×Array Keyed×γ)->Prop}(k0:∀(PB u6:Array Keyed)(t:γ),AR G f PB u6->P (none,PB,t) (none,u6,t)) (k1:∀(o o':Array Keyed)(PB u6:Array Keyed)(t:γ),AR G f o o'->AR G f PB u6->P (some o,PB,t) (some o',u6,t)) {c c':Option (Array Keyed)×Array Keyed×γ}(hc:LR G f c c'):P c c':=by
 rcases c with⟨_|o,PB,t⟩<;>rcases c' with⟨_|o',u6,t'⟩<;>obtain⟨h1,h4,h5⟩:=hc<;>first|exact h1.elim|(cases h5;first|exact k0 _ _ _ h4|exact k1 _ _ _ _ _ h1 h4)
theorem LR.loop{a b:Nat}{t:γ}{S:β->β->Prop}{g g':Nat->(Option (Array Keyed)×Array Keyed×γ)->StateT SortSt Sem (ForInStep (Option (Array Keyed)×Array Keyed×γ))}{k k':(Option (Array Keyed)×Array Keyed×γ)->StateT SortSt Sem β}(h:AR G f PB u6) (b0:∀i (PB u6:Array Keyed) (t:γ),AR G f PB u6->cE M Γ s s' kd DA G f (Og (LR G f)) (g i (none,PB,t)) (g' i (none,u6,t))) (b1:∀i (o o':Array Keyed) (PB u6:Array Keyed) (t:γ),AR G f o o'->AR G f PB u6->cE M Γ s s' kd DA G f (Og (LR G f)) (g i (some o,PB,t)) (g' i (some o',u6,t))) (k0:∀(PB u6:Array Keyed)(t:γ),AR G f PB u6->cE M Γ s s' kd DA G f S (k (none,PB,t)) (k' (none,u6,t))) (k1:∀(o o':Array Keyed)(PB u6:Array Keyed)(t:γ),AR G f o o'->AR G f PB u6->cE M Γ s s' kd DA G f S (k (some o,PB,t)) (k' (some o',u6,t))):cE M Γ s s' kd DA G f S (forIn [a:b] (none,PB,t) g>>=k) (forIn [a:b] (none,u6,t) g'>>=k'):=Y2 (R:=LR G f) (WE (R:=LR G f) (LR.start h) λi _ _ hc=>LR.all (P:=λc c'=>cE M Γ s s' kd DA G f (Og (LR G f)) (g i c) (g' i c')) (b0 i) (b1 i) hc) λ_ _ hc=>LR.all (P:=λc c'=>cE M Γ s s' kd DA G f S (k c) (k' c')) k0 k1 hc
structure Li where
 (m0:Model) (g0:Ctx) (s0 s1:Shared) (k0 k1:SortKind) (G0:Keyed->Prop) (f0:Keyed->Keyed) (l0:Keyed->Keyed->Bool) (a0 a1 b0 b1:Array Keyed)
abbrev Li.fit(e:Li):Prop:=Dt e.m0 e.g0 e.s0 e.s1 e.k0 e.k1 e.G0 e.f0 e.l0/\AR e.G0 e.f0 e.a0 e.a1/\AR e.G0 e.f0 e.b0 e.b1
instance:Nonempty Li:=⟨⟨model default ⟨λ_ _=>0,{strHash:=λ_=>0,shareClass:=λ_=>0,mergeTok:=id,idOf:=λ_=>0,idOfShared:=λ_ _=>0,followText:=λ_=>false,idOfImm:=λ_=>0}⟩,⟨.call .none ⟨[],[]⟩,none,none,[],none⟩,{},{},oneType',oneType',λ_=>True,id,λ_ _=>true,#[],#[],#[],#[]⟩⟩
def Mc(e:Li):Prop:=cE e.m0 e.g0 e.s0 e.s1 e.k0 e.k1 e.G0 e.f0 (AR e.G0 e.f0) (mergeLo' e.a0 e.b0) (mergeLo' e.a1 e.b1)
@[irreducible] noncomputable def f7:Li:=Classical.epsilon λe=>e.fit/\¬Mc e
theorem zaX(o:f7.fit):Mc f7:=by
 obtain⟨T,ha,hb⟩:=o;unfold Mc;rw[mergeLo'_eq,mergeLo'_eq];refine Y2 WI λr r' hr=>?_;rw[ha.size,hb.size];dsimp only;refine Y2 (eE hb _) λx x' hx=>?_;refine VP (j4 ?_) ?_
 rotate_left
 refine VP (j4 ?_) ?_
 rotate_left
 refine Y2 BH λst O9 RM=>?_;rw[RM.gal];have Pz:∀{γ:Type}{o o':Array Keyed}{PB u6:Array Keyed}{t:γ},AR f7.G0 f7.f0 o o'->AR f7.G0 f7.f0 PB u6->cE f7.m0 f7.g0 f7.s0 f7.s1 f7.k0 f7.k1 f7.G0 f7.f0 (Og (LR f7.G0 f7.f0)) (pure (.done (some o,PB,t))) (pure (.done (some o',u6,t))):=λh1 h2=>j4 (fE ⟨h1,h2,rfl⟩);have Qz:∀{γ:Type}{PB u6:Array Keyed}{t:γ},AR f7.G0 f7.f0 PB u6->cE f7.m0 f7.g0 f7.s0 f7.s1 f7.k0 f7.k1 f7.G0 f7.f0 (Og (LR f7.G0 f7.f0)) (pure (.done (none,PB,t))) (pure (.done (none,u6,t))):=λh2=>j4 (fE ⟨trivial,h2,rfl⟩);have Rz:∀{γ:Type}{PB u6:Array Keyed}{t:γ},AR f7.G0 f7.f0 PB u6->cE f7.m0 f7.g0 f7.s0 f7.s1 f7.k0 f7.k1 f7.G0 f7.f0 (Og (LR f7.G0 f7.f0)) (pure (.yield (none,PB,t))) (pure (.yield (none,u6,t))):=λh2=>j4 (XE ⟨trivial,h2,rfl⟩)
 all_goals repeat' first
   |with_reducible first|assumption|refine AR.append ?_ ?_|refine AR.push ?_ ?_|refine AR.extract ?_ _ _|refine AR.reverse ?_|refine VP ?_ ?_|refine Qz ?_|refine Rz ?_|refine Pz ?_ ?_|refine Y2 (eE (by first|exact ha|exact hb) _) λx x' hx=>?_|refine Y2 (Lc _) λr r' hr=>?_|refine Y2 WI λr r' hr=>?_
   |(with_reducible first|refine NY (lU T (by assumption) (by assumption)) ?_ λb=>?_|refine NY (NJ T _ (by assumption) (by first|exact ha|exact hb) _ _ _) ?_ λb=>?_)<;>dsimp only
   |refine LR.loop ?_ (λi PB u6 t h4=>?_) (λi o o' PB u6 t h1 h4=>?_) (λPB u6 t h4=>?_) (λo o' PB u6 t h1 h4=>?_)<;>try dsimp only
   |with_reducible refine j4 ?_
   |exact AR.one (by assumption)
   |exact UP
theorem zdy(T:Dt M Γ s s' kd DA G f less)(ha:AR G f a a')(hb:AR G f b b'):cE M Γ s s' kd DA G f (AR G f) (mergeLo' a b) (mergeLo' a' b'):=CC λn=>by
 have z:f7.fit/\¬Mc f7:=by
  unfold f7;exact gE (p:=λe=>e.fit/\¬Mc e) ⟨⟨M,Γ,s,s',kd,DA,G,f,less,a,a',b,b'⟩,⟨T,ha,hb⟩,n⟩
 exact z.2 (zaX z.1)
end
end Srt
section
set_option maxHeartbeats 8000000
namespace Srt
open PySem PyProof.Rows
variable {PB u6:Array Keyed}{x y:Nat}{γ:Type}
section
variable {M:Model}{Γ:Ctx}{s s':Shared}{kd DA:SortKind}{G:Keyed->Prop}{f:Keyed->Keyed}{less:Keyed->Keyed->Bool}
def HR(G:Keyed->Prop)(f:Keyed->Keyed){γ:Type}(c c':Option (Array Keyed)×Nat×Nat×Array Keyed×γ):Prop:=OR G f c.1 c'.1/\c'.2.1=c.2.1/\c'.2.2.1=c.2.2.1/\AR G f c.2.2.2.1 c'.2.2.2.1/\c'.2.2.2.2=c.2.2.2.2
theorem HR.start{t:γ}(h:AR G f PB u6):HR G f (none,x,y,PB,t) (none,x,y,u6,t):=⟨trivial,rfl,rfl,h,rfl⟩
theorem HR.all{P:(Option (Array Keyed)×Nat×Nat×Array Keyed×γ)->(Option (Array Keyed)×Nat×Nat×Array Keyed×γ)->Prop}(k0:∀(na nb:Nat)(PB u6:Array Keyed)(t:γ),AR G f PB u6->P (none,na,nb,PB,t) (none,na,nb,u6,t)) (k1:∀(o o':Array Keyed)(na nb:Nat)(PB u6:Array Keyed)(t:γ),AR G f o o'->AR G f PB u6->P (some o,na,nb,PB,t) (some o',na,nb,u6,t)) {c c':Option (Array Keyed)×Nat×Nat×Array Keyed×γ}(hc:HR G f c c'):P c c':=by
 rcases c with⟨_|o,na,nb,PB,t⟩<;>rcases c' with⟨_|o',na',nb',u6,t'⟩<;>obtain⟨h1,e0,e1,h4,h5⟩:=hc<;>first|exact h1.elim|(cases e0;cases e1;cases h5;first|exact k0 _ _ _ _ _ h4|exact k1 _ _ _ _ _ _ _ h1 h4)
theorem HR.loop{β:Type}{a b:Nat}{t:γ}{S:β->β->Prop}{g g':Nat->(Option (Array Keyed)×Nat×Nat×Array Keyed×γ)->StateT SortSt Sem (ForInStep (Option (Array Keyed)×Nat×Nat×Array Keyed×γ))}{k k':(Option (Array Keyed)×Nat×Nat×Array Keyed×γ)->StateT SortSt Sem β}(h:AR G f PB u6) (b0:∀i (na nb:Nat) (PB u6:Array Keyed) (t:γ),AR G f PB u6->cE M Γ s s' kd DA G f (Og (HR G f)) (g i (none,na,nb,PB,t)) (g' i (none,na,nb,u6,t))) (b1:∀i (o o':Array Keyed) (na nb:Nat) (PB u6:Array Keyed) (t:γ),AR G f o o'->AR G f PB u6->cE M Γ s s' kd DA G f (Og (HR G f)) (g i (some o,na,nb,PB,t)) (g' i (some o',na,nb,u6,t))) (k0:∀(na nb:Nat)(PB u6:Array Keyed)(t:γ),AR G f PB u6->cE M Γ s s' kd DA G f S (k (none,na,nb,PB,t)) (k' (none,na,nb,u6,t))) (k1:∀(o o':Array Keyed)(na nb:Nat)(PB u6:Array Keyed)(t:γ),AR G f o o'->AR G f PB u6->cE M Γ s s' kd DA G f S (k (some o,na,nb,PB,t)) (k' (some o',na,nb,u6,t))):cE M Γ s s' kd DA G f S (forIn [a:b] (none,x,y,PB,t) g>>=k) (forIn [a:b] (none,x,y,u6,t) g'>>=k'):=Y2 (R:=HR G f) (WE (R:=HR G f) (HR.start h) λi _ _ hc=>HR.all (P:=λc c'=>cE M Γ s s' kd DA G f (Og (HR G f)) (g i c) (g' i c')) (b0 i) (b1 i) hc) λ_ _ hc=>HR.all (P:=λc c'=>cE M Γ s s' kd DA G f S (k c) (k' c')) k0 k1 hc
def Nc(e:Li):Prop:=cE e.m0 e.g0 e.s0 e.s1 e.k0 e.k1 e.G0 e.f0 (AR e.G0 e.f0) (mergeHi' e.a0 e.b0) (mergeHi' e.a1 e.b1)
@[irreducible] noncomputable def i7:Li:=Classical.epsilon λe=>e.fit/\¬Nc e
theorem zaY(o:i7.fit):Nc i7:=by
 obtain⟨T,ha,hb⟩:=o;unfold Nc;rw[mergeHi'_eq,mergeHi'_eq];refine Y2 WI λr r' hr=>?_;rw[ha.size,hb.size];dsimp only;refine Y2 (eE ha _) λx x' hx=>?_;refine VP (j4 ?_) ?_
 rotate_left
 refine VP (j4 ?_) ?_
 rotate_left
 refine Y2 BH λst O9 RM=>?_;rw[RM.gal];have Pz:∀{γ:Type}{o o':Array Keyed}{x:Nat}{PB u6:Array Keyed}{t:γ}{y:Nat},AR i7.G0 i7.f0 o o'->AR i7.G0 i7.f0 PB u6->cE i7.m0 i7.g0 i7.s0 i7.s1 i7.k0 i7.k1 i7.G0 i7.f0 (Og (HR i7.G0 i7.f0)) (pure (.done (some o,x,y,PB,t))) (pure (.done (some o',x,y,u6,t))):=λh1 h2=>j4 (fE ⟨h1,rfl,rfl,h2,rfl⟩);have Qz:∀{γ:Type}{x y:Nat}{PB u6:Array Keyed}{t:γ},AR i7.G0 i7.f0 PB u6->cE i7.m0 i7.g0 i7.s0 i7.s1 i7.k0 i7.k1 i7.G0 i7.f0 (Og (HR i7.G0 i7.f0)) (pure (.done (none,x,y,PB,t))) (pure (.done (none,x,y,u6,t))):=λh2=>j4 (fE ⟨trivial,rfl,rfl,h2,rfl⟩);have Rz:∀{γ:Type}{x y:Nat}{PB u6:Array Keyed}{t:γ},AR i7.G0 i7.f0 PB u6->cE i7.m0 i7.g0 i7.s0 i7.s1 i7.k0 i7.k1 i7.G0 i7.f0 (Og (HR i7.G0 i7.f0)) (pure (.yield (none,x,y,PB,t))) (pure (.yield (none,x,y,u6,t))):=λh2=>j4 (XE ⟨trivial,rfl,rfl,h2,rfl⟩)
 all_goals repeat' first
   |with_reducible first|assumption|refine AR.append ?_ ?_|refine AR.push ?_ ?_|refine AR.extract ?_ _ _|refine AR.reverse ?_|refine VP ?_ ?_|refine Qz ?_|refine Rz ?_|refine Pz ?_ ?_|refine Y2 (eE (by first|exact ha|exact hb) _) λx x' hx=>?_|refine Y2 (Lc _) λr r' hr=>?_|refine Y2 WI λr r' hr=>?_
   |(with_reducible first|refine NY (lU T (by assumption) (by assumption)) ?_ λb=>?_|refine NY (NJ T _ (by assumption) (by first|exact ha|exact hb) _ _ _) ?_ λb=>?_)<;>dsimp only
   |refine HR.loop ?_ (λi na nb PB u6 t h4=>?_) (λi o o' na nb PB u6 t h1 h4=>?_) (λna nb PB u6 t h4=>?_) (λo o' na nb PB u6 t h1 h4=>?_)<;>try dsimp only
   |with_reducible refine j4 ?_
   |exact AR.one (by assumption)
   |exact UP
theorem zdz(T:Dt M Γ s s' kd DA G f less){a a' b b':Array Keyed}(ha:AR G f a a') (hb:AR G f b b'):cE M Γ s s' kd DA G f (AR G f) (mergeHi' a b) (mergeHi' a' b'):=CC λn=>by
 have z:i7.fit/\¬Nc i7:=by
  unfold i7;exact gE (p:=λe=>e.fit/\¬Nc e) ⟨⟨M,Γ,s,s',kd,DA,G,f,less,a,a',b,b'⟩,⟨T,ha,hb⟩,n⟩
 exact z.2 (zaY z.1)
end
end Srt
end
section
set_option maxHeartbeats 8000000
namespace Srt
open PySem PyProof.Rows
section
variable {M:Model}{Γ:Ctx}{s s':Shared}{kd DA:SortKind}{G:Keyed->Prop}{f:Keyed->Keyed}{less:Keyed->Keyed->Bool}
theorem AR.setB{a a':Array Keyed}{x x':Keyed}(h:AR G f a a') (hx:KR G f x x') (i:Nat):AR G f (a.setIfInBounds i x) (a'.setIfInBounds i x'):=by
 obtain⟨h1,rfl⟩:=h;obtain⟨gx,rfl⟩:=hx;refine⟨λz hz=>?_,?_⟩
 .rcases Array.mem_or_eq_of_mem_setIfInBounds hz with q|q
  all_goals grind
 .rw[Array.map_setIfInBounds]
theorem AR.put{sa:Nat}:∀(l:List (Keyed×Nat)){a a':Array Keyed},(∀z∈l,G z.1)->AR G f a a'->AR G f (l.foldl (λa p=>a.setIfInBounds (sa+p.2) p.1) a) ((l.map λz=>(f z.1,z.2)).foldl (λa p=>a.setIfInBounds (sa+p.2) p.1) a')
 |[],_,_,_,h=>h
 |z::l,_,_,hl,h=>AR.put l (λy hy=>hl y (by simp[hy])) (h.setB ⟨hl z (by simp),rfl⟩ _)
theorem Qm(g:Keyed->Keyed):∀(l:List Keyed)(n:Nat),(l.map g).zipIdx n=(l.zipIdx n).map λz=>(g z.1,z.2)
 |[],_=>rfl
 |x::l,n=>by
  rw[L3,XI,XI,L3,Qm g l]
theorem AR.merged{m m' a a':Array Keyed}(hm:AR G f m m') (h:AR G f a a') (sa:Nat):AR G f (m.toList.zipIdx.foldl (λa p=>a.setIfInBounds (sa+p.2) p.1) a) (m'.toList.zipIdx.foldl (λa p=>a.setIfInBounds (sa+p.2) p.1) a'):=by
 obtain⟨h1,rfl⟩:=hm;rw[RA,Qm];refine AR.put _ (λz hz=>h1 _ ?_) h;grind
theorem SR.setPending{st O9:SortSt}(h:SR kd DA G f st O9) (p:Array (Nat×Nat×Nat)):SR kd DA G f (setPending st p) (setPending O9 p):=⟨h.k,h.k',h.arr,rfl,h.gal,h.fl,h.fl'⟩
theorem Oc(T:Dt M Γ s s' kd DA G f less)(i:Nat):cE M Γ s s' kd DA G f Eq (mergeAt' i) (mergeAt' i):=by
 rw[mergeAt'_eq];refine Y2 BH λst O9 hs=>?_;rw[hs.pend];split
 .refine Y2 (zaW (hs.setPending _)) λr r' hr=>?_;refine Y2 (eE hs.arr _) λx x' hx=>?_;refine Y2 (NJ T _ hx hs.arr _ _ _) λr r' hr=>?_;subst hr;split
  .refine dE sC (λ_=>j4 rfl) (λ_=>?_);refine Y2 (eE hs.arr _) λx x' hx=>?_;refine Y2 (NJ T _ hx hs.arr _ _ _) λr r' hr=>?_;subst hr;split
   .refine dE sC (λ_=>j4 rfl) (λ_=>?_);refine dE sC (λ_=>?_) (λ_=>?_)
    .refine Y2 (zdy T (hs.arr.extract _ _) (hs.arr.extract _ _)) λm m' hm=>?_;refine Y2 (VE λst O9 hs=>hs.setArr (hm.merged hs.arr _)) λr r' hr=>?_;refine Y2 BH λst O9 hs=>?_;refine j4 ?_;rw[hs.fl,hs.fl']
    .refine Y2 (zdz T (hs.arr.extract _ _) (hs.arr.extract _ _)) λm m' hm=>?_;refine Y2 (VE λst O9 hs=>hs.setArr (hm.merged hs.arr _)) λr r' hr=>?_;refine Y2 BH λst O9 hs=>?_;refine j4 ?_;rw[hs.fl,hs.fl']
   .exact j4 rfl
  .exact j4 rfl
 .exact UP
theorem Hw(T:Dt M Γ s s' kd DA G f less):cE M Γ s s' kd DA G f (λ_ _=>True) sortRuns' sortRuns':=by
 rw[sortRuns'_eq];refine Y2 BH λst O9 hs=>?_;rw[hs.arr.size]
 repeat' first
   |exact j4 trivial
   |exact j4 (fE rfl)
   |exact j4 (XE rfl)
   |dsimp only
   |(refine Y2 (Yq T _ _) λr r' hr=>?_;subst hr)
   |(refine Y2 (Ji T _ _ _) λr r' hr=>?_;subst hr)
   |(refine Y2 (Oc T _) λr r' hr=>?_;subst hr)
   |(refine Y2 WI λr r' hr=>?_)
   |(refine Y2 BH λst O9 hs=>?_;rw[hs.pend])
   |(refine Y2 (R:=Eq) (WE (R:=Eq) rfl λi c c' hc=>?_) λc c' hc=>?_<;>subst hc)
   |(refine Y2 (VE λst O9 hs=>by rw[hs.pend];exact hs.setPending _) λr r' hr=>?_)
   |(refine dE sC (λ_=>?_) (λ_=>?_))
   |split
end
end Srt
end
namespace Srt
open PySem PyProof.Rows
variable {Γ:Ctx}{M:Model}{n:Nat}{s:Shared}
def YQ(i:Nat):Obj:=seqObj "tuple" (List.replicate i Value.none).toArray 0
def Pc(n:Nat):Heap:={objs:=((List.range n).map YQ).toArray}
theorem AO{i:Nat}(h:i<n):(Pc n).get? i=some (YQ i):=by
 unfold Pc Heap.get?;have e:(((List.range n).map YQ).toArray)[i]?=some (YQ i):=by
  rw[GE,P1,Z6 h];rfl
 rw[e];rfl
theorem Qc{a:Addr}{xs:Array Value}{o:Obj}(h:s.heap.get? a=some o) (hd:o.data=.seq xs n) (Q:Array Value->Pos->Shared->Prop) (E:Value->Pos->Shared->Prop) (p:Pos) :
  Sem.wp M Γ (Builtin.List.listItems (.ref a)) Q E p s=Q xs p s:=by
 unfold Builtin.List.listItems seqItems?;rw[S6,S6,Sem.wp_load_of _ _ _ _ _ h,hd];rfl
theorem Rm(Q:Bool->Pos->Shared->Prop)(E:Value->Pos->Shared->Prop)(p:Pos):Sem.wp M Γ (eqBool Value.none Value.none) Q E p s=Q true p s:=by
 unfold eqBool;rw[Sem.wp_holding,J0 (by decide),S6];rfl
theorem wp_walk{M:Model}{Γ:Ctx}{s:Shared}{E:Value->Pos->Shared->Prop}{body:(Value×Value)×Nat->Option Bool×Unit->Sem (ForInStep (Option Bool×Unit))}(hb:∀(i:Nat)(R:ForInStep (Option Bool×Unit)->Pos->Shared->Prop)(p:Pos),Sem.wp M Γ (body ((Value.none,Value.none),i) (none,())) R E p s->R (.yield (none,())) p s) :
  ∀(l:List (Value×Value))(i:Nat)(Q:Option Bool×Unit->Pos->Shared->Prop)(p:Pos),(∀z∈l,z=(Value.none,Value.none))->Sem.wp M Γ (forIn (l.zipIdx i) (none,()) body) Q E p s->Q (none,()) p s
 |[],i,Q,p,_,h=>by
  rw[List.zipIdx_nil,mL,zO]at h;exact h
 |z::l,i,Q,p,hz,h=>by
  obtain rfl:=hz z (by simp);rw[XI,pB,S6]at h;have h2:=hb i _ p h;exact wp_walk hb l (i+1) Q p (λy hy=>hz y (by simp[hy])) h2
theorem zaZ{x y:Nat}{b:Bool}(hs:s.heap=Pc n) (hx:x<n) (hy:y<n) (Q:Bool->Pos->Shared->Prop) (E:Value->Pos->Shared->Prop) (p:Pos)
 (h:Sem.wp M Γ (keyLt' (tuples' b) (.ref x) (.ref y)) Q E p s):Q (decide (x<y)) p s:=by
  have gx:s.heap.get? x=some (YQ x):=by rw[hs];exact AO hx
  have gy:s.heap.get? y=some (YQ y):=by rw[hs];exact AO hy
  rw[kat_lt_eq,S6,Qc gx rfl,S6,Qc gy rfl,S6]at h;have h2:=wp_walk (s:=s) (E:=E) (λi R p h=>?_) _ 0 _ p ?_ h
  .have h3:Sem.wp M Γ (pure (decide ((List.replicate x Value.none).toArray.size<(List.replicate y Value.none).toArray.size))) Q E p s:=h2;rw[zO,K1,K1,i6,i6]at h3;exact h3
  .rw[S6,Rm]at h;exact h
  .intro z hz;have m1:=(gA hz).1;have m2:=(gA hz).2;have e1:=yA m1;have e2:=yA m2;exact ON e1 e2
end Srt
namespace Srt
open PySem PyProof.Rows PySem.W
variable {less:Keyed->Keyed->Bool}{n:Nat}{α:Type}
def rank(less:Keyed->Keyed->Bool)(l:List Keyed)(x:Keyed):Nat:=(l.filter λz=>less z x).length
theorem WP{α:Type}{p q:α->Bool}:∀{l:List α},(∀z∈l,p z=true->q z=true)->(l.filter p).length<=(l.filter q).length
 |[],_=>j1 _
 |a::l,h=>by
  have ih:=WP (l:=l) λz hz=>h z (by simp[hz]);rw[Y5,Y5];by_cases c:p a=true
  .rw[J0 c,J0 (h a (by simp) c),N1,N1]
   lia
  .rw[D0 c];by_cases d:q a=true
   .rw[J0 d,N1]
    lia
   .rw[D0 d];exact ih
theorem tX{α:Type}{p q:α->Bool}:∀{l:List α},(∀z∈l,p z=true->q z=true)->∀{x:α},x∈l->p x=false->q x=true->(l.filter p).length<(l.filter q).length
 |[],_,_,hx,_,_=>nomatch hx
 |a::l,h,x,hx,px,qx=>by
  have hl:∀z∈l,p z=true->q z=true:=λz hz=>h z (by simp[hz]);rw[Y5,Y5];by_cases e:x=a
  .subst e;rw[D0 (by rw[px];decide),J0 qx,N1];have:=WP hl
   lia
  .have Pt:x∈l:=by
    rcases S1.mp hx with q|q
    .exact absurd q e
    .exact q
   have ih:=tX hl Pt px qx;by_cases c:p a=true
   .rw[J0 c,J0 (h a (by simp) c),N1,N1]
    lia
   .rw[D0 c];by_cases d:q a=true
    .rw[J0 d,N1]
     lia
    .rw[D0 d];exact ih
structure Ord(less:Keyed->Keyed->Bool)(l:List Keyed):Prop where
 irr:∀x∈l,less x x=false
 tr:∀x∈l,∀y∈l,∀z∈l,less x y=true->less y z=true->less x z=true
 neg:∀x∈l,∀y∈l,∀z∈l,less x z=true->less x y=true\/less y z=true
theorem KS{l:List Keyed}(O:Ord less l) {x y:Keyed}(hx:x∈l) (hy:y∈l):less x y=decide (rank less l x<rank less l y):=by
 cases h:less x y with
 |true=>
  refine(F1 ?_).symm;exact tX (λz hz q=>O.tr z hz x hx y hy q h) hx (O.irr x hx) h
 |false=>
  refine(Y0 ?_).symm;have:=WP (p:=λz=>less z y) (q:=λz=>less z x) (l:=l) λz hz q=>by
   rcases O.neg z hz x hx y hy q with r|r
   .exact r
   .rw[h]at r;cases r
  unfold rank
  lia
theorem OY(less:Keyed->Keyed->Bool)(l:List Keyed)(x:Keyed):rank less l x<l.length+1:=by
 have:=E8 (λz=>less z x) l;unfold rank
 lia
@[reducible] def CH (n:Nat):PyProof.Rows.KeyKind where
 α:=Nat
 blt a b:=decide (a<b)
 irrefl a:=Y0 (L5 a)
 trans a b c h1 h2:=F1 (WD (d5 h1) (d5 h2))
 negTrans a b c h:=by
  have:=d5 h;by_cases q:a<b
  .exact .inl (F1 q)
  .exact .inr (F1 (by lia))
 total a b h1 h2:=by
  have:=K6 h1;have:=K6 h2
  lia
 keyOf v:=match v with
  |.ref r=>if r<n then some r else none
  |_=>none
 dflt:=0
theorem Iw{r:Nat}{v:Value}(h:(CH n).keyOf v=some r):v=.ref r/\r<n:=by
 cases v with
 |ref a=>
  have h:(if a<n then some a else none)=some r:=h;by_cases c:a<n
  .rw[J0 c]at h;obtain rfl:=M0 h;exact⟨rfl,c⟩
  .rw[D0 c]at h;cases h
 |_=>cases h
section
variable {prog:Program}{w:World}{A:Around}{E:Value->Shared->Prop}{s:Shared}
theorem uX{b fin:Bool}{Q:Bool->Shared->Prop}:∀(l:List (Value×Value))(i:Nat),(∀z∈l,z=(Value.none,Value.none))->Q fin s->KatLex prog w A b fin Q l i s
 |[],_,_,h=>kat_nil h
 |z::l,i,hz,h=>by
  obtain rfl:=hz z (by simp);refine kat_cons λΓ p hΓ=>?_;rw[Rm];exact kat_yes (uX l (i+1) (λy hy=>hz y (by simp[hy])) h)
theorem Jw(hs:s.heap=Pc n):G.LtAt prog w s (CH n) (tuples' true):=by
 intro A E x y a b Q hx hy hq;obtain⟨rfl,ha⟩:=Iw hx;obtain⟨rfl,hb⟩:=Iw hy;have gx:s.heap.get? a=some (YQ a):=by rw[hs];exact AO ha
 have gy:s.heap.get? b=some (YQ b):=by rw[hs];exact AO hb
 refine kat_lt gx rfl gy rfl (uX _ 0 (λz hz=>?_) ?_)
 .have m1:=(gA hz).1;have m2:=(gA hz).2;exact ON (yA m1) (yA m2)
 .have e:decide ((List.replicate a Value.none).toArray.size<(List.replicate b Value.none).toArray.size)=decide (a<b):=by
   rw[K1,K1,i6,i6]
  rw[e];exact hq
theorem sort_at{kd:SortKind}{a₀:Array Keyed}{Q:Unit->SortSt->Prop}(O:Ord less a₀.toList)
 (real:∀x∈a₀.toList,∀y∈a₀.toList,∀(E:Value->Shared->Prop)(Q:Bool->Shared->Prop),Q (less x y) s->wpAny (model prog w) A (keyLt' kd x.1 y.1) Q E s) (h2:2<=a₀.size)
 (h:∀O9,((arrOf O9).toList.map (·.2)).Perm (a₀.toList.map (·.2))->(∀x∈(arrOf O9).toList,x∈a₀.toList)->failedOf O9=none->((arrOf O9).toList.Pairwise λx y=>less y x=false)->Q () O9) :
   wpS (model prog w) A E s sortRuns' Q (SortSt.mk' kd a₀ #[] 7 none):=by
  intro Γ p hΓ
  let f:Keyed->Keyed:=λx=>(.ref (rank less a₀.toList x),x.2)
  let n:=a₀.toList.length+1
  let s':Shared:={s with heap:=Pc n}
  have kf:∀x,(CH n).keyOf (f x).1=some (rank less a₀.toList x):=λx=>J0 (OY less a₀.toList x);have T:Dt (model prog w) Γ s s' kd (tuples' true) (λx=>x∈a₀.toList) f less:=by
   refine⟨λx y hx hy Q E p q=>?_,λx y hx hy Q E p q=>?_⟩
   .have z:=real x hx y hy (λ_ _=>False) Q q Γ p hΓ;exact DL _ Γ _ (λ_ _ _ q=>q) (λ_ _ _ q=>q.elim) p s z
   .refine⟨p,?_⟩;rw[KS O hx hy];exact zaZ (n:=n) rfl (OY less a₀.toList x) (OY less a₀.toList y) Q E p q
  have fk:=G.wpS_sortRunsSt (prog:=prog) (w:=w) (A:=A) (E:=λ_ _=>False) (s:=s') (κ:=CH n) (kd:=tuples' true) (a₀:=a₀.map f) (st:=SortSt.mk' (tuples' true) (a₀.map f) #[] 7 none)
   (Q:=λ_ O9=>(arrOf O9).Perm (a₀.map f)/\SortedToK (CH n) (arrOf O9) (a₀.map f).size) (Jw rfl) (λq hq=>?_) ⟨Array.Perm.refl _,rfl,rfl⟩ rfl (Stable.refl _) (by rw[MG];exact h2) λO9 p1 _ p3 _=>⟨p1,p3⟩
  .have w1:=Hw T (SortSt.mk' kd a₀ #[] 7 none) (SortSt.mk' (tuples' true) (a₀.map f) #[] 7 none) ⟨rfl,rfl,⟨λx hx=>Array.mem_def.mp hx,rfl⟩,rfl,rfl,rfl,rfl⟩ _ _ p (fk Γ p hΓ) (λe _ s1=>E e s1) p;refine DL _ Γ _ ?_ (λ_ _ _ q=>q) p s w1;rintro⟨u,Lg⟩ p1 s1 ⟨rfl,⟨u',Ts⟩,p2,_,sr,_,pm,so⟩;obtain⟨g1,g2⟩:=sr.arr;refine⟨rfl,h Lg ?_ (λx hx=>g1 x (Array.mem_def.mpr hx)) sr.fl ?_⟩
   .have z:(arrOf Ts).Perm (a₀.map f):=pm;rw[g2]at z;have z2:=(NG.mp z).map (·.2);rw[RA,RA,B3,B3]at z2;exact z2
   .have so:SortedToK (CH n) (arrOf Ts) (a₀.map f).size:=so;have sz:(arrOf Lg).size=(a₀.map f).size:=by
     have z:(arrOf Ts).Perm (a₀.map f):=pm;rw[<-z.size_eq,g2,MG]
    rw[cA];intro i j hi hj hij;have hi':i<(arrOf Lg).size:=by simpa using hi
    have Nz:j<(arrOf Lg).size:=by simpa using hj
    have z:=so i j (by lia) (by rw[<-sz];exact Nz);have e:∀k (hk:k<(arrOf Lg).size),KK (CH n) (arrOf Ts) k=rank less a₀.toList (arrOf Lg)[k]:=λk hk=>by
     unfold KK;rw[g2,Array.getElem?_map,Array.getElem?_eq_getElem hk];show((CH n).keyOf (f (arrOf Lg)[k]).1).getD _=_;rw[kf];rfl
    rw[e i hi',e j Nz]at z;have z:decide (rank less a₀.toList (arrOf Lg)[j]<rank less a₀.toList (arrOf Lg)[i])=false:=z;rw[<-KS O (g1 _ (Array.getElem_mem Nz)) (g1 _ (Array.getElem_mem hi'))]at z;rw[Array.getElem_toList,Array.getElem_toList];exact z
  .rw[RA]at hq;obtain⟨x,_,rfl⟩:=S2.mp hq;exact⟨_,kf x⟩
end
end Srt
namespace L2
open PySem PySem.Spec PyProof.Rows
section
variable {X:Cx}{pins:List (Addr×Obj)}{σ:St}{H:Hp}{s:Shared}{a:Addr}{d:V}{u r:Value}{kvs:List (YC×V)}{k:YC}{A:Around}{E:Value->Shared->Prop}
theorem Kw{Q:Value->Shared->Prop}(I:V2 X pins σ H s) (e:H a=some (.dK kvs)) (ry:T4 (kV k) u) (rd:T4 d r) (hz:kvs.length<sizeLine)
  (h1:∀v w' s',a9 kvs k=some v->V2 X pins σ H s'->T4 v w'->Q w' s') (h2:a9 kvs k=none->∀s',V2 X pins σ (upd H a (.dK (nF kvs k d))) s'->Q r s') :
  wpAny (model X.prog X.w) A (call (.builtin "dict.setdefault") [.ref a,u,r]) Q E s:=by
 obtain⟨z,hd,vs,AS,dd⟩:=zbY I.hok e;refine XN IF dd.typeIs PySem.F.entry_dict_setdefault (PySem.F.args_dict_setdefault_3 _ _ _) (kt_meets_setdefault (X9 X.prog X.w) a (WW ry) hd r)
  ⟨vs,dd,by rw[<-AS.length];exact z,λv hv=>?_,λhn h' dd' hs=>?_⟩
 .cases q:a9 kvs k with
  |none=>
   have:=wG.none_of (o:=valueAt vs k) (by rw[<-q];exact AS.val k);rw[this]at hv;cases hv
  |some v'=>
   obtain⟨w',hw,WZ⟩:=wG.some_of (v:=v') (o:=valueAt vs k) (by rw[<-q];exact AS.val k);rw[hw]at hv;obtain rfl:=M0 hv;exact h1 v' _ _ q (I.tok _) WZ
 .have hv:a9 kvs k=none:=by
   cases q:a9 kvs k with
   |none=>rfl
   |some v'=>
    obtain⟨w',hw,_⟩:=wG.some_of (v:=v') (o:=valueAt vs k) (by rw[<-q];exact AS.val k);rw[hw]at hn;cases hn
  have he:∃q,h'.get? a=some q:=let ⟨q,_,_,hq,_⟩:=dd';⟨q,hq⟩
  refine h2 hv _ (zY I (by rw[e];exact g9) hs he (Vu ?_ hd (AS.put k rd) dd'));have:=CD kvs k d
  lia
end
def zdA(td ty tx:TE):TE:=λσ H Q=>td σ H λx H1=>∃a,x=.ref a/\IsD H1 a/\ty σ H1 λy H2=>tx σ H2 λz H3=>∃kvs k,H3 a=some (.dK kvs)/\y=kV k/\kvs.length<sizeLine/\
 (∀v,a9 kvs k=some v->Q v H3)/\(a9 kvs k=none->Q z (upd H3 a (.dK (nF kvs k z))))
section
variable {X:Cx}{o e f:Expr}{yE QF:Pos}{td ty tx:TE}
theorem Lw(ho:PE X o td)(he:PE X e ty)(hf:PE X f tx)(m:M2 X o "setdefault" yE e f QF):PE X (.Call (.Attribute o "setdefault" yE) [e,f] [] QF) (zdA td ty tx):=by
 intro pins s σ H Q I h;refine wpAny_Call_method m.base m.few m.line HI IF PySem.F.type_dict_setdefault (n8 (ho pins s σ H _ I h) λu s1 ⟨x,H1,I1,rx,a,ex,d,q1⟩=>?_);subst ex;obtain rfl:u=Value.ref a:=rx;obtain⟨t1,t2,_⟩:=Zu I1 d;refine⟨t1,t2,?_⟩;rw[m.trees];refine gB rfl (mF (eB (n8 (he pins s1 σ H1 _ I1 q1) λiv s2 ⟨y,H2,I2,ry,q2⟩=>
  eB (n8 (hf pins s2 σ H2 _ I2 q2) λfv s3 ⟨z,H3,I3,rz,kvs,k,e3,ey,hz,q3,q4⟩=>uH ?_))))
 subst ey;exact Kw I3 e3 ry rz hz (λv w' s4 hv I4 WZ=>⟨_,H3,I4,WZ,q3 v hv⟩) λhn s4 I4=>⟨_,_,I4,rz,q4 hn⟩
end
inductive Mw(Q:VK)(x:V)(H1:Hp):Prop
 |mk (i:_):x=.int i->Q (.int (Builtin.Int.intBits i)) H1->Mw Q x H1
def zfP(to:TE):TE:=λσ H Q=>to σ H (Mw Q)
theorem Sm{X:Cx}{o:Expr}{to:TE}{yE pos:Pos}(ho:PE X o to)
  (Jg:attributeBase o "bit_length" X.env (eval o X.env)=eval o X.env:=by rfl) (TM:(yE.endLine==pos.line)=true:=by rfl):PE X (.Call (.Attribute o "bit_length" yE) [] [] pos) (zfP to):=by
 intro pins s σ H Q I h;refine PySem.Call_method0 Jg TM (n8 (ho pins s σ H _ I h) λv s1 ⟨x,H1,I1,r1,q1⟩=>?_);obtain⟨i,rfl,q1⟩:=q1;obtain⟨t,rfl⟩:=_root_.id r1;exact⟨"int",_,F.plainAttrs_int,F.slot_int_bit_length,F.type_int_bit_length,VM _ _ _,(λ_ e=>nomatch e),gB rfl (PySem.evalArgs_none (call_int_bit_length ⟨.int _,H1,I1.tok _,⟨_,rfl⟩,q1⟩))⟩
end L2
namespace HT
open PySem PyProof.Rows
def RcLt(A:Around)(s:Shared)(y x:Value)(b:Bool):Prop:=∀(prog:Program)(w:World)(E:Value->Shared->Prop)(Q:Value->Shared->Prop),Q (.bool b) s->wpAny (model prog w) A (richCompare .Lt y x) Q E s
def LtAsk(A:Around)(s:Shared)(fin:Bool):List (Value×Value)->Bool->Prop
 |[],c=>c=fin
 |(y,x)::r,c=>∃e,SeqAt.EqAt A s y x e/\(e=true->LtAsk A s fin r c)/\(e=false->RcLt A s y x c)
section
open PySem.SeqAt
open PySem.AutoSeq1 (wpAny_loadPart')
open PySem.MeetsSeq PySem.MeetsSeq2 PySem.MeetsSeq3
theorem PY(l b:Addr)(items u7:Array Value)(n n2:Nat)(dd Tg:Option Addr)(sl Ug:Array (Option Value))(c:Bool) :
  Meets (Builtin.«tuple.__lt__» ⟨[.ref l,.ref b],[]⟩)
   (λA R s=>s.heap.get? l=some {cls:=.type "tuple",dict:=dd,data:=.seq items n,slots:=sl}/\s.heap.get? b=some {cls:=.type "tuple",dict:=Tg,data:=.seq u7 n2,slots:=Ug}/\
     LtAsk A.in1 s (decide (items.size<u7.size)) (items.toList.zip u7.toList) c/\R (.ok (.ret (.bool c))) s):=
 .of_wp λprog w A R s h=>by
  obtain⟨hp,g,d,tk,os⟩:=s;obtain⟨hl,hb,ha,h⟩:=h;have f2:=OC
  wp_walk using wpAny_loadPart' hl,wpAny_loadPart' hb,zI _ (λY7 b s'=>b.1=none/\s'=⟨hp,g,d,tk,os⟩/\LtAsk A.in1 ⟨hp,g,d,tk,os⟩ (decide (items.size<u7.size)) Y7 c) _
  case turn=>
   rintro⟨y,x⟩ Y7 b s' ⟨BP,rfl,e,he,h1,h2⟩;refine z0 (he prog w _ _ ?_);cases e with
   |true=>
    wp_walk
    exact⟨rfl,rfl,h1 rfl⟩
   |false=>
    have hri:=h2 rfl prog w
    wp_walk using hri
    exact⟨_,rfl,by simpa using h⟩
  case fin=>
   rintro⟨b1,b2⟩ s' ⟨BP,rfl,hc⟩;simp only at BP;subst BP;have hc:c=decide (items.size<u7.size):=hc;rw[hc]at h
   wp_walk
   exact⟨_,rfl,by simpa[Builtin.Tuple.tupleCompareSizes]using h⟩
  case h=>
   exact⟨rfl,rfl,ha⟩
end
section
variable {prog:Program}{w:World}{A:Around}{E:Value->Shared->Prop}{s:Shared}
theorem lt_tupAsk{l b:Addr}{items u7:Array Value}{c:Bool}{Q:Value->Shared->Prop}(hl:IsTup s.heap l items) (hb:IsTup s.heap b u7) (ha:LtAsk A.in1 s (decide (items.size<u7.size)) (items.toList.zip u7.toList) c)
  (hu:A.units<cLine) (h:Q (.bool c) s):wpAny (model prog w) A (compareOp .Lt (.ref l) (.ref b)) Q E s:=by
 obtain⟨⟨cls,dd,data,sl⟩,ho,hc,n,hd⟩:=id hl;obtain⟨⟨zbx,Tg,data2,Ug⟩,jY,VZ,n2,HW⟩:=id hb;simp only at hc hd VZ HW;subst hc hd VZ HW;exact OD (op:=.Lt) ⟨_,ho,rfl⟩ ⟨_,jY,rfl⟩ DK xJ (AI _ _) (PY l b items u7 n n2 dd Tg sl Ug c)
  ⟨ho,jY,ha,show Value.bool c≠Value.notImplemented/\Q (.bool c) s from⟨(λx=>nomatch x),h⟩⟩ hu
end
end HT
namespace L2
open PySem PySem.Spec PyProof.Rows
variable {a:Addr}{A:Around}{X:Cx}{H H':Hp}{ns:List Int}{K:Frag}{v v':V}{u u':Value}
abbrev KI:=Int ⊕ List Int
variable {x y:KI}
def WH:KI->KI->Bool
 |.inl i,.inl j=>decide (i<j)
 |.inr a,.inr b=>HT.lexLt a b
 |_,_=>false
def tG:List KI->List KI->Bool
 |[],[]=>false
 |[],_::_=>true
 |_::_,[]=>false
 |x::xs,y::ys=>if x=y then tG xs ys else WH x y
def XH:List KI->List KI->Prop
 |[],[]=>True
 |.inl _::xs,.inl _::ys=>XH xs ys
 |.inr _::xs,.inr _::ys=>XH xs ys
 |_,_=>False
def EL(K:Frag)(H:Hp):KI->V->Prop
 |.inl i,v=>v=.int i
 |.inr ns,v=>∃r,v=.ref r/\eA K H r (ns.map V.int)
def IC(K:Frag)(H:Hp)(k:List KI)(v:V):Prop:=∃t xs,v=.ref t/\eA K H t xs/\Paired (EL K H) k xs
theorem zfQ{xs:List V}(e:Same H H') (h:eA K H a xs):eA K H' a xs:=by
 rcases h with h|h
 .rcases h with h|⟨o,h⟩
  .exact .inl (.inl (e _ _ h))
  .exact .inl (.inr ⟨o,e _ _ h⟩)
 .exact .inr h
theorem EL.same{k:KI}(s:Same H H') (h:EL K H k v):EL K H' k v:=by
 cases k with
 |inl i=>exact h
 |inr ns=>obtain⟨r,e,q⟩:=h;exact⟨r,e,zfQ s q⟩
theorem IC.same{k:List KI}(s:Same H H') (h:IC K H k v):IC K H' k v:=by
 obtain⟨t,xs,e,h1,h2⟩:=h;exact⟨t,xs,e,zfQ s h1,Paired.mapP h2 λ_ _ q=>EL.same s q⟩
section
variable {pins:List (Addr×Obj)}{σ:St}{s:Shared}
theorem vX(I:V2 X pins σ H s)(h:eA X.K H a (ns.map V.int))(prog:Program)(w:World):IsTupleKey (X9 prog w) s.heap (ns.map Sum.inl) a:=by
 obtain⟨its,r,⟨o,h1,h2,n,h3⟩,_⟩:=I.tuple h;refine⟨o,its.toArray,n,h1,h2,h3,?_⟩;have e:ns.map V.int=((ns.map Sum.inl:List YC).map kV):=by
  rw[B3];rfl
 rw[e]at r;simpa using NP r
theorem za0{ms:List Int}:(ns.map Sum.inl:List YC)=ms.map Sum.inl↔ns=ms:=⟨λh=>kD (λ_ _ q=>uA q) |>.mp h,λh=>by rw[h]⟩
theorem zb5(I:V2 X pins σ H s)(hu:A.units<cLine)(hx:EL X.K H x v)(hy:EL X.K H y v')(r:T4 v u)(r':T4 v' u')(f:XH [x] [y]):SeqAt.EqAt A s u u' (decide (x=y)):=by
 cases x with
 |inl i=>
  cases y with
  |inl j=>
   cases hx;cases hy;obtain⟨t,rfl⟩:=r;obtain⟨t',rfl⟩:=r';have z:=DG (A:=A) (s:=s) i t j t';rw[show decide ((Sum.inl i:KI)=Sum.inl j)=(i==j) by rw[d3,O0,O4];exact⟨uA,λq=>by rw[q]⟩];exact z
  |inr b=>exact f.elim
 |inr a=>
  cases y with
  |inl j=>exact f.elim
  |inr b=>
   obtain⟨p,rfl,h1⟩:=hx;obtain⟨q,rfl,h2⟩:=hy;cases r;cases r';intro prog w E Q hq;refine wpAny_eqBool_tuple hu (vX I h1 prog w) (vX I h2 prog w) ?_;rw[show decide ((a.map Sum.inl:List YC)=b.map Sum.inl)=decide ((Sum.inr a:KI)=Sum.inr b)from S3.mpr ⟨λz=>by rw[za0.mp z],λz=>by rw[Sum.inr.inj z]⟩];exact hq
theorem zb6(I:V2 X pins σ H s)(hu:A.units<cLine)(hx:EL X.K H x v)(hy:EL X.K H y v')(r:T4 v u)(r':T4 v' u')(f:XH [x] [y]):HT.RcLt A s u u' (WH x y):=by
 cases x with
 |inl i=>
  cases y with
  |inl j=>
   cases hx;cases hy;obtain⟨t,rfl⟩:=r;obtain⟨t',rfl⟩:=r';exact λprog w E Q h=>HT.rcLt_int A s i t j t' prog w E Q h
  |inr b=>exact f.elim
 |inr a=>
  cases y with
  |inl j=>exact f.elim
  |inr b=>
   obtain⟨p,rfl,h1⟩:=hx;obtain⟨q,rfl,h2⟩:=hy;cases r;cases r';intro prog w E Q hq;obtain⟨its,r1,p1,_⟩:=I.tuple h1;obtain⟨aL,r2,p2,_⟩:=I.tuple h2;have i1:IntsAre its.toArray.toList a:=yJ r1;have i2:IntsAre aL.toArray.toList b:=yJ r2;exact(HT.lt_tupInts p1 p2 i1 i2 hu hq:wpAny (model prog w) A (compareOp .Lt (.ref p) (.ref q)) Q E s)
theorem XH.hd{xs ys:List KI}(h:XH (x::xs) (y::ys)):XH [x] [y]/\XH xs ys:=by
 cases x<;>cases y
 .exact⟨trivial,h⟩
 .exact h.elim
 .exact h.elim
 .exact⟨trivial,h⟩
theorem XH.len:∀{xs ys:List KI},XH xs ys->xs.length=ys.length
 |[],[],_=>rfl
 |[],_::_,h=>by cases h
 |x::xs,[],h=>by cases x<;>cases h
 |x::xs,y::ys,h=>by rw[N1,N1,XH.len h.hd.2]
theorem zdB(I:V2 X pins σ H s)(hu:A.units<cLine):∀{ks ms:List KI}{xs ys:List V}{us ws:List Value},XH ks ms->Paired (EL X.K H) ks xs->Paired (EL X.K H) ms ys->D4 xs us->D4 ys ws->HT.LtAsk A s false (us.zip ws) (tG ks ms):=by
 intro ks
 induction ks with
 |nil=>
  intro ms xs ys us ws f p1 p2 q1 q2;cases ms with
  |nil=>
   cases p1;cases q1;rfl
  |cons=>cases f
 |cons x ks ih=>
  intro ms xs ys us ws f p1 p2 q1 q2;cases ms with
  |nil=>cases x<;>cases f
  |cons y ms=>
   rcases p1 with _|⟨h1,p1⟩;rcases p2 with _|⟨h2,p2⟩;rcases q1 with _|⟨r1,q1⟩;rcases q2 with _|⟨r2,q2⟩;refine⟨decide (x=y),zb5 I hu h1 h2 r1 r2 f.hd.1,λe=>?_,λe=>?_⟩
   .have e:=d5 e;show HT.LtAsk A s false _ (if x=y then tG ks ms else WH x y);rw[J0 e];exact ih f.hd.2 p1 p2 q1 q2
   .have e:=K6 e;show HT.RcLt A s _ _ (if x=y then tG ks ms else WH x y);rw[D0 e];exact zb6 I hu h1 h2 r1 r2 f.hd.1
theorem Um{k m:List KI}{E:Value->Shared->Prop}{Q:Value->Shared->Prop}(I:V2 X pins σ H s) (hu:A.units+1<cLine) (f:XH k m) (h1:IC X.K H k v) (h2:IC X.K H m v') (r:T4 v u) (r':T4 v' u') (h:Q (.bool (tG k m)) s) :
  wpAny (model X.prog X.w) A (compareOp .Lt u u') Q E s:=by
 obtain⟨t,xs,rfl,s1,p1⟩:=h1;obtain⟨t',ys,rfl,s2,p2⟩:=h2;cases r;cases r';obtain⟨its,q1,z1,_⟩:=I.tuple s1;obtain⟨aL,q2,z2,_⟩:=I.tuple s2;have e:decide (its.toArray.size<aL.toArray.size)=false:=by
  rw[K1,K1,<-q1.length,<-q2.length,<-J1 p1,<-J1 p2,f.len];exact Y0 (L5 _)
 refine HT.lt_tupAsk z1 z2 ?_ (by lia) h;rw[e];exact zdB (A:=A.in1) I (by show A.units+1<cLine;exact hu) f p1 p2 q1 q2
inductive zfR(K:Frag)(x:V)(y:V)(H:Hp)(Q:VK):Prop
 |mk (k m:_):XH k m->IC K H k x->IC K H m y->Q (.bl (tG k m)) H->zfR K x y H Q
end
theorem zdC(hu:X.A.units+64<cLine):vJ X (compareOp .Lt) (zfR X.K):=by
 intro pins s σ H x y v u Q I rx ry h;obtain⟨k,m,f,h1,h2,q⟩:=h;exact Um I (by lia) f h1 h2 rx ry ⟨.bl (tG k m),H,I,rfl,q⟩
end L2
namespace HT
theorem lexLt_irr:∀a:List Int,lexLt a a=false
 |[]=>rfl
 |x::a=>by rw[lexLt_cons,J0 rfl,lexLt_irr a]
theorem lexLt_tr:∀{a b c:List Int},lexLt a b=true->lexLt b c=true->lexLt a c=true
 |[],[],_,h,_=>by cases h
 |[],_::_,[],_,h=>by cases h
 |[],_::_,_::_,_,_=>rfl
 |_::_,[],_,h,_=>by cases h
 |_::_,_::_,[],_,h=>by cases h
 |x::a,y::b,z::c,h1,h2=>by
  rw[lexLt_cons]at h1 h2 ⊢;by_cases e1:x=y
  .subst e1;rw[J0 rfl]at h1;by_cases e2:x=z
   .subst e2;rw[J0 rfl]at h2 ⊢;exact lexLt_tr h1 h2
   .rw[D0 e2]at h2 ⊢;exact h2
  .rw[D0 e1,O0]at h1;by_cases e2:y=z
   .subst e2;rw[D0 e1,O0];exact h1
   .rw[D0 e2,O0]at h2;rw[D0 (by lia),O0]
    lia
theorem lexLt_neg:∀{a b c:List Int},lexLt a c=true->lexLt a b=true\/lexLt b c=true
 |[],[],_,h=>.inr h
 |[],_::_,_,_=>.inl rfl
 |_::_,_,[],h=>by cases h
 |_::_,[],_::_,_=>.inr rfl
 |x::a,y::b,z::c,h=>by
  rw[lexLt_cons]at h ⊢;rw[lexLt_cons];by_cases e:x=z
  .subst e;rw[J0 rfl]at h;by_cases e1:x=y
   .subst e1;rw[J0 rfl,J0 rfl];exact lexLt_neg h
   .rw[D0 e1,D0 (λq=>e1 q.symm),O0,O0]
    lia
  .rw[D0 e,O0]at h;by_cases e1:x=y
   .subst e1;right;rw[D0 e,O0];exact h
   .rw[D0 e1,O0];by_cases e2:y=z
    .subst e2;left
     lia
    .rw[D0 e2,O0]
     lia
end HT
namespace L2
open PySem PySem.Spec PyProof.Rows
theorem Nw(a:KI):WH a a=false:=by
 cases a with
 |inl i=>exact Y0 (Int.lt_irrefl i)
 |inr a=>exact HT.lexLt_irr a
theorem za1{a b c:KI}(h1:WH a b=true) (h2:WH b c=true):WH a c=true:=by
 cases a<;>cases b<;>cases c<;>first|cases h1|cases h2|skip
 .have h1:=d5 h1;have h2:=d5 h2;exact F1 (by lia)
 .exact HT.lexLt_tr h1 h2
theorem Ow:∀{a b c:KI},XH [a] [b]->WH a c=true->WH a b=true\/WH b c=true
 |.inl i,.inl j,.inl k,_,h=>by
  have h:=d5 h;by_cases q:i<j
  .exact .inl (F1 q)
  .exact .inr (F1 (by lia))
 |.inr _,.inr _,.inr _,_,h=>HT.lexLt_neg h
 |.inl _,.inr _,_,f,_=>f.elim
 |.inr _,.inl _,_,f,_=>f.elim
 |.inl _,.inl _,.inr _,_,h=>by cases h
 |.inr _,.inr _,.inl _,_,h=>by cases h
theorem LS:∀a:List KI,tG a a=false
 |[]=>rfl
 |x::a=>by
  show(if x=x then tG a a else WH x x)=false;rw[J0 rfl,LS a]
theorem Mi:∀{a b c:List KI},tG a b=true->tG b c=true->tG a c=true
 |[],[],_,h,_=>by cases h
 |[],_::_,[],_,h=>by cases h
 |[],_::_,_::_,_,_=>rfl
 |_::_,[],_,h,_=>by cases h
 |_::_,_::_,[],_,h=>by cases h
 |x::a,y::b,z::c,h1,h2=>by
  have h1:(if x=y then tG a b else WH x y)=true:=h1;have h2:(if y=z then tG b c else WH y z)=true:=h2;show(if x=z then tG a c else WH x z)=true;by_cases e1:x=y
  .subst e1;rw[J0 rfl]at h1;by_cases e2:x=z
   .subst e2;rw[J0 rfl]at h2 ⊢;exact Mi h1 h2
   .rw[D0 e2]at h2 ⊢;exact h2
  .rw[D0 e1]at h1;by_cases e2:y=z
   .subst e2;rw[D0 e1];exact h1
   .rw[D0 e2]at h2;have h3:=za1 h1 h2;rw[D0 (λq=>by rw[q,Nw]at h3;cases h3)];exact h3
theorem Vm:∀{a b c:List KI},XH a b->XH a c->tG a c=true->tG a b=true\/tG b c=true
 |[],[],_,_,_,h=>.inr h
 |[],_::_,_,f,_,_=>by cases f
 |x::_,[],_,f,_,_=>by cases x<;>cases f
 |x::_,_::_,[],_,f,_=>by cases x<;>cases f
 |x::a,y::b,z::c,f,g,h=>by
  have h:(if x=z then tG a c else WH x z)=true:=h;show(if x=y then tG a b else WH x y)=true\/(if y=z then tG b c else WH y z)=true;by_cases e:x=z
  .subst e;rw[J0 rfl]at h;by_cases e1:x=y
   .subst e1;rw[J0 rfl,J0 rfl];exact Vm f.hd.2 g.hd.2 h
   .rw[D0 e1,D0 (λq=>e1 q.symm)];exact ki_tot f.hd.1 e1
  .rw[D0 e]at h;by_cases e1:x=y
   .subst e1;right;rw[D0 e];exact h
   .rw[D0 e1];by_cases e2:y=z
    .subst e2;left;exact h
    .rw[D0 e2];exact Ow f.hd.1 h
where
 ki_tot {x y:KI} (f:XH [x] [y]) (e:¬x=y):WH x y=true\/WH y x=true:=by
  cases x<;>cases y<;>first|exact f.elim|skip
  .rename_i i j;have:i≠j:=λq=>e (by rw[q]);by_cases q:i<j
   .exact .inl (F1 q)
   .exact .inr (F1 (by lia))
  .rename_i a b;exact lx a b λq=>e (by rw[q])
 lx:∀a b:List Int,a≠b->HT.lexLt a b=true\/HT.lexLt b a=true
  |[],[],h=>absurd rfl h
  |[],_::_,_=>.inl rfl
  |_::_,[],_=>.inr rfl
  |x::a,y::b,h=>by
   rw[HT.lexLt_cons,HT.lexLt_cons];by_cases e:x=y
   .subst e;rw[J0 rfl,J0 rfl];exact lx a b λq=>h (by rw[q])
   .rw[D0 e,D0 (λq=>e q.symm),O0,O0]
    lia
end L2
namespace L2
open PySem PySem.Spec PyProof.Rows
variable {A:Around}{Q:Bool->Shared->Prop}{m:List KI}{v:V}{E:Value->Shared->Prop}
section
variable {X:Cx}{pins:List (Addr×Obj)}{σ:St}{H:Hp}{s:Shared}
theorem zdD{x y:KI}(I:V2 X pins σ H s) (h1:EL X.K H x v) (h2:EL X.K H y v):x=y:=by
 cases x with
 |inl i=>
  cases y with
  |inl j=>
   have h1:v=.int i:=h1;have h2:v=.int j:=h2;rw[h1]at h2;rw[V.int.inj h2]
  |inr b=>
   have h1:v=.int i:=h1;obtain⟨r,e,_⟩:=h2;rw[h1]at e;cases e
 |inr a=>
  obtain⟨r,e,q1⟩:=h1;cases y with
  |inl j=>
   have h2:v=.int j:=h2;rw[e]at h2;cases h2
  |inr b=>
   obtain⟨r2,e2,q2⟩:=h2;rw[e]at e2;cases e2;have z:=I.tuple_inj q1 q2;rw[kD (λ_ _ q=>V.int.inj q)]at z;rw[z]
theorem Xm:∀{xs ys:List KI}{vs:List V},V2 X pins σ H s->Paired (EL X.K H) xs vs->Paired (EL X.K H) ys vs->xs=ys
 |_,_,_,_,.nil,.nil=>rfl
 |_,_,_,I,.cons h1 p1,.cons h2 p2=>by rw[zdD I h1 h2,Xm I p1 p2]
theorem zdE{k:List KI}(I:V2 X pins σ H s) (h1:IC X.K H k v) (h2:IC X.K H m v):k=m:=by
 obtain⟨t,xs,e,s1,p1⟩:=h1;obtain⟨t2,ys,e2,s2,p2⟩:=h2;rw[e]at e2;cases e2;obtain rfl:=I.tuple_inj s1 s2;exact Xm I p1 p2
theorem zdF(I:V2 X pins σ H s)(hu:A.units<cLine):∀{ks ms:List KI}{xs ys:List V}{us ws:List Value}{i:Nat},XH ks ms->Paired (EL X.K H) ks xs->Paired (EL X.K H) ms ys->D4 xs us->D4 ys ws->(i=0->∀a b,ks.head?=some a->ms.head?=some b->∃n m,a=.inl n/\b=.inl m)->
  Q (tG ks ms) s->PySem.W.KatLex X.prog X.w A true false Q (us.zip ws) i s:=by
 intro ks
 induction ks with
 |nil=>
  intro ms xs ys us ws i f p1 p2 q1 q2 hd h;cases ms with
  |nil=>
   cases p1;cases q1;exact PySem.W.kat_nil h
  |cons=>cases f
 |cons x ks ih=>
  intro ms xs ys us ws i f p1 p2 q1 q2 hd h;cases ms with
  |nil=>cases x<;>cases f
  |cons y ms=>
   rcases p1 with _|⟨h1,p1⟩;rcases p2 with _|⟨h2,p2⟩;rcases q1 with _|⟨r1,q1⟩;rcases q2 with _|⟨r2,q2⟩;refine PySem.W.kat_cons (zb5 I hu h1 h2 r1 r2 f.hd.1 X.prog X.w _ _ ?_);have h:Q (if x=y then tG ks ms else WH x y) s:=h;refine PySem.W.kat_go (λe=>PySem.W.kat_yes ?_) (λe=>PySem.W.kat_no ?_)
   .rw[J0 (d5 e)]at h;exact ih f.hd.2 p1 p2 q1 q2 (λz=>by lia) h
   .rw[D0 (K6 e)]at h;by_cases c:i=0
    .obtain⟨n,m,rfl,rfl⟩:=hd c x y rfl rfl;cases h1;cases h2;obtain⟨t,rfl⟩:=r1;obtain⟨t',rfl⟩:=r2;rw[c];exact oneLt_int h
    .rw[show(true&&i==0)=false by simpa using c];refine PySem.W.kat_one _ _ ?_;exact zb6 I hu h1 h2 r1 r2 f.hd.1 X.prog X.w _ _ h
theorem Pw{k:List KI}{v':V}{u u':Value}(I:V2 X pins σ H s) (hu:A.units<cLine) (f:XH k m) (hk:∃n r,k=.inl n::r) (hm:∃n r,m=.inl n::r) (h1:IC X.K H k v) (h2:IC X.K H m v') (r:T4 v u) (r':T4 v' u') (h:Q (tG k m) s) :
  wpAny (model X.prog X.w) A (keyLt' (tuples' true) u u') Q E s:=by
 obtain⟨t,xs,rfl,s1,p1⟩:=h1;obtain⟨t',ys,rfl,s2,p2⟩:=h2;cases r;cases r';obtain⟨its,q1,⟨o1,a1,b1,n1,c1⟩,_⟩:=I.tuple s1;obtain⟨aL,q2,⟨o2,a2,b2,n2,c2⟩,_⟩:=I.tuple s2;have e:decide (its.toArray.size<aL.toArray.size)=false:=by
  rw[K1,K1,<-q1.length,<-q2.length,<-J1 p1,<-J1 p2,f.len];exact Y0 (L5 _)
 refine PySem.W.kat_lt a1 c1 a2 c2 ?_;rw[e];refine zdF I hu f p1 p2 q1 q2 (λ_ a b ha hb=>?_) h;obtain⟨n,rr,rfl⟩:=hk;obtain⟨m',rr',rfl⟩:=hm;exact⟨n,m',(M0 ha).symm,(M0 hb).symm⟩
theorem Ym(I:V2 X pins σ H s):∀{ks:List (List KI)}{vs:List V}{us:List Value},(∀k∈ks,∃n r,k=(.inl n::r:List KI))->Paired (IC X.K H) ks vs->D4 vs us->∃fs,fs.length=us.length/\KatTups s.heap us fs/\∀f∈fs,∃n t,f=Value.int n t
 |[],_,_,_,.nil,.nil=>⟨[],rfl,KatTups.nil,(λf h=>nomatch h)⟩
 |k::ks,_,_,hk,.cons h p,.cons r q=>by
  obtain⟨fs,l,kt,ff⟩:=Ym I (λk OZ=>hk k (by simp[OZ])) p q;obtain⟨n,rr,rfl⟩:=hk k (by simp);obtain⟨t,xs,rfl,s1,p1⟩:=h;cases r;obtain⟨its,q1,⟨o1,a1,b1,n1,c1⟩,_⟩:=I.tuple s1;cases p1 with
  |cons h0 p1=>
   cases h0;cases q1 with
   |cons r0 q1=>
    obtain⟨t0,rfl⟩:=r0;exact⟨Value.int n t0::fs,by rw[N1,N1,l],KatTups.cons a1 b1 c1 (by simp) kt,λf hf=>by
     rcases S1.mp hf with rfl|m
     .exact⟨n,t0,rfl⟩
     .exact ff f m⟩
theorem za2{ks:List (List KI)}{vs:List V}{us:List Value}{Q:SortKind->Shared->Prop}(I:V2 X pins σ H s) (hk:∀k∈ks,∃n r,k=(.inl n::r:List KI)) (p:Paired (IC X.K H) ks vs) (r:D4 vs us) (h0:0<us.length) (h:Q (tuples' true) s) :
  wpAny (model X.prog X.w) A (keyKind' us.toArray) Q E s:=by
 obtain⟨fs,l,kt,ff⟩:=Ym I hk p r;refine PySem.W.kat_kind (T:=Value.type "int") kt (by lia) (λv hv=>?_) rfl (by rw[show(Value.type "int"!=Value.type "tuple")=true by decide];exact h);obtain⟨n,t,rfl⟩:=ff v hv;exact DE rfl
end
end L2
namespace L2
open PySem PySem.Spec PyProof.Rows
variable {f:Addr}{cm:Bool}{CX:Zs}{X:Cx}{fd:FuncData}{H:Hp}{pins:List (Addr×Obj)}{s:Shared}{sp:Sp}{σ:St}{E:St->XK}{Q:VK}
section
variable {k:Nat}{ps:List Str}{A':Around}
theorem Zm{us:List Value}{vs:List V}(F:EA X.prog X.w X.K X.mg X.base CX cm k f fd ps sp) (hr:R8 cm k A') (hb:IB X.K fd ps []) (hx:BB CX (X.wish λ_ _=>False) E)
 (he:iT X.prog X.w X.K X.mg X.base A' X.stack s H) (I:V2 X pins σ H s) (r:D4 vs us) (h:sp vs H Q (E σ)):wpAny (model X.prog X.w) A' (call (.ref f) us) (EP X pins σ Q) (λ_ _=>False) s:=by
  have hl:us.length=ps.length:=by rw[<-r.length];exact F.len _ _ _ _ h
  have BP:=hb s us I.kIn (by rw[D3];exact hl);rw[D3]at BP;refine OE (oC (F.run A' X.stack s H ⟨us,[]⟩ us vs Q (E σ) hr he BP r h) λr s' hq=>?_);cases r with
  |error e=>exact hx pins σ H s e s' (I.wish _) hq
  |ok fl=>
   cases fl with
   |ret u=>exact I.after hq
   |next=>exact False.elim hq
   |brk=>exact False.elim hq
   |cont=>exact False.elim hq
end
theorem R8.two{k:Nat}{A:Around}(r:R8 cm (k+1) A):R8 cm k A.in1.in1:=⟨r.hd,by have:=r.dp;show A.depth+3*k+5<_;lia,by have:=r.un;show A.units+1+1+16*k+200<_;lia⟩
def Rc(K:Frag)(sp:Sp)(e:XK)(H:Hp)(ps:List Addr)(ky:List (List KI)):Prop:=ky.length=ps.length/\∀(i:Nat)(p:Addr)(m:List KI),ps[i]?=some p->ky[i]?=some m->∀H2:Hp,Same H H2->sp [.ref p] H2 (λv H3=>Same H2 H3/\IC K H3 m v) e
def Qw(ky:List (List KI)):Prop:=(∀k∈ky,∃n r,k=(.inl n::r:List KI))/\∀a∈ky,∀b∈ky,XH a b
section
variable {k:Nat}{pn:List Str}
open Classical in
noncomputable def OJ (K:Frag)(H:Hp)(u:Value):List KI:=if h:∃m v,T4 v u/\IC K H m v then choose h else[]
theorem DH{u:Value}{m:List KI}{v:V}(I:V2 X pins σ H s) (r:T4 v u) (h:IC X.K H m v):OJ X.K H u=m:=by
 unfold OJ;have hx:∃m v,T4 v u/\IC X.K H m v:=⟨m,v,r,h⟩
 rw[dif_pos hx];obtain⟨v',r',h'⟩:=Classical.choose_spec hx;obtain⟨t,xs,rfl,q⟩:=id h;obtain⟨t',xs',rfl,q'⟩:=id h';cases r;cases r';exact zdE I h' h
def Et:Value->Addr
 |.ref p=>p
 |_=>0
theorem QY{α β:Type}{F:α->β->Prop}:∀{as:List α}{bs:List β}{i:Nat}{y:β},Paired F as bs->bs[i]?=some y->∃x,as[i]?=some x/\F x y
 |_,_,i,_,.nil,h=>by simp at h
 |_,_,0,_,.cons f _,h=>by
  obtain rfl:=M0 h;exact⟨_,rfl,f⟩
 |_,_,i+1,_,.cons _ p,h=>QY p (i:=i) (by simpa using h)
theorem ZP{a:Addr}{o:HO}(h:H a=none):Same H (upd H a o):=λb u e=>by
 rw[N0 (λq=>by rw[q,h]at e;cases e)];exact e
theorem Ni{l:Addr}{ps:List Addr}{ky:List (List KI)}(F:EA X.prog X.w X.K X.mg X.base CX cm k f fd pn sp) (hr:R8 cm (k+1) X.A) (hb:IB X.K fd pn []) (hx:BB CX (X.wish λ_ _=>False) E)
 (I:V2 X pins σ H s) (hl:SqL X.K H l (ps.map V.ref)) (hk:Rc X.K sp (E σ) H ps ky) (hf:Qw ky)
 (h:∀(zs:List (Addr×List KI))(H':Hp)(p:Addr),(zs.map Prod.fst).Perm ps->(∀z∈zs,z∈ps.zip ky)->(zs.Pairwise λa b=>tG b.2 a.2=false)->Same H H'->H' p=some (.lst (zs.map λz=>V.ref z.1))->Q (.ref p) H') :
   wpAny (model X.prog X.w) X.A (call (.builtin "sorted") [.ref l] [(Str.ofString "key",.ref f)]) (EP X pins σ Q) X.xe s:=by
  obtain⟨its,rv,IH,hz⟩:=I.list hl;rw[B0]at hz;obtain rfl:=mM rv;have hZ:(ps.map Value.ref).length<=sizeLine:=by rw[B0];exact hz
  have hZ2:=hZ;rw[kF]at hZ2;refine call_function_entry_kw kind_sorted plain_sorted entry_sorted (ksk_s1 _ _) ?_;unfold Builtin.«sorted»;refine z0 (m:=checkCount "sorted" 1 1 _) (S0 ?_);refine z0 (collect_list IH.isList ?_ hZ);refine z0 (KM ?_ hZ);generalize jM:ps.map Value.ref=vs at *;have hsz:((s.heap.push (seqObj "list" #[] 0)).update s.heap.objs.size (Obj.mapSeq (·++vs.toArray))).objs.size=s.heap.objs.size+1:=by
   rw[Heap.size_update,size_push']
  have keep:∀b o,s.heap.get? b=some o->(((s.heap.push (seqObj "list" #[] 0)).update s.heap.objs.size (Obj.mapSeq (·++vs.toArray))).push (seqObj "list" vs.toArray 0)).get? b=some o:=λb o q=>by
   have DC:b<s.heap.objs.size:=K2 q;rw[Heap.get?_push_ne _ _ _ (by rw[hsz];exact K3 (VD DC)),JC _ _ _ _ (K3 DC),Heap.get?_push_ne _ _ _ (K3 DC)];exact q
  have hoL:(((s.heap.push (seqObj "list" #[] 0)).update s.heap.objs.size (Obj.mapSeq (·++vs.toArray))).push (seqObj "list" vs.toArray 0)).get? (s.heap.objs.size+1)=some (seqObj "list" vs.toArray 0):=by
   rw[<-hsz];exact V1 _ rfl
  show wpAny _ _ _ _ _ {s with heap:=((s.heap.push (seqObj "list" #[] 0)).update s.heap.objs.size (Obj.mapSeq (·++vs.toArray))).push (seqObj "list" vs.toArray 0)};rw[hsz];generalize ((s.heap.push (seqObj "list" #[] 0)).update s.heap.objs.size (Obj.mapSeq (·++vs.toArray))).push (seqObj "list" vs.toArray 0)=h1 at *;generalize hD:s.heap.objs.size+1=D at *;have hDs:s.heap.objs.size<=D:=by lia
  have hDt:s.heap.objs.size<D:=by lia
  have hDn:H D=none:=I.hok.fresh hDs;refine z0 (W4 (wpAny_call_entry_kw slot_list_sort ⟨_,hoL,rfl⟩ entry_list_sort ?body (ksk_l1 _ _)));show wpAny (model X.prog X.w) X.A.in1.in1 (Builtin.«list.sort» ⟨[.ref D],[(Str.ofString "key",.ref f)]⟩) _ _ _;rw[ksk_t1];unfold ksk_tree;obtain⟨e1,ho1⟩:∃e1,(h1.update D (Obj.mapSeq λ_=>(#[]:Array Value))).get? D=some (seqObj "list" #[] e1):=⟨_,get?_update_seq hoL λ_=>#[]⟩
  refine z0 (listItems_at hoL rfl ?_);refine z0 (YH hoL rfl ?_ (by rw[K1];exact hZ) (D1 _));refine z0 (seqEpoch_at ho1 rfl ?_);refine z0 (wpAny_newTuple ?_ hZ);refine z0 (KM ?_ (D1 _));refine W4 ?_;have zgw:∀b o,s.heap.get? b=some o->((h1.update D (Obj.mapSeq λ_=>(#[]:Array Value))).push (seqObj "tuple" vs.toArray 0)).get? b=some o:=λb o q=>by
   have DC:b<s.heap.objs.size:=K2 q;refine V0 _ ?_;rw[JC _ _ _ _ (K3 (WD DC hDt))];exact keep b o q
  have jY:((h1.update D (Obj.mapSeq λ_=>(#[]:Array Value))).push (seqObj "tuple" vs.toArray 0)).get? D=some (seqObj "list" #[] e1):=V0 _ ho1;have I1:V2 X pins σ (upd H D (.frz (seqObj "list" #[] e1) (.lst []))) {s with heap:=(h1.update D (Obj.mapSeq λ_=>(#[]:Array Value))).push (seqObj "tuple" vs.toArray 0)}:=
   I.laid (t':=s.toks) zgw hDs ⟨jY,D1 _,[],e1,.nil,jY⟩
  show wpAny (model X.prog X.w) X.A.in1.in1 (ksk_rest D (.ref f) false vs.toArray e1 (.ref ((h1.update D (Obj.mapSeq λ_=>(#[]:Array Value))).push (seqObj "tuple" vs.toArray 0)).objs.size)) _ _ {s with heap:=((h1.update D (Obj.mapSeq λ_=>(#[]:Array Value))).push (seqObj "tuple" vs.toArray 0)).push (seqObj "list" #[] 0)};generalize (h1.update D (Obj.mapSeq λ_=>(#[]:Array Value))).push (seqObj "tuple" vs.toArray 0)=h2 at *;have hDl:D<h2.objs.size:=K2 jY;have I2:V2 X pins σ (upd (upd H D (.frz (seqObj "list" #[] e1) (.lst []))) h2.objs.size (.lst [])) {s with heap:=h2.push (seqObj "list" #[] 0)}:=
   I1.laid (t':=s.toks) (λb o q=>V0 _ q) (j1 _) ⟨D1 _,[],0,.nil,V1 _ rfl⟩
  have hSn:upd H D (.frz (seqObj "list" #[] e1) (.lst [])) h2.objs.size=none:=I1.hok.fresh (j1 _);have hSH:H h2.objs.size=none:=by
   have z:=hSn;rw[N0 (a:=D) (bG hDl)]at z;exact z
  have hn0:∀o' u',X.H_0 D≠some (.frz o' u'):=λo' u' e=>by
   have z:=I.base.frzs D o' u' e;rw[hDn]at z;cases z
  generalize hS0:h2.objs.size=S at *;generalize h2.push (seqObj "list" #[] 0)=h3 at *;have hSD:S≠D:=bG hDl;have SH0:Same H (upd H D (.frz (seqObj "list" #[] e1) (.lst []))):=ZP hDn;generalize hHb:upd H D (.frz (seqObj "list" #[] e1) (.lst []))=Hb at *;have hbD:Hb D=some (.frz (seqObj "list" #[] e1) (.lst [])):=by rw[<-hHb];exact C0
  have hu:X.A.in1.in1.units<cLine:=hr.two.units0;have vl:vs.length=ps.length:=by rw[<-jM,B0]
  have tail:∀(Hn:Hp)(s3:Shared)(kv:List V)(ks:List Value)(n3:Nat)(st:SortSt),V2 X pins σ Hn s3->Same Hb Hn->Hn S=some (.lst kv)->Paired (IC X.K Hn) ky kv->D4 kv ks->s3.heap.get? S=some (seqObj "list" ks.toArray n3)->
    failedOf st=none->((arrOf st).toList.map (·.2)).Perm ((ks.zip vs).map (·.2))->(∀x∈(arrOf st).toList,x∈ks.zip vs)->((arrOf st).toList.Pairwise λx y=>tG (OJ X.K Hn y.1) (OJ X.K Hn x.1)=false)->
    wpAny (model X.prog X.w) X.A.in1.in1 (ksk_tail D false e1 (.ref S) st) (λfin s'=>∃v,fin=.done (.ret v)/\wpAny (model X.prog X.w) X.A.in1 (ret (.ref D)) (λfin s'=>∃v,fin=.done (.ret v)/\EP X pins σ Q v s') X.xe s') X.xe s3:=by
   intro Hn s3 kv ks n3 st I3 sm hS pk rk hob hfl pm mem pw;have kl:ks.length=vs.length:=by rw[<-rk.length,<-J1 pk,hk.1,vl]
   have zgy:=sm _ _ hbD;obtain⟨hoD,_⟩:=I3.hok D _ zgy;have hzk:(ks.zip vs).map (·.2)=vs:=by
    rw[show((λx:Value×Value=>x.2))=Prod.snd from rfl,List.map_snd_zip (by lia)]
   rw[hzk]at pm;have zgz:(arrOf st).toList.length=vs.length:=by
    have z:=pm.length_eq;rw[B0]at z;exact z
   unfold ksk_tail;dsimp only;refine z0 (YH hob rfl ?_ (by rw[K1,kl];exact hZ) (D1 _));refine z0 (EH ?_);have zeh:(s3.heap.update S (Obj.mapSeq λ_=>(#[]:Array Value))).get? D=some (seqObj "list" #[] e1):=by
    rw[JC _ _ _ _ hSD.symm];exact hoD
   refine z0 (seqEpoch_at zeh rfl ?_);refine z0 (YH zeh rfl ?_ (D1 _) ?_)
   .rw[hfl];simp only[aE,F3,N7];refine S0 ⟨_,rfl,S0 ⟨_,rfl,?_⟩⟩;have I4:V2 X pins σ (upd Hn S (.lst [])) {s3 with heap:=s3.heap.update S (Obj.mapSeq λ_=>(#[]:Array Value))}:=I3.lset (t':=s3.toks) (its':=[]) hS hob rfl .nil (D1 _);have Sz:upd Hn S (.lst []) D=some (.frz (seqObj "list" #[] e1) (.lst [])):=by rw[N0 hSD.symm];exact zgy
    have I5:=I4.unlock Sz hn0;have at_:∀x∈(arrOf st).toList,∃i p m v,ps[i]?=some p/\ky[i]?=some m/\kv[i]?=some v/\ks[i]?=some x.1/\x.2=.ref p/\IC X.K Hn m v/\T4 v x.1:=λx hx=>by
     obtain⟨i,hi,ex⟩:=C4.mp (mem x hx);rw[JF]at hi;have h1:i<ps.length:=by lia
     have h2:i<ks.length:=by lia
     have h3:i<ky.length:=by have:=hk.1;lia
     have h4:i<kv.length:=by rw[rk.length];exact h2
     rw[YI]at ex;have e1:ks[i]=x.1:=by rw[<-ex]
     have e2:vs[i]'(by lia)=x.2:=by rw[<-ex]
     obtain⟨m',hm',ka⟩:=QY pk (K0 h4);obtain⟨u,hu',ru⟩:=rk.get (K0 h4);rw[K0 h2,e1]at hu';obtain rfl:=M0 hu';refine⟨i,ps[i],m',kv[i],K0 h1,hm',K0 h4,by rw[K0 h2,e1],?_,ka,ru⟩;rw[<-e2];simp only[<-jM,Z5]
    have I6:V2 X pins σ (upd (upd (upd Hn S (.lst [])) D (.lst [])) D (.lst (((arrOf st).toList.map λx=>(Et x.2,OJ X.K Hn x.1)).map λz=>V.ref z.1))) {s3 with heap:=(s3.heap.update S (Obj.mapSeq λ_=>(#[]:Array Value))).update D (Obj.mapSeq λ_=>(arrOf st).map (·.2))}:=
     I5.lset (t':=s3.toks) (its:=[]) (its':=(arrOf st).toList.map (·.2)) C0 zeh (by rw[<-RA]) ?_ ?_
    .refine⟨.ref D,_,I6,rfl,h ((arrOf st).toList.map λx=>(Et x.2,OJ X.K Hn x.1)) _ D ?_ ?_ ?_ ?_ C0⟩
     .rw[B3];have z:=pm.map Et;rw[B3,<-jM,B3]at z;have e:ps.map (Et ∘ Value.ref)=ps:=by
       rw[show(Et ∘ Value.ref)=id from rfl,List.map_id]
      rw[e]at z;exact z
     .intro z Gz;obtain⟨x,Pt,rfl⟩:=S2.mp Gz;obtain⟨i,p,m,v,a1,a2,a3,a4,a5,a6,a7⟩:=at_ x Pt;rw[DH I3 a7 a6,a5];show(p,m)∈ps.zip ky;exact M1 (i:=i) (by rw[List.getElem?_zip_eq_some];exact⟨a1,a2⟩)
     .rw[FH];exact pw
     .intro b o e;have b1:b≠D:=λq=>by rw[q,hDn]at e;cases e
      have b2:b≠S:=λq=>by rw[q,hSH]at e;cases e
      rw[N0 b1,N0 b1,N0 b2];exact sm _ _ (SH0 _ _ e)
    .rw[B3];have aux:∀l:List Keyed,(∀x∈l,x∈(arrOf st).toList)->D4 (l.map ((λz:Addr×List KI=>V.ref z.1) ∘ λx=>(Et x.2,OJ X.K Hn x.1))) (l.map (·.2)):=λl=>by
      induction l with
      |nil=>intro _;exact .nil
      |cons x l ih=>
       intro hl;refine .cons ?_ (ih λy hy=>hl y (by simp[hy]));obtain⟨i,p,m,v,a1,a2,a3,a4,a5,a6,a7⟩:=at_ x (hl x (by simp));show T4 (.ref (Et x.2)) x.2;rw[a5];rfl
     exact aux _ λ_ h=>h
    .rw[B0,B0,zgz];exact hZ
   .simp only[F3,N7,MG];have:(arrOf st).size=vs.length:=by rw[<-zgz,VF]
    rw[this]
    lia
  have zl:∀ks:List Value,(ks.toArray.zip vs.toArray).toList=ks.zip vs:=λks=>by
   have z:=ksk_zip ks.toArray vs;simpa using z
  have fin:∀(Hn:Hp)(s3:Shared)(kv:List V)(ks:List Value)(n3:Nat),V2 X pins σ Hn s3->Same Hb Hn->Hn S=some (.lst kv)->Paired (IC X.K Hn) ky kv->D4 kv ks->s3.heap.get? S=some (seqObj "list" ks.toArray n3)->
    wpAny (model X.prog X.w) X.A.in1.in1 (ksk_end D false vs.toArray e1 (.ref S) ks.toArray) (λfin s'=>∃v,fin=.done (.ret v)/\wpAny (model X.prog X.w) X.A.in1 (ret (.ref D)) (λfin s'=>∃v,fin=.done (.ret v)/\EP X pins σ Q v s') X.xe s') X.xe s3:=by
   intro Hn s3 kv ks n3 I3 sm hS pk rk hob;have kl:ks.length=vs.length:=by rw[<-rk.length,<-J1 pk,hk.1,vl]
   have PV:∀x∈ks.zip vs,∃m v,m∈ky/\IC X.K Hn m v/\T4 v x.1:=λx hx=>by
    obtain⟨i,hi,ex⟩:=C4.mp hx;rw[JF]at hi;have h2:i<ks.length:=by lia
    have h4:i<kv.length:=by rw[rk.length];exact h2
    rw[YI]at ex;obtain⟨m',hm',ka⟩:=QY pk (K0 h4);obtain⟨u,hu',ru⟩:=rk.get (K0 h4);rw[K0 h2]at hu';obtain rfl:=M0 hu';exact⟨m',kv[i],M1 hm',ka,by rw[<-ex];exact ru⟩
   unfold ksk_end;dsimp only;rw[D0 X1];by_cases h2:vs.toArray.size<2
   .rw[J0 h2,J0 h2];refine z0 (S0 ?_);rw[StateT.run_pure];refine z0 (S0 ?_);dsimp only;rw[D0 X1];refine tail Hn s3 kv ks n3 (SortSt.mk' general' (ks.toArray.zip vs.toArray) #[] 7 none) I3 sm hS pk rk hob rfl ?_ ?_ ?_
    .show((ks.toArray.zip vs.toArray).toList.map _).Perm _;rw[zl]
    .intro x hx;have hx:x∈(ks.toArray.zip vs.toArray).toList:=hx;rw[zl]at hx;exact hx
    .show(ks.toArray.zip vs.toArray).toList.Pairwise _;rw[zl];rw[K1]at h2
     match hq:ks.zip vs with
     |[]=>exact .nil
     |[_]=>exact List.pairwise_singleton _ _
     |a::b::r=>
      have z:=V6 List.length hq;rw[JF,N1,N1]at z
      lia
   .rw[D0 h2,D0 h2];rw[K1]at h2;refine z0 (za2 I3 hf.1 pk rk (by lia) ?_);rw[D0 X1];have O:Srt.Ord (λx y=>tG (OJ X.K Hn x.1) (OJ X.K Hn y.1)) (ks.toArray.zip vs.toArray).toList:=by
     rw[zl];refine⟨λx _=>LS _,λx _ y _ z _ h1 h2=>Mi h1 h2,λx hx y hy z hz q=>?_⟩;obtain⟨m1,v1,k1,a1,r1⟩:=PV x hx;obtain⟨m2,v2,k2,a2,r2⟩:=PV y hy;obtain⟨m3,v3,k3,a3,r3⟩:=PV z hz;have q:tG (OJ X.K Hn x.1) (OJ X.K Hn z.1)=true:=q;show tG (OJ X.K Hn x.1) (OJ X.K Hn y.1)=true\/tG (OJ X.K Hn y.1) (OJ X.K Hn z.1)=true;rw[DH I3 r1 a1,DH I3 r3 a3]at q;rw[DH I3 r1 a1,DH I3 r2 a2,DH I3 r3 a3];exact Vm (hf.2 _ k1 _ k2) (hf.2 _ k1 _ k3) q
    refine z0 (P5 (Srt.sort_at (Q:=λ_ O9=>((arrOf O9).toList.map (·.2)).Perm ((ks.toArray.zip vs.toArray).toList.map (·.2))/\(∀x∈(arrOf O9).toList,x∈(ks.toArray.zip vs.toArray).toList)/\failedOf O9=none/\((arrOf O9).toList.Pairwise λx y=>tG (OJ X.K Hn y.1) (OJ X.K Hn x.1)=false)) O (λx hx y hy E' Q' q=>?_) ?_ λO9 a b c d=>⟨a,b,c,d⟩) ?_ λ_ _ x=>x)
    .rw[zl]at hx hy;obtain⟨m1,v1,k1,a1,r1⟩:=PV x hx;obtain⟨m2,v2,k2,a2,r2⟩:=PV y hy;have q:Q' (tG (OJ X.K Hn x.1) (OJ X.K Hn y.1)) s3:=q;rw[DH I3 r1 a1,DH I3 r2 a2]at q;exact Pw I3 hu (hf.2 _ k1 _ k2) (hf.1 _ k1) (hf.1 _ k2) a1 a2 r1 r2 q
    .rw[Array.size_zip,K1,K1]
     lia
    .rintro⟨⟨⟩,O9⟩ s' ⟨rfl,p1,p2,p3,p4⟩;rw[zl]at p1 p2;exact tail Hn s' kv ks n3 O9 I3 sm hS pk rk hob p3 p1 p2 p4
  unfold ksk_rest;refine z0 (YM ?_)
  first
   |rw[List.forIn_toArray]
   |(rw[<-Array.forIn_toList];simp only[List.toList_toArray])
   |rw[<-Array.forIn_toList]
  refine z0 (ksk_fold (λi s'=>∃(Hn:Hp)(kv:List V),V2 X pins σ Hn s'/\Same Hb Hn/\Hn S=some (.lst kv)/\Paired (IC X.K Hn) (ky.take i) kv) vs 0 {s with heap:=h3} ⟨_,[],I2,ZP hSn,C0,.nil⟩ ?step ?done)
  case step=>
   rintro j x s' Pt ⟨Hn,kv,I3,sm,hS,pk⟩;simp only[fG]at pk ⊢;have hj:j<vs.length:=(P0.mp Pt).1;obtain⟨p,hp⟩:∃p,ps[j]?=some p:=⟨_,K0 (by lia)⟩
   obtain⟨m,hm⟩:∃m,ky[j]?=some m:=⟨_,K0 (by have:=hk.1;lia)⟩
   obtain rfl:x=.ref p:=by
    rw[<-jM,P1,hp]at Pt;exact(M0 Pt).symm
   refine z0 (QH (P5 (Zm F hr.two hb hx I3.env0.in1.in1 I3 (vs:=[.ref p]) (.cons rfl .nil) (hk.2 j p m hp hm Hn (SH0.trans sm))) (λu s'' he=>?_) λ_ _ hF=>hF.elim));obtain⟨v,H3,I4,rv4,sm4,ka⟩:=he;have hS4:=sm4 _ _ hS;obtain⟨z4,zjd,n4,r4,l4,e4⟩:=I4.lstM hS4;have kvl:kv.length<=j:=by
    rw[<-J1 pk,Z1]
    lia
   try dsimp only
   refine z0 (YH e4 rfl ?_ (by rw[K1];lia) (k4 (mC (Array.size_push ..)) (by rw[K1];lia)));refine S0 ⟨rfl,upd H3 S (.lst (kv++[v])),kv++[v],I4.lset (t':=s''.toks) (its':=zjd++[u]) hS4 e4 (by simp) (r4.append (.cons rv4 .nil)) (by rw[T1,D8];lia),?_,C0,?_⟩
   .intro b o e;rw[N0 (λq=>by rw[q,hSn]at e;cases e)];exact sm4 _ _ (sm _ _ e)
   .have ek:ky.take (j+1)=ky.take j++[m]:=by rw[List.take_add_one,hm];rfl
    rw[ek];have nt:∀{b:Addr}{xs:List V},eA X.K H3 b xs->eA X.K (upd H3 S (.lst (kv++[v]))) b xs:=λq=>by
     rcases q with q|q
     .rcases q with q|⟨o,q⟩
      .exact .inl (.inl (by rw[N0 (λz=>by rw[z,hS4]at q;cases q)];exact q))
      .exact .inl (.inr ⟨o,by rw[N0 (λz=>by rw[z,hS4]at q;cases q)];exact q⟩)
     .exact .inr q
    have kt:∀(a:List KI)(b:V),IC X.K H3 a b->IC X.K (upd H3 S (.lst (kv++[v]))) a b:=λa b ⟨t,xs,e,q1,q2⟩=>⟨t,xs,e,nt q1,Paired.mapP q2 λc d q=>by
     cases c with
     |inl i=>exact q
     |inr ns=>obtain⟨r,e,q⟩:=q;exact⟨r,e,nt q⟩⟩
    exact B4 (Paired.mapP pk λa b q=>kt a b (IC.same sm4 q)) (kt m v ka)
  case done=>
   rintro s' ⟨Hn,kv,I3,sm,hS,pk⟩;rw[fG,BJ (by have:=hk.1;lia)]at pk;obtain⟨z3,zei,n3,r3,l3,e3⟩:=I3.lstM hS;refine z0 (listItems_at e3 rfl ?_);exact fin Hn s' kv zei n3 I3 sm hS pk r3 e3
end
end L2
namespace L2
open PySem PySem.Spec PyProof.Rows
variable {f S l:Addr}{cm:Bool}{CX:Zs}{X:Cx}{e:Expr}{fd:FuncData}{H H3:Hp}{pins:List (Addr×Obj)}{ky:List (List KI)}{ps:List Addr}{pn:List Str}{ys zs:List V}{K:Frag}{s:Shared}{sp:Sp}{σ:St}{E:St->XK}
theorem zdG(a v d:Value):argsOk "min" ⟨[a],[(Str.ofString "key",v),(Str.ofString "default",d)]⟩:=by unfold argsOk;kernel_rfl
section
variable {k:Nat}
def zir(K:Frag)(ps:List Addr)(ky:List (List KI))(Hn:Hp)(S:Addr)(j:Nat):Option Nat->Prop
 |none=>j=0/\Hn S=some (.lst [])
 |some i=>i<j/\∃p m v,ps[i]?=some p/\ky[i]?=some m/\IC K Hn m v/\Hn S=some (.lst [.ref p,v])/\∀(i':Nat)(m':List KI),i'<j->ky[i']?=some m'->tG m' m=false
theorem KF{b:Addr}{xs:List V}(hS:H3 S=some (.lst ys)) (q:eA K H3 b xs):eA K (upd H3 S (.lst zs)) b xs:=by
 rcases q with q|q
 .rcases q with q|⟨o,q⟩
  .exact .inl (.inl (by rw[N0 (λz=>by rw[z,hS]at q;cases q)];exact q))
  .exact .inl (.inr ⟨o,by rw[N0 (λz=>by rw[z,hS]at q;cases q)];exact q⟩)
 .exact .inr q
theorem zdH{a:List KI}{b:V}(hS:H3 S=some (.lst ys)):IC K H3 a b->IC K (upd H3 S (.lst zs)) a b:=λ⟨t,xs,e,q1,q2⟩=>⟨t,xs,e,KF hS q1,Paired.mapP q2 λc d q=>by
 cases c with
 |inl i=>exact q
 |inr ns=>obtain⟨r,e,q⟩:=q;exact⟨r,e,KF hS q⟩⟩
theorem Rw{It:Addr}{R:Result->Shared->Prop}{dv:Value}(F:EA X.prog X.w X.K X.mg X.base CX cm k f fd pn sp) (hr:R8 cm (k+1) X.A) (hh:X.A.handled=none) (hb:IB X.K fd pn []) (hx:BB CX (X.wish λ_ _=>False) E)
 (hk:Rc X.K sp (E σ) H ps ky) (hf:Qw ky) (hlI:l≠It) (hSH:H S=none) (hl:SqL X.K H l (ps.map V.ref))
 (hR:∀(i:Nat)(p:Addr)(m:List KI)(H':Hp)(s':Shared),ps[i]?=some p->ky[i]?=some m->(∀(i':Nat)(m':List KI),ky[i']?=some m'->tG m' m=false)->Same H H'->V2 X pins σ H' s'->R (.ok (.ret (.ref p))) s')
 (hN:ps=[]->∀(H':Hp)(s':Shared),Same H H'->V2 X pins σ H' s'->R (.ok (.ret dv)) s') :
   ∀(r j:Nat)(b:Option Nat)(s:Shared)(Hn:Hp),ps.length-j=r->j<=ps.length->V2 X pins σ Hn s->Same H Hn->iL X pins Hn It->s.heap.IsListIter It l j->zir X.K ps ky Hn S j b->
    codeAny (model X.prog X.w) X.A (.builtin "min.loop" ⟨[.ref It,.ref f,.ref S],[(Str.ofString "default",dv)]⟩) R s:=by
  have Mg:(toString "min" ++ toString ".loop": String) = "min.loop":= by decide
  have vl:(ps.map Value.ref).toArray.size=ps.length:=by rw[K1,B0]
  have W:=Walks.list (prog:=X.prog) (w:=X.w) (A:=X.A.in1) hh It l hlI (ps.map Value.ref).toArray;intro r
  induction r with
  |zero=>
   intro j b s Hn oK hj I sm fp gH BP;have hin:j=ps.length:=by lia
   obtain⟨its,rv,IH,hz⟩:=I.list (sm.seq hl);obtain rfl:=mM rv;cases b with
   |none=>
    obtain⟨j0,hS⟩:=BP;obtain⟨z,its,n,rr,ll,e⟩:=I.lstM hS;cases rr;refine zF iE ?_;rw[sF T6 _];show wpAny _ X.A.in1 (seqItems? (.ref S)>>=_) _ _ _;refine z0 (SB e rfl ?_);show wpAny _ X.A.in1 (tryCatch (pyNext (.ref It)) _>>=_) _ _ _;refine z0 (VB (W.done _ _ _ ⟨by rw[vl,<-hin];exact gH,IH.isList⟩ λh' Qt OZ=>?_));have I1:V2 X pins σ Hn {s with heap:=h',toks:=Qt}:=I.turnedL (ch:=[It]) OZ (λb hb=>by rw[Q1.mp hb];exact fp);refine z0 (YM (S0 ?_));exact hN (d4.mp (by lia)) Hn _ sm I1
   |some i=>
    obtain⟨ij,p,m,v,hp,hm,ka,hS,no⟩:=BP;obtain⟨z,its,n,rr,ll,e⟩:=I.lstM hS;cases rr with
    |cons r1 rr=>
     cases rr with
     |cons r2 rr=>
      cases rr;cases r1;refine zF iE ?_;rw[sF T6 _];show wpAny _ X.A.in1 (seqItems? (.ref S)>>=_) _ _ _;refine z0 (SB e rfl ?_);show wpAny _ X.A.in1 (tryCatch (pyNext (.ref It)) _>>=_) _ _ _;refine z0 (VB (W.done _ _ _ ⟨by rw[vl,<-hin];exact gH,IH.isList⟩ λh' Qt OZ=>?_));have I1:V2 X pins σ Hn {s with heap:=h',toks:=Qt}:=I.turnedL (ch:=[It]) OZ (λb hb=>by rw[Q1.mp hb];exact fp);have hSI:S≠It:=λq=>by have:=fp.1;rw[<-q,hS]at this;cases this
      have e2:=OZ S _ (by simpa using hSI) e;show wpAny _ X.A.in1 (updateSeq S (λ_=>#[])>>=_) _ _ _;refine z0 ?_;refine uK e2 rfl (z0 (EH (S0 ?_)));have I2:=I1.lset (t':=Qt) (its':=[]) (ys:=[]) (f:=λ_=>#[]) hS e2 rfl .nil (D1 _);refine hR i p m _ _ hp hm (λi' m' h'=>no i' m' ?_ h') ?_ I2
      .have:=(P0.mp h').1;have:=hk.1
       lia
      .intro b o q;rw[N0 (λz=>by rw[z,hSH]at q;cases q)];exact sm _ _ q
  |succ r ih=>
   intro j b s Hn oK hj I sm fp gH BP;have DC:j<ps.length:=by lia
   obtain⟨its,rv,IH,hz⟩:=I.list (sm.seq hl);obtain rfl:=mM rv;obtain⟨p',hp'⟩:∃p,ps[j]?=some p:=⟨_,K0 DC⟩
   obtain⟨m',hm'⟩:∃m,ky[j]?=some m:=⟨_,K0 (by have:=hk.1;lia)⟩
   have km':m'∈ky:=M1 hm';have turn:∀(Tz:List V)(its:List Value)(n:Nat),Hn S=some (.lst Tz)->s.heap.get? S=some (seqObj "list" its.toArray n)->∀(P:PySem.Fin->Shared->Prop)(E':Value->Shared->Prop)(zej:Value->Sem PySem.Fin),
     (∀(u:Value)(v2:V)(H3:Hp)(s3:Shared),V2 X pins σ H3 s3->T4 v2 u->Same Hn H3->IC X.K H3 m' v2->iL X pins H3 It->s3.heap.IsListIter It l (j+1)->wpAny (model X.prog X.w) X.A.in1 (zej u) P E' s3)->
     ∀(h':Heap)(Qt:Nat),h'.IsListIter It l (j+1)->(∀b o,b∉[It]->s.heap.get? b=some o->h'.get? b=some o)->∀g:Value->Sem Value,
      wpAny (model X.prog X.w) X.A.in1 (tryCatch (holding [.ref p'] (call (.ref f) [.ref p'])) g>>=zej) P E' {s with heap:=h',toks:=Qt}:=by
    intro Tz its n hS e P E' zej zgA h' Qt Iz OZ g;have I1:V2 X pins σ Hn {s with heap:=h',toks:=Qt}:=I.turnedL (ch:=[It]) OZ (λb hb=>by rw[Q1.mp hb];exact fp);obtain⟨oI,hoI,hoc,hod⟩:=id Iz;have I1p:=I1.pinned (fp:=[It]) (λb hb=>by rw[Q1.mp hb];exact fp) (λb hb=>by rw[Q1.mp hb];exact⟨oI,hoI,λv q=>by rw[hod]at q;cases q⟩);refine z0 (VB (W4 (P5 (Zm F hr.in1 hb hx I1p.env0.in1 I1p (vs:=[.ref p']) (.cons rfl .nil) (hk.2 j p' m' hp' hm' Hn sm)) (λu s3 he=>?_) λ_ _ hF=>hF.elim)));obtain⟨v2,H3,I3p,rv2,PZ,ka3⟩:=he;obtain⟨q1,q2,_⟩:=I3p.pin (It,oI) (i4 _ (i4 _ (uJ (by simp) hoI)));refine zgA u v2 H3 s3 I3p.unpinned rv2 PZ ka3 ⟨q2,fp.2⟩ ⟨oI,q1,hoc,hod⟩
   have kept:∀(Tz:List V)(u:Value)(v2:V)(H3:Hp)(s3:Shared),Hn S=some (.lst Tz)->V2 X pins σ H3 s3->T4 v2 u->Same Hn H3->IC X.K H3 m' v2->iL X pins H3 It->s3.heap.IsListIter It l (j+1)->(∀(i':Nat)(m'':List KI),i'<j+1->ky[i']?=some m''->tG m'' m'=false)->
     ∃its n,s3.heap.get? S=some (seqObj "list" its n)/\its.size<=sizeLine/\codeAny (model X.prog X.w) X.A (.builtin "min.loop" ⟨[.ref It,.ref f,.ref S],[(Str.ofString "default",dv)]⟩) R {s3 with heap:=s3.heap.update S (Obj.mapSeq λ_=>#[.ref p',u])}:=by
    intro Tz u v2 H3 s3 hS I3 rv2 PZ ka3 fp3 Us no;have hS3:=PZ _ _ hS;obtain⟨z,its,n,rr,ll,e⟩:=I3.lstM hS3;have I4:=I3.lset (t':=s3.toks) (its':=[.ref p',u]) (ys:=[.ref p',v2]) (f:=λ_=>#[.ref p',u]) hS3 e rfl (.cons rfl (.cons rv2 .nil)) (by show 2<=sizeLine;decide);have hSI:It≠S:=λq=>by have:=fp3.1;rw[q,hS3]at this;cases this
    refine⟨its.toArray,n,e,by rw[K1,<-ll];exact z,ih (j+1) (some j) _ _ (by lia) (by lia) I4 ?_ ?_ ?_ ⟨by lia,p',m',v2,hp',hm',zdH hS3 ka3,C0,no⟩⟩
    .intro b o q;rw[N0 (λz=>by rw[z,hSH]at q;cases q)];exact PZ _ _ (sm _ _ q)
    .exact⟨by rw[N0 hSI];exact fp3.1,fp3.2⟩
    .obtain⟨oI,hoI,hoc,hod⟩:=Us;exact⟨oI,(JC _ _ _ _ hSI).trans hoI,hoc,hod⟩
   refine zF iE ?_;rw[sF T6 _];show wpAny _ X.A.in1 (seqItems? (.ref S)>>=_) _ _ _;cases b with
   |none=>
    obtain⟨j0,hS⟩:=BP;obtain⟨z,its,n,rr,ll,e⟩:=I.lstM hS;cases rr;refine z0 (SB e rfl ?_);show wpAny _ X.A.in1 (tryCatch (pyNext (.ref It)) _>>=_) _ _ _;refine z0 (VB (W.item j _ _ _ (by rw[vl];exact DC) ⟨gH,IH.isList⟩ λv h' Qt hP zek OZ=>?_));obtain rfl:v=.ref p':=by
     have hP:(ps.map Value.ref).toArray[j]?=some v:=hP;rw[GE,P1,hp']at hP;exact(M0 hP).symm
    show wpAny _ X.A.in1 (tryCatch (holding [.ref p'] (call (.ref f) [.ref p'])) _>>=_) _ _ _;refine turn [] [] n hS e _ _ _ (λu v2 H3 s3 I3 rv2 PZ ka3 fp3 Us=>?_) h' Qt zek.1 OZ _;obtain⟨zei,n3,e3,z3,c3⟩:=kept [] u v2 H3 s3 hS I3 rv2 PZ ka3 fp3 Us (λi' m'' hi' JW=>by
     have:i'=j:=by lia
     subst this;rw[hm']at JW;obtain rfl:=M0 JW;exact LS _)
    show wpAny _ X.A.in1 (updateSeq S (λ_=>#[.ref p',u])>>=_) _ _ _;refine z0 ?_;refine uK e3 rfl ?_;rw[Mg];exact S0 ⟨ZH T6 _,c3⟩
   |some i=>
    obtain⟨ij,p,m,v,hp,hm,ka,hS,no⟩:=BP;obtain⟨z,its,n,rr,ll,e⟩:=I.lstM hS;cases rr with
    |cons r1 rr=>
     cases rr with
     |cons r2 rr=>
      cases rr;cases r1;rename_i ub;have km:m∈ky:=M1 hm;refine z0 (SB e rfl ?_);show wpAny _ X.A.in1 (tryCatch (pyNext (.ref It)) _>>=_) _ _ _;refine z0 (VB (W.item j _ _ _ (by rw[vl];exact DC) ⟨gH,IH.isList⟩ λv0 h' Qt hP zek OZ=>?_));obtain rfl:v0=.ref p':=by
       have hP:(ps.map Value.ref).toArray[j]?=some v0:=hP;rw[GE,P1,hp']at hP;exact(M0 hP).symm
      show wpAny _ X.A.in1 (tryCatch (holding [.ref p'] (call (.ref f) [.ref p'])) _>>=_) _ _ _;refine turn _ [.ref p,ub] n hS e _ _ _ (λu v2 H3 s3 I3 rv2 PZ ka3 fp3 Us=>?_) h' Qt zek.1 OZ _;show wpAny _ X.A.in1 (tryCatch (holding [.ref p',u] (richCompare .Lt u ub>>=_)) _>>=_) _ _ _;refine z0 (VB (W4 (z0 (Um (A:=X.A.in1) I3 (by have:=hr.un;show X.A.units+1+1<cLine;lia) (hf.2 _ km' _ km) ka3 (IC.same PZ ka) rv2 r2 ?_))));refine z0 (W4 (M5 ?_));refine z0 (EH (S0 ?_));cases hc:tG m' m with
      |true=>
       simp only[cG];obtain⟨zei,n3,e3,z3,c3⟩:=kept _ u v2 H3 s3 hS I3 rv2 PZ ka3 fp3 Us (λi' m'' hi' JW=>by
        by_cases q:i'=j
        .subst q;rw[hm']at JW;obtain rfl:=M0 JW;exact LS _
        .cases q2:tG m'' m' with
         |false=>rfl
         |true=>
          have:=Mi q2 hc;rw[no i' m'' (by lia) JW]at this;cases this)
       refine z0 ?_;refine uK e3 rfl (z0 (EH ?_));rw[Mg];exact S0 ⟨ZH T6 _,c3⟩
      |false=>
       simp only[F3,N7];refine z0 (EH ?_);rw[Mg];refine S0 ⟨ZH T6 _,ih (j+1) (some i) s3 H3 (by lia) (by lia) I3 (sm.trans PZ) fp3 Us ⟨by lia,p,m,v,hp,hm,IC.same PZ ka,PZ _ _ hS,λi' m'' hi' JW=>?_⟩⟩;by_cases q:i'=j
       .subst q;rw[hm']at JW;obtain rfl:=M0 JW;exact hc
       .exact no i' m'' (by lia) JW
end
section
variable {k:Nat}
theorem za3{Q:VK}(F:EA X.prog X.w X.K X.mg X.base CX cm k f fd pn sp) (hr:R8 cm (k+1) X.A) (hh:X.A.handled=none) (hb:IB X.K fd pn []) (hx:BB CX (X.wish λ_ _=>False) E)
 (I:V2 X pins σ H s) (hl:SqL X.K H l (ps.map V.ref)) (hk:Rc X.K sp (E σ) H ps ky) (hf:Qw ky)
 (h:∀(i:Nat)(p:Addr)(m:List KI)(H':Hp),ps[i]?=some p->ky[i]?=some m->(∀(i':Nat)(m':List KI),ky[i']?=some m'->tG m' m=false)->Same H H'->Q (.ref p) H') (hN:ps=[]->∀H':Hp,Same H H'->Q .non H') :
   wpAny (model X.prog X.w) X.A (call (.builtin "min") [.ref l] [(Str.ofString "key",.ref f),(Str.ofString "default",.none)]) (EP X pins σ Q) X.xe s:=by
  have Mg:(toString "min" ++ toString ".loop": String) = "min.loop":= by decide
  obtain⟨its,rv,IH,hz⟩:=I.list hl;obtain rfl:=mM rv;obtain⟨ol,hol,_⟩:=id IH.isList;have hll:l<s.heap.objs.size:=K2 hol;refine kmk_tree PySem.F.kind_min PySem.F.plain_min PySem.F.entry_min (zdG _ _ _) ?_;show wpAny _ X.A.in1 (Builtin.Builtins.bindParams "min" ["key","default"] 0 ⟨[],[(Str.ofString "key",.ref f),(Str.ofString "default",.none)]⟩>>=_) _ _ s;refine z0 (wpAny_of_eq (show Builtin.Builtins.bindParams "min" ["key","default"] 0 ⟨[],[(Str.ofString "key",.ref f),(Str.ofString "default",.none)]⟩=pure [some (.ref f),some .none]from rfl) ?_);refine z0 (S0 ?_);refine z0 (rH IH.isList ?_);refine z0 (KM ?_ (D1 _));rw[Mg];have hS:(s.heap.push {cls:=.type "list_iterator",data:=.fields #[.ref l,.int 0 0]}).objs.size=s.heap.objs.size+1:=size_push' ..;refine S0 ⟨ZH T6 _,?_⟩;have gI:((s.heap.push {cls:=.type "list_iterator",data:=.fields #[.ref l,.int 0 0]}).push (seqObj "list" #[] 0)).get? s.heap.objs.size=some {cls:=.type "list_iterator",data:=.fields #[.ref l,.int 0 0]}:=
   V0 _ (V1 _ rfl)
  have gS:((s.heap.push {cls:=.type "list_iterator",data:=.fields #[.ref l,.int 0 0]}).push (seqObj "list" #[] 0)).get? (s.heap.push {cls:=.type "list_iterator",data:=.fields #[.ref l,.int 0 0]}).objs.size=some (seqObj "list" #[] 0):=V1 _ rfl;rw[hS]at gS;have hSf:H (s.heap.objs.size+1)=none:=I.hok.fresh (by lia);have hIf:H s.heap.objs.size=none:=I.hok.fresh (j1 _);have keep:∀b o,s.heap.get? b=some o->((s.heap.push {cls:=.type "list_iterator",data:=.fields #[.ref l,.int 0 0]}).push (seqObj "list" #[] 0)).get? b=some o:=λb o q=>V0 _ (V0 _ q);have I2:V2 X pins σ (upd H (s.heap.objs.size+1) (.lst [])) {s with heap:=(s.heap.push {cls:=.type "list_iterator",data:=.fields #[.ref l,.int 0 0]}).push (seqObj "list" #[] 0)}:=
   I.laid (t':=s.toks) keep (by lia) ⟨D1 _,[],0,.nil,gS⟩
  have fp:iL X pins (upd H (s.heap.objs.size+1) (.lst [])) s.heap.objs.size:=I.fpOk (j1 _) (by rw[N0 (K3 (ME _))];exact hIf);show codeAny (model X.prog X.w) X.A (.builtin "min.loop" ⟨[.ref s.heap.objs.size,.ref f,.ref (s.heap.push {cls:=.type "list_iterator",data:=.fields #[.ref l,.int 0 0]}).objs.size],[(Str.ofString "default",.none)]⟩) _ _;rw[hS];refine Rw (S:=s.heap.objs.size+1) F hr hh hb hx hk hf (K3 hll) hSf hl (λi p m H' s' hp hm no sm I'=>?_) (λe H' s' sm I'=>?_) _ 0 none _ _ rfl (D1 _) I2 (ZP hSf) fp ⟨_,gI,rfl,rfl⟩ ⟨rfl,C0⟩
  .exact⟨.ref p,H',I',rfl,h i p m H' hp hm no sm⟩
  .exact⟨.non,H',I',rfl,hN e H' sm⟩
end
def zdI(K:Frag)(sp:Sp)(E:St->XK)(t:TA):TE:=λσ H Q=>t σ H λxs H1=>∃(a:Addr)(ps:List Addr)(ky:List (List KI)),xs=[.ref a]/\SqL K H1 a (ps.map V.ref)/\Rc K sp (E σ) H1 ps ky/\Qw ky/\
 ∀(zs:List (Addr×List KI))(H':Hp)(p:Addr),(zs.map Prod.fst).Perm ps->(∀z∈zs,z∈ps.zip ky)->(zs.Pairwise λa b=>tG b.2 a.2=false)->Same H1 H'->H' p=some (.lst (zs.map λz=>V.ref z.1))->Q (.ref p) H'
def zfS(K:Frag)(sp:Sp)(E:St->XK)(t:TA):TE:=λσ H Q=>t σ H λxs H1=>∃(a:Addr)(ps:List Addr)(ky:List (List KI)),xs=[.ref a]/\SqL K H1 a (ps.map V.ref)/\Rc K sp (E σ) H1 ps ky/\Qw ky/\
 (∀(i:Nat)(p:Addr)(m:List KI)(H':Hp),ps[i]?=some p->ky[i]?=some m->(∀(i':Nat)(m':List KI),ky[i']?=some m'->tG m' m=false)->Same H1 H'->Q (.ref p) H')/\(ps=[]->∀H':Hp,Same H1 H'->Q .non H')
section
variable {k:Nat}{t:TA}{fn:Str}{p p2 pos kp dp dp2:Pos}{dk:Nat}
theorem Sw(F:EA X.prog X.w X.K X.mg X.base CX cm k f fd pn sp)(hr:R8 cm (k+1) X.A)(hg:Gl X "sorted")(hm:X.mg "sorted"= none)(hv:bootBuiltins "sorted"= some (.builtin "sorted"))(hgf:Gl X fn)(hmf:X.mg fn=some (.ref f))(hb:IB X.K fd pn [])(hx:BB CX (X.wish λ_ _=>False) E)(ha:PA X [e] t)
 (hd:(fn==("__debug__": Str))=false:=by decide) (h1:backTo pos (starEach [e] X.env)=(false,eval e X.env)::backTo pos (starEach [] X.env):=by rfl) (h2:(backTo pos (starEach [e] X.env)).any (·.1)=false:=by rfl) :
   PE X (.Call (.Name "sorted" p) [e] [⟨some "key",.Name fn p2,kp⟩] pos) (zdI X.K sp E t):=by
  intro pins s σ H Q I h;refine F6 (JH I hg hm hv ?_ (by decide) (by decide));refine callWith_kw (n8 (ha pos pins s σ H _ I h) λus s1 ⟨vs,H1,I1,r1,a,ps,ky,ex,hl,hk,hf,q⟩=>?_) h1 h2;subst ex;obtain rfl:=D4.ref1 r1;refine n8 ((qY (nm:=some "key") (kpos:=kp) (HB (v:=.ref f) (pos:=p2) hgf hmf rfl hd) Ou) pos pins s1 σ H1 (λxs H2=>xs=[.ref f]/\H2=H1) I1 ⟨rfl,rfl⟩) λkvs s2 ⟨vs2,H2,I2,r2,e2,e3⟩=>?_;subst e2;subst e3;obtain rfl:=D4.ref1 r2;exact Ni F hr hb hx I2 hl hk hf q
theorem za4(F:EA X.prog X.w X.K X.mg X.base CX cm k f fd pn sp)(hr:R8 cm (k+1) X.A)(hc:X.calm=true)(hg:Gl X "min")(hm:X.mg "min"= none)(hv:bootBuiltins "min"= some (.builtin "min"))(hgf:Gl X fn)(hmf:X.mg fn=some (.ref f))(hb:IB X.K fd pn [])(hx:BB CX (X.wish λ_ _=>False) E)(ha:PA X [e] t)
 (hd:(fn==("__debug__": Str))=false:=by decide) (h1:backTo pos (starEach [e] X.env)=(false,eval e X.env)::backTo pos (starEach [] X.env):=by rfl) (h2:(backTo pos (starEach [e] X.env)).any (·.1)=false:=by rfl) :
   PE X (.Call (.Name "min" p) [e] [⟨some "key",.Name fn p2,kp⟩,⟨some "default",.Constant .none dk dp,dp2⟩] pos) (zfS X.K sp E t):=by
  intro pins s σ H Q I h;refine F6 (JH I hg hm hv ?_ (by decide) (by decide));refine callWith_kw (n8 (ha pos pins s σ H _ I h) λus s1 ⟨vs,H1,I1,r1,a,ps,ky,ex,hl,hk,hf,q,qN⟩=>?_) h1 h2;subst ex;obtain rfl:=D4.ref1 r1;refine n8 ((qY (nm:=some "key") (kpos:=kp) (HB (v:=.ref f) (pos:=p2) hgf hmf rfl hd) (qY (nm:=some "default") (kpos:=dp2) (lY (j:=dk) (pos:=dp)) Ou)) pos pins s1 σ H1 (λxs H2=>xs=[.ref f,.non]/\H2=H1) I1 ⟨rfl,rfl⟩) λkvs s2 ⟨vs2,H2,I2,r2,e2,e3⟩=>?_;subst e2;subst e3;obtain rfl:kvs=[.ref f,.none]:=by
   cases r2 with
   |cons a1 r2=>
    cases r2 with
    |cons a2 r2=>
     cases r2;cases a1;cases a2;rfl
  exact za3 F hr (I2.ok.hd hc) hb hx I2 hl hk hf q qN
end
theorem Sc{tg:Expr}{td:TE}(he:PE X e td):PI X tg e (zdl td):=by
 intro pins s σ H R I h;refine n8 (he pins s σ H _ I h) λu s1 ⟨x,H1,I1,rx,d,o,kvs,ex,hd,q⟩=>?_;subst ex;obtain rfl:u=Value.ref d:=rx;obtain⟨hs,hgd,hx,es,ep,vs,Bp,hsz,kv,hm⟩:=I1.frzK hd;refine Xp hs hgd hx Bp (uT (tk:=s1.toks) I1 _ (Yp _ Bp) ⟨_,V1 _ rfl,rfl,?_⟩ q);rw[hsz]<;>rfl
end L2
namespace Wc
open Bd
variable {t:Bytes}{L:List Bytes}{y a m i n:Nat}{p:Part}{jC:String}{w:Wall}
def endAt(w:Wall)(d:Bytes)(y:Nat):Nat->Nat
 |0=>0
 |x+1=>match pieceOf (shown w d x y)with
  |some p=>x+p.length
  |none=>endAt w d y x
def Tw(w:Wall)(y L a m:Nat):Prop:=1<=m/\a+m<=L/\(∀k<m,w.isOpen (a+k) y=false)/\(a=0\/w.isOpen (a-1) y=true)/\(a+m=L\/w.isOpen (a+m) y=true)
theorem MS{w:Wall}{y a m:Nat}:∀(n i f:Nat),f<=i->(∀k,f<=k->k<i->w.isOpen k y=false)->(f=0\/w.isOpen (f-1) y=true)->((a,m)∈stretchesFrom w y n i (Ct f i)↔Tw w y (i+n) a m/\f<=a)
 |0,i,f,fi,no,st=>by
  rw[JY];by_cases c:f<i
  .rw[J0 c,Q1];constructor
   .intro e;obtain⟨rfl,rfl⟩:=WB e;exact⟨⟨by lia,by lia,λk hk=>no _ (by lia) (by lia),st,.inl (by lia)⟩,j1 _⟩
   .rintro⟨⟨h1,h2,h3,h4,h5⟩,h6⟩;have ea:a=f:=by
     rcases h4 with h|h
     .lia
     .by_cases q:a=f
      .exact q
      .rw[no (a-1) (by lia) (by lia)]at h;cases h
    subst ea;have em:a+m=i:=by
     rcases h5 with h|h
     .lia
     .by_cases q:a+m=i
      .exact q
      .rw[no (a+m) (by lia) (by lia)]at h;cases h
    rw[show m=i-a by lia]
  .rw[D0 c];constructor
   .grind
   .rintro⟨⟨h1,h2,_⟩,h6⟩
    lia
 |n+1,i,f,fi,no,st=>by
  by_cases ho:w.isOpen i y=true
  .rw[cU ho,F2,MS n (i+1) (i+1) (j1 _) (λk h1 h2=>by lia) (.inr (by rw[show i+1-1=i by lia];exact ho))];constructor
   .rintro(h|⟨h,h6⟩)
    .by_cases c:f<i
     .rw[J0 c,Q1]at h;obtain⟨rfl,rfl⟩:=WB h;exact⟨⟨by lia,by lia,λk hk=>no _ (by lia) (by lia),st,.inr (by rw[show a+(i-a)=i by lia];exact ho)⟩,j1 _⟩
     grind
    grind
   .rintro⟨h,h6⟩;by_cases c:i+1<=a
    .right;grind
    .left;obtain⟨h1,h2,h3,h4,h5⟩:=h;have ai:a≠i:=λe=>by
      grind
     have ea:a=f:=by
      rcases h4 with h|h
      .lia
      .by_cases q:a=f
       .exact q
       .rw[no (a-1) (by lia) (by lia)]at h;cases h
     subst ea;have em:a+m=i:=by
      by_cases q:a+m<=i
      .rcases h5 with h|h
       .lia
       .by_cases q2:a+m=i
        .exact q2
        .rw[no (a+m) (by lia) (by lia)]at h;cases h
      .have:=h3 (i-a) (by lia);grind
     rw[J0 (by lia),Q1,show m=i-a by lia]
  .have Sg:w.isOpen i y=false:=by simpa using ho
   rw[dU fi Sg,MS n (i+1) f (by lia) (λk h1 h2=>by
    by_cases q:k=i
    .grind
    .exact no k h1 (by lia)) st,show i+1+n=i+(n+1) by lia]
theorem FL:(a,m)∈w.stretches y↔Tw w y w.long a m:=by
 have z:=MS (w:=w) (y:=y) (a:=a) (m:=m) w.long 0 0 (j1 _) (λk h1 h2=>by lia) (.inl rfl);rw[fG]at z;constructor
 .intro h;exact(z.mp h).1
 .intro h;exact z.mpr ⟨h,D1 _⟩
theorem nU{w:Wall}{y:Nat}:∀(n i f:Nat),f<=i->(∀k,f<=k->k<i->w.isOpen k y=false)->(f=0\/w.isOpen (f-1) y=true)->(stretchesFrom w y n i (Ct f i)).Pairwise λs t=>s.1+s.2<t.1
 |0,i,f,fi,no,st=>by
  rw[JY];by_cases c:f<i
  .grind
  .rw[D0 c];exact .nil
 |n+1,i,f,fi,no,st=>by
  by_cases ho:w.isOpen i y=true
  .have O9:i+1=0\/w.isOpen (i+1-1) y=true:=.inr (by rw[show i+1-1=i by lia];exact ho);rw[cU ho];have ih:=nU (w:=w) (y:=y) n (i+1) (i+1) (j1 _) (λk h1 h2=>by lia) O9;by_cases c:f<i
   .rw[J0 c];refine qD.mpr ⟨λt ht=>?_,ih⟩;have:=((MS (a:=t.1) (m:=t.2) n (i+1) (i+1) (j1 _) (λk h1 h2=>by lia) O9).mp ht).2
    lia
   .rw[D0 c];exact ih
  .have Sg:w.isOpen i y=false:=by simpa using ho
   rw[dU fi Sg];exact nU n (i+1) f (by lia) (λk h1 h2=>by
    by_cases q:k=i
    .grind
    .exact no k h1 (by lia)) st
theorem RY(w:Wall)(y:Nat):(w.stretches y).Pairwise λs t=>s.1+s.2<t.1:=nU w.long 0 0 (j1 _) (λk h1 h2=>by lia) (.inl rfl)
theorem aW(w:Wall)(y:Nat):(w.stretches y).Nodup:=(RY w y).imp λ{s t} h e=>by
 rw[e]at h
 lia
theorem Tc(w:Wall)(s:Nat×Nat)(y:Nat):(∀k<w.runOf s y,y+k<w.high/\s∈w.stretches (y+k))/\(y+w.runOf s y<w.high->s∉w.stretches (y+w.runOf s y)):=by
 unfold Wall.runOf;have gen:∀(p:Nat->Bool)(l:List Nat),(∀k<(l.takeWhile p).length,∃x,l[k]?=some x/\p x=true)/\∀x,l[(l.takeWhile p).length]?=some x->p x=false:=by
  intro p l
  induction l with
  |nil=>exact⟨λk hk=>by simp at hk,λx h=>by simp at h⟩
  |cons z l ih=>
   rw[HC];by_cases c:p z=true
   .rw[J0 c];refine⟨λk hk=>?_,λx h=>ih.2 x (by simpa using h)⟩;cases k with
    |zero=>exact⟨z,rfl,c⟩
    |succ k=>exact ih.1 k (by simpa using hk)
   .rw[D0 c];refine⟨λk hk=>by simp at hk,λx h=>?_⟩;obtain rfl:=M0 h;simpa using c
 obtain⟨g1,g2⟩:=gen (λk=>(w.stretches (y+k)).contains s) (List.range (w.high-y));generalize ((List.range (w.high-y)).takeWhile λk=>(w.stretches (y+k)).contains s).length=n at g1 g2;refine⟨λk hk=>?_,λh=>?_⟩
 .obtain⟨x,hx,hp⟩:=g1 k hk;have l:=(P0.mp hx).1;rw[o6]at l;rw[Z6 l]at hx;obtain rfl:=M0 hx;exact⟨by lia,EB.mp hp⟩
 .have z:=g2 n (Z6 (by lia));intro q;rw[EB.mpr q]at z;cases z
theorem BO:p∈w.parts↔p.y<w.high/\(p.x,p.long)∈w.stretches p.y/\¬(0<p.y/\(p.x,p.long)∈w.stretches (p.y-1))/\p.high=w.runOf (p.x,p.long) p.y:=by
 unfold Wall.parts;rw[R7];constructor
 .rintro⟨y,hy,h⟩;grind
 .rintro⟨h1,h2,h3,h4⟩;refine⟨p.y,w6.mpr h1,S2.mpr ⟨(p.x,p.long),R4.mpr ⟨h2,?_⟩,?_⟩⟩
  .rw[P3,S4];grind
  .obtain⟨x,y,l,h⟩:=p;grind
theorem GH(h:p∈w.parts)(h1:p.y<=y)(h2:y<p.y+p.high):y<w.high/\Tw w y w.long p.x p.long:=by
 obtain⟨_,_,_,e⟩:=BO.mp h;have z:=(Tc w (p.x,p.long) p.y).1 (y-p.y) (by lia);rw[show p.y+(y-p.y)=y by lia]at z;exact⟨z.1,FL.mp z.2⟩
theorem Uc(h:p∈w.parts):1<=p.high/\p.y+p.high<=w.high:=by
 obtain⟨h1,h2,_,e⟩:=BO.mp h;obtain⟨g1,g2⟩:=Tc w (p.x,p.long) p.y;have a:1<=p.high:=by
  by_cases c:p.high=0
  .rw[<-e,c,Nat.add_zero]at g2;exact absurd h2 (g2 h1)
  .lia
 refine⟨a,?_⟩;have:=(g1 (p.high-1) (by lia)).1
 lia
section
variable (w:Wall)(G:Nat->Nat×Nat->Nat)
end
theorem readRow_len:∀{x:Bytes}{r:Row},readRow x=some r->r.length=x.length:=by
 intro x
 induction x with
 |nil=>
  intro r h;have:r=[]:=by
   grind [readRow]
  rw[this];rfl
 |cons c x ih=>
  intro r h;unfold readRow at h;rw[W8]at h;cases hp:pieceOf c with
  |none=>grind
  |some p=>
   rw[hp]at h;cases hx:List.mapM pieceOf x with
   |none=>grind
   |some s=>
    rw[hx]at h;have e:p::s=r:=M0 h;rw[<-e,N1,N1,ih hx]
theorem oU(L:List Bytes):∀(f i:Nat)(l r:List Row),coursesAt L f i l=.ok r->(∀c∈l,c.length<=8)->(∀c∈r,c.length<=8)/\l.length<=r.length/\(0<f->i<L.length->r≠[])
 |0,i,l,r,h,hl=>by
  obtain rfl:=Z2 h;grind
 |f+1,i,l,r,h,hl=>by
  unfold coursesAt at h;by_cases c:L.length<=i
  .rw[J0 c]at h;obtain rfl:=Z2 h;exact⟨hl,j1 _,λ_ z=>absurd z (by lia)⟩
  .rw[D0 c]at h;cases hx:lineAt L i "course" isBig with
   |error e=>grind
   |ok x=>
    rw[hx]at h;dsimp only at h;by_cases c2:PATTERN<x.length
    .grind
    .rw[D0 c2]at h;cases hy:lettersOf (λr=>r.all λp=>!p.isCut) x with
     |none=>grind
     |some s=>
      rw[hy]at h;dsimp only at h;by_cases c3:COURSES<=l.length
      .grind
      .rw[D0 c3]at h;have sl:s.length<=8:=by
        unfold lettersOf at hy;cases hz:readRow x with
        |none=>grind
        |some u=>
         rw[hz,F4]at hy;by_cases c4:(u.all λp=>!p.isCut)=true
         .rw[J0 c4]at hy;obtain rfl:=M0 hy;rw[readRow_len hz];unfold PATTERN at c2
          lia
         all_goals grind
       obtain⟨g1,g2,g3⟩:=oU L f (i+1) (l++[s]) r h (λz hz=>by
        rcases F2.mp hz with q|q
        .exact hl z q
        .rw[Q1.mp q];exact sl)
       rw[T1,D8]at g2;exact⟨g1,by lia,λ_ _ q=>by rw[q]at g2;simp at g2⟩
theorem aQ{lo hi:Nat}(h:numberAt L i jC lo hi=.ok n):lo<=n/\n<=hi:=by
 grind [numberAt]
theorem za5{b:Bond}(h:judge t=.ok b):1<=b.lap/\b.courses≠[]/\∀c∈b.courses,c.length<=8:=by
 unfold judge at h;dsimp only at h;generalize (linesOf t).1++(if (linesOf t).2=[]then[]else[[]])=L at h;cases h0:lineAt L 0 "bond" isSmall with
 |error e=>rw[h0]at h;cases h
 |ok name=>
  rw[h0]at h;dsimp only at h;by_cases c0:NAME<name.length
  .rw[J0 c0]at h;cases h
  rw[D0 c0]at h;cases h1:numberAt L 1 "lap" 1 3 with
  |error e=>rw[h1]at h;cases h
  |ok lap=>
   rw[h1]at h;dsimp only at h;cases h2:numberAt L 2 "most" 0 2 with
   |error e=>rw[h2]at h;cases h
   |ok most=>
    rw[h2]at h;dsimp only at h;generalize (if most=0 then(.ok []:Except Fault Row)else match lineAt L 3 "makes" isBig with
     |.error e=>.error e
     |.ok x=>match lettersOf inOrder x with
      |none=>.error (3,3)
      |some r=>.ok r)=mk at h
    cases mk with
    |error e=>cases h
    |ok makes=>
     dsimp only at h;by_cases c1:L.length<=(if most=0 then 3 else 4)
     .rw[J0 c1]at h;cases h
     rw[D0 c1]at h;cases h3:coursesAt L (L.length+1) (if most=0 then 3 else 4) []with
     |error e=>rw[h3]at h;cases h
     |ok l=>
      rw[h3]at h;obtain rfl:=Z2 h;obtain⟨g1,g2,g3⟩:=oU L _ _ _ _ h3 (λc hc=>by cases hc);exact⟨(aQ h1).1,g3 (by lia) (by lia),g1⟩
theorem Oi(h:Bd.endAt L i jC=.ok n):n<=2:=by
 grind [Bd.endAt,endIn]
theorem An{most:Nat}(h:sizeAt L i jC most=.ok n):1<=n/\n<=most:=by
 grind [sizeAt]
theorem za6(h:judgeWall t=.ok w):w.left<=2/\w.right<=2/\w.reveal<=2/\1<=w.high/\1<=w.long:=by
 unfold judgeWall at h;dsimp only at h;generalize (linesOf t).1++(if (linesOf t).2=[]then[]else[[]])=L at h;cases h0:lineAt L 0 "wall" isSmall with
 |error e=>grind
 |ok name=>
 rw[h0]at h;dsimp only at h;by_cases c0:NAME<name.length
 .grind
 rw[D0 c0]at h;cases h1:sizeAt L 1 "long" LENGTH with
 |error e=>grind
 |ok long=>
 rw[h1]at h;cases h2:sizeAt L 2 "high" HIGH with
 |error e=>grind
 |ok high=>
 rw[h2]at h;dsimp only at h;cases h3:Bd.endAt L 3 "left" with
 |error e=>grind
 |ok left=>
 rw[h3]at h;cases h4:Bd.endAt L 4 "right" with
 |error e=>grind
 |ok right=>
 rw[h4]at h;cases h5:Bd.endAt L 5 "reveal" with
 |error e=>grind
 |ok reveal=>
 rw[h5]at h;cases h6:opensAt L long high (L.length+1) 6 []with
 |error e=>grind
 |ok l=>
  rw[h6]at h;obtain rfl:=Z2 h;exact⟨Oi h3,Oi h4,Oi h5,(An h2).1,(An h1).1⟩
end Wc
namespace Wg
open Bd Wf
variable {b:Bond}{F:Filled}{O P:List (List Row)}{D:List (Nat×Row)}{dB:List Nat}{l m:List Row}{n i x y:Nat}{q:Nat×Piece}{p:Panel}{z:Part×List Row}{r s:Row}{w:Wall}
def P6(r:Row):Nat:=bitsOf (jointsOf r)
theorem bQ:∀(x:Nat)(r:Row),(jointsFrom x r).Pairwise (·<·)/\∀j∈jointsFrom x r,x<j
 |x,[]=>⟨.nil,λj h=>nomatch h⟩
 |x,[p]=>⟨.nil,λj h=>nomatch h⟩
 |x,p::q::r=>by
  obtain⟨h1,h2⟩:=bQ (x+p.length) (q::r);have pp:=c9 p;refine⟨qD.mpr ⟨h2,h1⟩,λj hj=>?_⟩;rcases S1.mp hj with rfl|m
  .lia
  .have:=h2 j m
   lia
theorem fN:∀(x:Nat)(r:Row),(jointsFrom x r).length=r.length-1
 |x,[]=>rfl
 |x,[p]=>rfl
 |x,p::q::r=>by
  show(jointsFrom (x+p.length) (q::r)).length+1=_;rw[fN];simp
theorem cQ:∀(x:Nat)(r:Row),∀j∈jointsFrom x r,j<x+lengthOf r
 |x,[],j,h=>nomatch h
 |x,[p],j,h=>nomatch h
 |x,p::q::r,j,h=>by
  have pq:=c9 q;rw[C3,C3];rcases S1.mp h with rfl|m
  .lia
  .have:=cQ _ _ j m;rw[C3]at this
   lia
theorem Uw(h:lengthOf r<=n):P6 r<2^n:=jH _ λi hi=>by
 unfold P6;rw[JA];refine Y0 λq=>?_;have:=cQ 0 r i q
 lia
theorem ZQ(h:P6 r=P6 s)(hr:r≠[])(hs:s≠[]):r.length=s.length:=by
 have m:∀j,j∈jointsOf r↔j∈jointsOf s:=λj=>by
  have z:(P6 r).testBit j=(P6 s).testBit j:=by rw[h]
  unfold P6 at z;rw[JA,JA,S3]at z;exact z
 have nr:(jointsOf r).Nodup:=(bQ 0 r).1.imp λh=>K3 h;have ns:(jointsOf s).Nodup:=(bQ 0 s).1.imp λh=>K3 h;have e:=((List.perm_ext_iff_of_nodup nr ns).mpr m).length_eq;unfold jointsOf at e;rw[fN,fN]at e;have:=D5.mpr hr;have:=D5.mpr hs
 lia
def YE(r s:Row):Prop:=cutsOf r<cutsOf s\/(cutsOf r=cutsOf s/\(r=s\/rowBefore r s=true))
theorem YE.refl(r:Row):YE r r:=.inr ⟨rfl,.inl rfl⟩
theorem YE.trans{t:Row}(h1:YE r s) (h2:YE s t):YE r t:=by
 rcases h1 with h1|⟨e1,h1⟩
 .rcases h2 with h2|⟨e2,h2⟩
  .exact .inl (by lia)
  .exact .inl (by lia)
 .rcases h2 with h2|⟨e2,h2⟩
  .exact .inl (by lia)
  .refine .inr ⟨by lia,?_⟩;rcases h1 with rfl|h1
   .exact h2
   .rcases h2 with rfl|h2
    .exact .inr h1
    .exact .inr (fU h1 h2)
structure SY(b:Bond)(p:Panel)(k:Nat)(D:List (Nat×Row)):Prop where
 good:∀z∈D,z.1=P6 z.2/\z.2∈rowsOf b k p.length p.left p.right
 nd:(D.map Prod.fst).Nodup
 all:∀r∈rowsOf b k p.length p.left p.right,∃z∈D,z.1=P6 r/\YE z.2 r
def Y6(l:List Row):Nat:=P6 (l.headD [])
structure PJ(b:Bond)(p:Panel)(n k:Nat)(P:List (List Row)):Prop where
 good:∀l∈P,BL b p k l/\l.length=n+1
 nd:(P.map Y6).Nodup
 all:∀m,BL b p k m->m.length=n+1->∃l∈P,Y6 l=Y6 m/\(l=m\/sooner l m=true)
theorem TY{k:Nat}(hp:1<=p.length) (h:r∈rowsOf b k p.length p.left p.right):r≠[]:=by
 rintro rfl;have z:=(yO.mp h).1;have e:lengthOf ([]:Row)=0:=rfl
 lia
theorem aR(h1:YE r s)(hp:r.length=s.length)(h2:l=m\/sooner l m=true):r::l=s::m\/sooner (r::l) (s::m)=true:=by
 have c2:cutsIn l<=cutsIn m:=by
  grind [VH]
 rcases h1 with h1|⟨e1,h1⟩
 .right;grind [VH,TB]
 .rcases h1 with rfl|h1
  .rcases h2 with rfl|h2
   .grind
   .exact .inr (by rw[Nm];exact h2)
  .right;rw[VH,TB,TB,yB,yB,KJ,h1];rcases h2 with rfl|h2
   .grind
   .rcases(VH l m).mp h2 with q|⟨q1,q⟩
    .lia
    .rcases q with q|⟨q2,q⟩
     all_goals grind
theorem Zq{k:Nat}(hp:1<=p.length) (h:SY b p k D):PJ b p 0 k (D.map λz=>[z.2]):=by
 refine⟨λl hl=>?_,?_,λm hm hl=>?_⟩
 .obtain⟨z,hz,rfl⟩:=S2.mp hl;exact⟨⟨(h.good z hz).2,(λs hs=>by cases hs),trivial⟩,rfl⟩
 .rw[B3];rw[show D.map (Y6 ∘ λz=>[z.2])=D.map Prod.fst from b7 λz hz=>(h.good z hz).1.symm];exact h.nd
 .match m,hl,hm with
  |[r],_,hm=>
   obtain⟨z,hz,e,be⟩:=h.all r hm.1;refine⟨[z.2],S2.mpr ⟨z,hz,rfl⟩,?_,?_⟩
   .show P6 z.2=P6 r;rw[<-(h.good z hz).1,e]
   .refine aR be ?_ (.inl rfl);exact ZQ (by rw[<-(h.good z hz).1,e]) (TY hp (h.good z hz).2) (TY hp hm.1)
def gN(lap j:Nat)(O:List (List Row)):Option (List Row):=O.find? λl=>near lap j&&&Y6 l==0
theorem pU(lap:Nat)(r s:Row):(near lap (P6 r)&&&P6 s==0)=true↔rX lap (jointsOf s) (jointsOf r):=mD lap (jointsOf r) (jointsOf s)
theorem qU(ord:O.Pairwise λl m=>¬sooner m l=true){q:List Row->Bool}(h:O.find? q=some l):l∈O/\q l=true/\∀m∈O,q m=true->¬sooner m l=true:=by
 obtain⟨h1,as,bs,rfl,h2⟩:=cB.mp h;refine⟨by simp,h1,λm hm qm=>?_⟩;rcases F2.mp hm with i|i
 .grind
 .rcases S1.mp i with rfl|i
  .exact QP _
  .exact(qD.mp (List.pairwise_append.mp ord).2.1).1 m i
theorem wX{k:Nat}(hl:BL b p k l) (hm:BL b p k m) (ll:l.length=n) (lm:m.length=n) (h:¬sooner m l=true):l=m\/sooner l m=true:=by
 rcases hU (LJ hl ll) (LJ hm lm)with e|e|e
 all_goals grind
theorem dQ{α β:Type}{f:α->Nat}{g:α->Option β}{h:β->Nat}:∀{l:List α},(∀a∈l,∀b,g a=some b->h b=f a)->(l.map f).Nodup->((l.filterMap g).map h).Nodup
 |[],_,_=>by simp
 |a::l,hg,nd=>by
  rw[L3,S5]at nd;have hg':∀a∈l,∀b,g a=some b->h b=f a:=λc hc=>hg c (by simp[hc]);cases e:g a with
  |none=>
   rw[List.filterMap_cons_none e];exact dQ hg' nd.2
  |some b=>
   rw[List.filterMap_cons_some e,L3,S5];refine⟨λq=>?_,dQ hg' nd.2⟩;obtain⟨c,hc,ec⟩:=S2.mp q;obtain⟨a',Mt,ea'⟩:=C6.mp hc;exact nd.1 (S2.mpr ⟨a',Mt,by rw[<-hg' a' Mt c ea',ec,hg a (by simp) b e]⟩)
def ZE(lap:Nat)(D:List (Nat×Row))(O:List (List Row)):List (List Row):=D.filterMap λz=>(gN lap z.1 O).map λl=>z.2::l
theorem Pi{k:Nat}(hp:1<=p.length) (h:SY b p k D) (hP:PJ b p n (k+1) P) (pm:O.Perm P) (ord:O.Pairwise λl m=>¬sooner m l=true) :
  PJ b p (n+1) k (ZE b.lap D O):=by
 have hd:∀l∈P,∃s t,l=s::t:=λl hl=>by
  have:=(hP.good l hl).2;cases l with
  |nil=>simp at this
  |cons s t=>grind
 refine⟨λl hl=>?_,?_,λm hm hl=>?_⟩
 .obtain⟨z,hz,e⟩:=C6.mp hl;cases hf:gN b.lap z.1 O with
  |none=>grind
  |some a=>
   rw[hf]at e;obtain rfl:z.2::a=l:=M0 e;obtain⟨ma,qa,_⟩:=qU ord hf;have ma:=pm.mem_iff.mp ma;obtain⟨s,t,rfl⟩:=hd a ma;refine⟨⟨(h.good z hz).2,λs' hs=>?_,(hP.good _ ma).1⟩,by rw[N1,(hP.good _ ma).2]⟩;obtain rfl:s=s':=M0 hs;refine(pU b.lap z.2 s).mp ?_;rw[<-(h.good z hz).1];exact qa
 .refine dQ (f:=Prod.fst) (λz hz l e=>?_) h.nd;cases hf:gN b.lap z.1 O with
  |none=>grind
  |some a=>
   rw[hf]at e;obtain rfl:z.2::a=l:=M0 e;exact(h.good z hz).1.symm
 .match m,hl,hm with
  |r::m',hl,hm=>
   have To:m'.length=n+1:=by simpa using hl
   obtain⟨v,mv,hv,bv⟩:=hP.all m' hm.2.2 To;obtain⟨z,hz,e,be⟩:=h.all r hm.1;obtain⟨s,t,rfl⟩:=hd v mv;obtain⟨s',t',rfl⟩:∃s' t',m'=s'::t':=by
    cases m' with
    |nil=>simp at To
    |cons s' t'=>grind
   have pv:(near b.lap z.1&&&Y6 (s::t)==0)=true:=by
    rw[hv,e];exact(pU b.lap r s').mpr (hm.2.1 s' rfl)
   have hO:(s::t)∈O:=pm.mem_iff.mpr mv;cases hf:gN b.lap z.1 O with
   |none=>exact absurd pv (rD.mp hf _ hO)
   |some a=>
    obtain⟨ma,qa,wF⟩:=qU ord hf;have ma':=pm.mem_iff.mp ma;have le:=wX (hP.good _ ma').1 (hP.good _ mv).1 (hP.good _ ma').2 (hP.good _ mv).2 (wF _ hO pv);refine⟨z.2::a,C6.mpr ⟨z,hz,by rw[hf];rfl⟩,?_,?_⟩
    .show P6 z.2=P6 r;rw[<-(h.good z hz).1,e]
    .refine aR be (ZQ (by rw[<-(h.good z hz).1,e]) (TY hp (h.good z hz).2) (TY hp hm.1)) ?_;rcases le with rfl|le
     .exact bv
     .rcases bv with q|q
      .grind
      .exact .inr (UI le q)
theorem za7(hc:1<=p.courses)(h:PJ b p (p.courses-1) p.first P)(ml:l∈P)(pl:Y6 l&&&near b.lap (bitsOf dB)=0)(wF:∀m∈P,Y6 m&&&near b.lap (bitsOf dB)=0->¬sooner m l=true):fillOf b p dB=some l:=by
 obtain⟨sl,ll⟩:=h.good l ml;have ap:∀m:List Row,m≠[]->(Y6 m&&&near b.lap (bitsOf dB)=0↔∀s,m.head?=some s->rX b.lap (jointsOf s) dB):=λm hm=>by
  cases m with
  |nil=>grind
  |cons s t=>
   rw[QJ,<-O4];show(near b.lap (bitsOf dB)&&&bitsOf (jointsOf s)==0)=true↔_;rw[mD];grind
 have ne:∀m:List Row,m.length=p.courses-1+1->m≠[]:=λm hm e=>by rw[e]at hm;simp at hm
 refine zaV hc ⟨sl,by lia,(ap l (ne l ll)).mp pl⟩ λm ⟨sm,lm,am⟩=>?_;obtain⟨v,mv,hv,bv⟩:=h.all m sm (by lia);have pv:Y6 v&&&near b.lap (bitsOf dB)=0:=by
  grind
 have le:=wX sl (h.good v mv).1 ll (h.good v mv).2 (wF v mv pv);rcases le with rfl|le
 .rcases bv with q|q
  all_goals grind
 .rcases bv with q|q
  .grind
  .exact .inr (UI le q)
theorem za8(hc:1<=p.courses)(h:PJ b p (p.courses-1) p.first P)(no:∀m∈P,Y6 m&&&near b.lap (bitsOf dB)≠0):fillOf b p dB=none:=by
 cases hf:fillOf b p dB with
 |none=>rfl
 |some m=>
  obtain⟨⟨sm,lm,am⟩,_⟩:=RP hc hf;obtain⟨v,mv,hv,_⟩:=h.all m sm (by lia);refine absurd ?_ (no v mv);rw[hv];cases m with
  |nil=>simp at lm;lia
  |cons s t=>
   rw[QJ,<-O4];exact(mD b.lap dB (jointsOf s)).mpr (am s rfl)
structure jE(b:Bond):Prop where
 lap1:1<=b.lap
 lap3:b.lap<=3
 most:b.most<=2
 makes:b.makes.length<=5
 some:0<b.most->b.makes≠[]
 ne:b.courses≠[]
 one:∀c∈b.courses,c≠[]
 len:∀c∈b.courses,c.length<=8
theorem Bn{L:List Bytes}{w:String}{ok:UInt8->Bool}{x:Bytes}(h:lineAt L i w ok=.ok x):x≠[]:=by
 unfold lineAt at h;cases e:(L[i]?).bind (formed w ok)with
 |none=>grind
 |some y=>
  obtain⟨l,_,hl⟩:=FD.mp e;obtain⟨z,_,hz⟩:=FD.mp hl;grind
theorem GL{ok:Row->Bool}{x:Bytes}(h:lettersOf ok x=some r):r.length=x.length/\ok r=true:=by
 obtain⟨u,hu,h⟩:=FD.mp h;by_cases c:ok u=true
 .rw[J0 c]at h;obtain rfl:=M0 h;exact⟨Wc.readRow_len hu,c⟩
 grind
theorem KS(p:Piece):p.rank<5:=by cases p<;>decide
theorem xX:∀(p:Piece)(r:Row),inOrder (p::r)=true->r.length+p.rank<5
 |p,[],_=>by
  have:=KS p;simpa using this
 |p,q::r,h=>by
  have h:(decide (p.rank<q.rank)&&inOrder (q::r))=true:=h;rw[E1,O0]at h;have:=xX q r h.2;rw[N1]
  lia
theorem Qi(h:inOrder r=true):r.length<=5:=by
 cases r with
 |nil=>simp
 |cons p r=>
  have:=xX p r h;rw[N1]
  lia
theorem bR(L:List Bytes):∀(f i:Nat)(l r:List Row),coursesAt L f i l=.ok r->(∀c∈l,c≠[])->∀c∈r,c≠[]
 |0,i,l,r,h,hl=>by
  obtain rfl:=Z2 h;exact hl
 |f+1,i,l,r,h,hl=>by
  unfold coursesAt at h;by_cases c:L.length<=i
  .grind
  .rw[D0 c]at h;cases hx:lineAt L i "course" isBig with
   |error e=>grind
   |ok x=>
    rw[hx]at h;dsimp only at h;by_cases c2:PATTERN<x.length
    .grind
    .rw[D0 c2]at h;cases hy:lettersOf (λr=>r.all λp=>!p.isCut) x with
     |none=>grind
     |some s=>
      rw[hy]at h;dsimp only at h;by_cases c3:COURSES<=l.length
      .grind
      .rw[D0 c3]at h;refine bR L f (i+1) (l++[s]) r h λz hz=>?_;rcases F2.mp hz with q|q
       .exact hl z q
       .rw[Q1.mp q];rintro rfl;have e:=(GL hy).1;exact Bn hx (d4.mp e.symm)
theorem Ar{t:Bytes}(h:judge t=.ok b):jE b:=by
 obtain⟨g1,g2,g3⟩:=za5 h;unfold judge at h;dsimp only at h;generalize (linesOf t).1++(if (linesOf t).2=[]then[]else[[]])=L at h;cases h0:lineAt L 0 "bond" isSmall with
 |error e=>grind
 |ok name=>
  rw[h0]at h;dsimp only at h;by_cases c0:NAME<name.length
  .grind
  rw[D0 c0]at h;cases h1:numberAt L 1 "lap" 1 3 with
  |error e=>grind
  |ok lap=>
   rw[h1]at h;cases h2:numberAt L 2 "most" 0 2 with
   |error e=>grind
   |ok most=>
    rw[h2]at h;dsimp only at h;generalize hk:(if most=0 then(.ok []:Except Fault Row)else match lineAt L 3 "makes" isBig with
     |.error e=>.error e
     |.ok x=>match lettersOf inOrder x with
      |none=>.error (3,3)
      |some r=>.ok r)=mk at h
    cases mk with
    |error e=>cases h
    |ok makes=>
     dsimp only at h;have mk:makes.length<=5/\(0<most->makes≠[]):=by
      by_cases c1:most=0
      .grind
      .rw[D0 c1]at hk;cases hx:lineAt L 3 "makes" isBig with
       |error e=>grind
       |ok x=>
        rw[hx]at hk;dsimp only at hk;cases hy:lettersOf inOrder x with
        |none=>grind
        |some r=>
         rw[hy]at hk;obtain rfl:=Z2 hk;refine⟨Qi (GL hy).2,λ_=>?_⟩;rintro rfl;exact Bn hx (d4.mp (GL hy).1.symm)
     by_cases ci:L.length<=(if most=0 then 3 else 4)
     .grind
     .rw[D0 ci]at h;cases hl:coursesAt L (L.length+1) (if most=0 then 3 else 4) []with
      |error e=>grind
      |ok l=>
       rw[hl]at h;obtain rfl:=Z2 h;exact⟨g1,(aQ h1).2,(aQ h2).2,mk.1,mk.2,g2,bR L _ _ _ _ hl (λc hc=>nomatch hc),g3⟩
theorem Br(h:jE b)(k:Nat):b.course k∈b.courses:=by
 unfold Bond.course;have hp:=D5.mpr h.ne;have hl:=bN k hp;grind
def zdJ(b:Bond)(r:Row):Prop:=r.length<=b.most/\∀p∈r,p∈b.makes
theorem Vc{k:Nat}:(∃left,zdJ b left/\∃i<(b.course k).length,∃m right,zdJ b right/\r=(left++repeated (b.course k) i m)++right/\lengthOf r=n)↔lengthOf r=n/\Ii b k r:=by
 constructor
 .rintro⟨left,h1,i,hi,m,right,h2,rfl,hl⟩;exact⟨hl,left,repeated (b.course k) i m,right,by rw[b9],h1.1,h2.1,h1.2,h2.2,i,hi,by rw[Om]⟩
 .rintro⟨hl,p,m,q,rfl,p1,q1,p2,q2,i,hi,m1⟩;exact⟨p,⟨p1,p2⟩,i,hi,m.length,q,⟨q1,q2⟩,by rw[<-m1,b9],hl⟩
structure UY(w:Wall)(F:Filled):Prop where
 part:∀z∈F,z.1∈w.parts
 high:∀z∈F,z.2.length=z.1.high
 long:∀z∈F,∀r∈z.2,lengthOf r=z.1.long
theorem RJ:∀{x:Nat}{r:Row}{z:Nat×Piece},z∈placed x r↔∃i,r[i]?=some z.2/\z.1=x+lengthOf (r.take i)
 |x,[],z=>by
  constructor
  .intro h;cases h
  .rintro⟨i,h,_⟩;simp at h
 |x,p::r,z=>by
  show z∈(x,p)::placed (x+p.length) r↔_;rw[S1,RJ];constructor
  .rintro(rfl|⟨i,h1,h2⟩)
   .exact⟨0,rfl,rfl⟩
   .refine⟨i+1,by simpa using h1,?_⟩;rw[h2,KA,C3]
    lia
  .rintro⟨i,h1,h2⟩;cases i with
   |zero=>
    left;have e:p=z.2:=by simpa using h1
    have e2:z.1=x:=by rw[h2];rfl
    rw[e,<-e2]
   |succ i=>
    right;refine⟨i,by simpa using h1,?_⟩;rw[h2,KA,C3]
    lia
theorem jN:∀{x j:Nat}{r:Row},j∈jointsFrom x r↔∃i,1<=i/\i<r.length/\j=x+lengthOf (r.take i)
 |x,j,[]=>by
  constructor
  .intro h;cases h
  .rintro⟨i,h1,h2,_⟩;simp at h2
 |x,j,[p]=>by
  constructor
  .intro h;cases h
  .rintro⟨i,h1,h2,_⟩;simp at h2
   lia
 |x,j,p::q::r=>by
  show j∈(x+p.length)::jointsFrom (x+p.length) (q::r)↔_;rw[S1,jN];constructor
  .rintro(rfl|⟨i,h1,h2,h3⟩)
   .refine⟨1,j1 _,by simp,?_⟩;rfl
   .refine⟨i+1,by lia,by simpa using h2,?_⟩;rw[h3,KA,C3]
    lia
  .rintro⟨i,h1,h2,h3⟩;cases i with
   |zero=>lia
   |succ i=>
    by_cases c:i=0
    .left;subst c;rw[h3];rfl
    .right;refine⟨i,by lia,by simpa using h2,?_⟩;rw[h3,KA,C3]
     lia
theorem za9(r:Row)(i:Nat):lengthOf (r.take i)<=lengthOf r:=by
 grind [Z3,Z9]
theorem Vw(h1:1<=i)(h2:i<=r.length):1<=lengthOf (r.take i):=by
 grind [LG,Z1]
theorem ZI{z:Nat×Piece}(h:z∈placed x r):x<=z.1/\z.1+z.2.length<=x+lengthOf r:=by
 obtain⟨i,h1,h2⟩:=RJ.mp h;have e:r.take (i+1)=r.take i++[z.2]:=by rw[List.take_add_one,h1];rfl
 have l:=za9 r (i+1);rw[e,Z3]at l;have l1:lengthOf [z.2]=z.2.length:=rfl
 lia
def Ww(z:Part×List Row)(y:Nat):Prop:=z.1.y<=y/\y<z.1.y+z.1.high
theorem sD:q∈piecesAt F y↔∃z∈F,Ww z y/\q∈placed z.1.x (z.2.getD (y-z.1.y) []):=by
 unfold piecesAt;rw[R7];constructor
 .rintro⟨z,hz,h⟩;obtain⟨h1,h2⟩:=R4.mp hz;rw[E1,O0,O0]at h2;exact⟨z,h1,h2,h⟩
 .rintro⟨z,hz,h1,h⟩;exact⟨z,R4.mpr ⟨hz,by rw[E1,O0,O0];exact h1⟩,h⟩
theorem eQ(f:UY w F)(hz:z∈F)(h:Ww z y):lengthOf (z.2.getD (y-z.1.y) [])=z.1.long:=by
 have hl:=f.high z hz;have hi:y-z.1.y<z.2.length:=by
  have:=h.1;have:=h.2
  lia
 rw[Q2,K0 hi];exact f.long z hz _ (aF hi)
theorem Cr:x∈jointsIn F y↔∃z∈F,Ww z y/\∃j∈jointsOf (z.2.getD (y-z.1.y) []),x=z.1.x+j:=by
 unfold jointsIn;rw[R7];constructor
 .rintro⟨z,hz,h⟩;by_cases c:z.1.y<=y/\y<z.1.y+z.1.high
  .rw[J0 c]at h;obtain⟨j,hj,e⟩:=S2.mp h;exact⟨z,hz,c,j,hj,e.symm⟩
  .rw[D0 c]at h;cases h
 .rintro⟨z,hz,c,j,hj,e⟩;refine⟨z,hz,?_⟩;rw[J0 (show z.1.y<=y/\y<z.1.y+z.1.high from c)];exact S2.mpr ⟨j,hj,e.symm⟩
theorem Xc(f:UY w F):x∈jointsIn F y↔∃q∈piecesAt F y,q.1=x/\¬(x=0\/w.isOpen (x-1) y=true):=by
 rw[Cr];constructor
 .rintro⟨z,hz,c,j,hj,e⟩;obtain⟨hy,h1,h2,h3,h4,h5⟩:=GH (f.part z hz) c.1 c.2;obtain⟨i,i1,i2,ej⟩:=jN.mp hj;have rl:=eQ f hz c;have jl:=cQ 0 _ j hj;have jp:=Vw i1 (rJ i2);refine⟨(x,(z.2.getD (y-z.1.y) [])[i]),sD.mpr ⟨z,hz,c,RJ.mpr ⟨i,K0 i2,?_⟩⟩,rfl,?_⟩
  .lia
  .rintro(q|q)
   .lia
   .have o:=h3 (j-1) (by lia);rw[show z.1.x+(j-1)=x-1 by lia,q]at o;cases o
 .rintro⟨q,hq,rfl,nb⟩;obtain⟨z,hz,c,h⟩:=sD.mp hq;obtain⟨hy,h1,h2,h3,h4,h5⟩:=GH (f.part z hz) c.1 c.2;obtain⟨i,e1,e2⟩:=RJ.mp h;have i2:=(P0.mp e1).1;refine⟨z,hz,c,lengthOf ((z.2.getD (y-z.1.y) []).take i),jN.mpr ⟨i,?_,i2,by lia⟩,e2⟩;rcases Nat.eq_zero_or_pos i with rfl|ip
  .exfalso;have e3:q.1=z.1.x:=by rw[e2];rfl
   grind
  .exact ip
theorem yX(f:UY w F){p:Part}(h0:p.y≠0) (j:Nat):j∈floorOf F p↔j<=p.long/\∃q∈piecesAt F (p.y-1),q.1=p.x+j/\¬(p.x+j=0\/w.isOpen (p.x+j-1) (p.y-1)=true):=by
 unfold floorOf;rw[D0 h0,R4,w6,EB,Xc f];constructor
 .rintro⟨h1,h2⟩;exact⟨by lia,h2⟩
 .rintro⟨h1,h2⟩;exact⟨by lia,h2⟩
theorem Xw{p q:Part}(hp:p∈w.parts) (hq:q∈w.parts) (h1:p.has x y=true) (h2:q.has x y=true):p=q:=by
 unfold Part.has at h1 h2;simp only[E1,O0]at h1 h2;obtain⟨hy,s1⟩:=GH hp h1.2.2.1 h1.2.2.2;obtain⟨_,s2⟩:=GH hq h2.2.2.1 h2.2.2.2;obtain⟨a1,a2,a3,a4,a5⟩:=s1;obtain⟨b1,b2,b3,b4,b5⟩:=s2;have ex:p.x=q.x:=by
  rcases kE p.x q.x with c|c|c
  .rcases b4 with b4|b4
   .lia
   .have o:=a3 (q.x-1-p.x) (by lia);rw[show p.x+(q.x-1-p.x)=q.x-1 by lia,b4]at o;cases o
  .exact c
  .rcases a4 with a4|a4
   .lia
   .have o:=b3 (p.x-1-q.x) (by lia);rw[show q.x+(p.x-1-q.x)=p.x-1 by lia,a4]at o;cases o
 have el:p.long=q.long:=by
  rcases kE p.long q.long with c|c|c
  .rcases a5 with a5|a5
   all_goals grind
  .exact c
  .rcases b5 with b5|b5
   all_goals grind
 have mp:=BO.mp hp;have mq:=BO.mp hq;have ey:p.y=q.y:=by
  rcases kE p.y q.y with c|c|c
  .exfalso;apply mq.2.2.1;refine⟨by lia,?_⟩;have z:=(GH hp (y:=q.y-1) (by lia) (by lia)).2;rw[ex,el]at z;exact FL.mpr z
  .exact c
  .exfalso;apply mp.2.2.1;refine⟨by lia,?_⟩;have z:=(GH hq (y:=p.y-1) (by lia) (by lia)).2;rw[<-ex,<-el]at z;exact FL.mpr z
 cases p;cases q;grind
theorem Yc(w:Wall):w.parts.Nodup:=by
 unfold Wall.parts;rw[OG,List.pairwise_flatMap];refine⟨λy _=>?_,?_⟩
 .rw[FH];refine(List.Pairwise.filter _ (aW w y)).imp λ{s t} h e=>h ?_;have e1:=V6 Part.x e;have e2:=V6 Part.long e;exact ON e1 e2
 .refine(List.pairwise_lt_range).imp λ{y y'} h p hp q hq e=>?_;obtain⟨s,_,rfl⟩:=S2.mp hp;obtain⟨t,_,rfl⟩:=S2.mp hq;have e3:=V6 Part.y e;simp only at e3
  lia
theorem VY:∀{r:Row}{x o:Nat},o<lengthOf r->∃z∈placed x r,z.1<=x+o/\x+o<z.1+z.2.length/\(drawRow r)[o]?=some (if z.1=x+o then z.2.letter else DASH)
 |[],x,o,h=>by
  have e:lengthOf ([]:Row)=0:=rfl
  lia
 |p::r,x,o,h=>by
  rw[C3]at h;have pp:=c9 p;have e:drawRow (p::r)=(p.letter::List.replicate (p.length-1) DASH)++drawRow r:=rfl;have ll:(p.letter::List.replicate (p.length-1) DASH).length=p.length:=by
   grind
  by_cases c:o<p.length
  .refine⟨(x,p),M4 ..,by show x<=x+o;lia,by show x+o<x+p.length;lia,?_⟩;cases o with
   |zero=>grind
   |succ o=>
    grind
  .obtain⟨z,hz,h1,h2,h3⟩:=VY (r:=r) (x:=x+p.length) (o:=o-p.length) (by lia);refine⟨z,i3 _ hz,by lia,by lia,?_⟩;rw[e,G6 (by rw[ll];lia),ll,h3,show x+p.length+(o-p.length)=x+o by lia]
def On(q:Nat×Piece)(x:Nat):Prop:=q.1<=x/\x<q.1+q.2.length
def Apt(l:List (Nat×Piece)):Prop:=∀q∈l,∀q'∈l,∀x,On q x->On q' x->q=q'
theorem kN:∀{x:Nat}{r:Row},Apt (placed x r)
 |x,[],q,hq,_,_,_,_,_=>nomatch hq
 |x,p::r,q,hq,q',GR,a,h,h'=>by
  unfold On at h h';rcases S1.mp hq with rfl|m
  .rcases S1.mp GR with rfl|m'
   .rfl
   .have:=(ZI m').1;dsimp only at h
    lia
  .rcases S1.mp GR with rfl|m'
   .have:=(ZI m).1;dsimp only at h'
    lia
   .exact kN q m q' m' a h h'
theorem sU(f:UY w F)(hz:z∈F)(c:Ww z y)(hq:q∈placed z.1.x (z.2.getD (y-z.1.y) []))(h:On q x):z.1.has x y=true:=by
 have z1:=ZI hq;rw[eQ f hz c]at z1;unfold Part.has;simp only[E1,O0];exact⟨by have:=h.1;lia,by have:=h.2;lia,c.1,c.2⟩
theorem Yw(f:UY w F)(nd:(F.map Prod.fst).Nodup){z':Part×List Row}(hz:z∈F) (Gz:z'∈F) (h1:z.1.has x y=true) (h2:z'.1.has x y=true):z=z':=by
 have e:=Xw (f.part z hz) (f.part z' Gz) h1 h2;clear f h1 h2
 induction F<;>grind
theorem Ri(f:UY w F)(nd:(F.map Prod.fst).Nodup)(y:Nat):Apt (piecesAt F y):=by
 intro q hq q' GR x h h';obtain⟨z,hz,c,m⟩:=sD.mp hq;obtain⟨z',Gz,c',m'⟩:=sD.mp GR;obtain rfl:=Yw f nd hz Gz (sU f hz c m h) (sU f Gz c' m' h');exact kN q m q' m' x h h'
theorem Si(f:UY w F)(h:q∈piecesAt F y):q.1+q.2.length<=w.long:=by
 obtain⟨z,hz,c,m⟩:=sD.mp h;have z1:=(ZI m).2;rw[eQ f hz c]at z1;have:=(GH (f.part z hz) c.1 c.2).2.2.1
 lia
theorem Zw(f:UY w F)(nd:(F.map Prod.fst).Nodup)(hq:q∈piecesAt F y)(h:On q x):placeOf F x y=if q.1=x then q.2.letter else DASH:=by
 obtain⟨z,hz,c,m⟩:=sD.mp hq;have hh:=sU f hz c m h;unfold placeOf;cases hf:F.find? λz=>z.1.has x y with
 |none=>exact absurd hh (rD.mp hf z hz)
 |some z'=>
  have hs:z'.1.has x y=true:=List.find?_some (p:=λz:Part×List Row=>z.1.has x y) hf;obtain rfl:=Yw f nd (kH hf) hz hs hh;dsimp only;have z1:=ZI m;rw[eQ f hz c]at z1;obtain⟨q',GR,g1,g2,g3⟩:=VY (r:=z'.2.getD (y-z'.1.y) []) (x:=z'.1.x) (o:=x-z'.1.x) (by rw[eQ f hz c];have:=h.1;have:=h.2;lia);have ex:z'.1.x+(x-z'.1.x)=x:=by have:=h.1;lia
  rw[ex]at g1 g2 g3;obtain rfl:=kN q m q' GR x h ⟨g1,g2⟩;rw[Q2,g3];rfl
theorem Dr(f:UY w F)(h:∀q∈piecesAt F y,¬On q x):placeOf F x y=DOT:=by
 unfold placeOf;cases hf:F.find? λz=>z.1.has x y with
 |none=>rfl
 |some z=>
  have hz:=kH hf;have hh:=List.find?_some hf;unfold Part.has at hh;simp only[E1,O0]at hh;have c:Ww z y:=hh.2.2;exfalso;obtain⟨q',GR,g1,g2,g3⟩:=VY (r:=z.2.getD (y-z.1.y) []) (x:=z.1.x) (o:=x-z.1.x) (by rw[eQ f hz c];lia);have ex:z.1.x+(x-z.1.x)=x:=by lia
  rw[ex]at g1 g2;exact h q' (sD.mpr ⟨z,hz,c,GR⟩) ⟨g1,g2⟩
def mN(line:List Nat)(a n:Nat):List Nat:=(List.range n).foldl (λl i=>l.set (a+1+i) 45) line
def fQ(line:List Nat)(q:Nat×Piece):List Nat:=mN (line.set q.1 q.2.letter.toNat) q.1 (q.2.length-1)
def tU(n:Nat)(l:List (Nat×Piece)):List Nat:=l.foldl fQ (List.replicate n 46)
theorem HL(line:List Nat)(a n:Nat):mN line a (n+1)=(mN line a n).set (a+1+n) 45:=by
 unfold mN;rw[jA,lE];rfl
theorem SJ(line:List Nat)(a:Nat):∀n,(mN line a n).length=line.length
 |0=>rfl
 |n+1=>by rw[HL,oB,SJ]
theorem zX(line:List Nat)(a x:Nat)(hx:x<line.length):∀n,(mN line a n)[x]?=if a<x/\x<=a+n then some 45 else line[x]?
 |0=>by
  rw[D0 (by lia)];rfl
 |n+1=>by
  rw[HL,List.getElem?_set,SJ];by_cases c:a+1+n=x
  .rw[J0 c,J0 (by lia),J0 (by lia)]
  .rw[D0 c,zX line a x hx n];by_cases d:a<x/\x<=a+n
   .rw[J0 d,J0 (by lia)]
   .rw[D0 d,D0 (by lia)]
theorem DO(line:List Nat)(q:Nat×Piece):(fQ line q).length=line.length:=by
 unfold fQ;rw[SJ,oB]
theorem Cn(line:List Nat)(q:Nat×Piece)(x:Nat)(hx:x<line.length):(fQ line q)[x]?=if q.1=x then some q.2.letter.toNat else if q.1<x/\x<q.1+q.2.length then some 45 else line[x]?:=by
 unfold fQ;rw[zX _ _ _ (by rw[oB];exact hx),List.getElem?_set];by_cases c:q.1=x
 .grind
 .rw[D0 c,D0 c];by_cases d:q.1<x/\x<q.1+q.2.length
  .rw[J0 (by lia),J0 d]
  .rw[D0 (by lia),D0 d]
theorem IL:∀(l:List (Nat×Piece))(line:List Nat),(l.foldl fQ line).length=line.length
 |[],_=>rfl
 |q::l,line=>by rw[h9,IL l,DO]
theorem uU:∀(l:List (Nat×Piece))(line:List Nat)(x:Nat),x<line.length->(∀q∈l,¬On q x)->(l.foldl fQ line)[x]?=line[x]?
 |[],_,_,_,_=>rfl
 |q::l,line,x,hx,h=>by
  have pp:=c9 q.2;have h0:=h q (by simp);unfold On at h0;rw[h9,uU l _ x (by rw[DO];exact hx) (λq' hq=>h q' (by simp[hq])),Cn _ _ _ hx,D0 (by lia),D0 (by lia)]
theorem Dn:∀(l:List (Nat×Piece))(line:List Nat)(x:Nat)(q:Nat×Piece),x<line.length->Apt l->q∈l->On q x->(l.foldl fQ line)[x]?=some (if q.1=x then q.2.letter.toNat else 45)
 |[],_,_,_,_,_,h,_=>nomatch h
 |p::l,line,x,q,hx,ap,h,on=>by
  have ap':Apt l:=λa ha b hb=>ap a (by simp[ha]) b (by simp[hb]);rw[h9];by_cases c:q∈l
  .exact Dn l _ x q (by rw[DO];exact hx) ap' c on
  .obtain rfl:q=p:=by
    grind
   rw[uU l _ x (by rw[DO];exact hx) (λq' GR on'=>c (by rw[ap q (by simp) q' (by simp[GR]) x on on'];exact GR)),Cn _ _ _ hx];unfold On at on;by_cases d:q.1=x
   .grind
   .rw[D0 d,D0 d,J0 (by lia)]
theorem Er(n:Nat)(l:List (Nat×Piece)):(tU n l).length=n:=by
 unfold tU;rw[IL,i6]
theorem zba(f:UY w F)(nd:(F.map Prod.fst).Nodup){l:List (Nat×Piece)}(hl:∀q,q∈l↔q∈piecesAt F y):tU w.long l=(List.range w.long).map λx=>(placeOf F x y).toNat:=by
 apply List.ext_getElem?;intro x;by_cases hx:x<w.long
 .rw[P1,Z6 hx];show _=some (placeOf F x y).toNat;have hn:x<(List.replicate w.long 46).length:=by grind
  by_cases c:∃q∈piecesAt F y,On q x
  .obtain⟨q,hq,on⟩:=c;rw[Zw f nd hq on];unfold tU;rw[Dn l _ x q hn (λa ha b hb=>Ri f nd y a ((hl a).mp ha) b ((hl b).mp hb)) ((hl q).mpr hq) on];by_cases d:q.1=x
   .grind
   .rw[D0 d,D0 d];rfl
  .have no:∀q∈piecesAt F y,¬On q x:=λq hq on=>c ⟨q,hq,on⟩;rw[Dr f no];unfold tU;rw[uU l _ x hn (λq hq=>no q ((hl q).mp hq)),yI,J0 hx];rfl
 .rw[HK (by rw[Er];lia),HK (by rw[B0,o6];lia)]
theorem nN:∀(x:Nat)(r:Row),(placed x r).map Prod.snd=r
 |_,[]=>rfl
 |x,p::r=>by
  show p::(placed (x+p.length) r).map Prod.snd=p::r;rw[nN]
theorem vU(n m:Nat):(n&&&m)/2=n/2&&&m/2:=by
 apply X8;intro i;rw[<-N8,GF,N8,N8,GF]
theorem WY(n m:Nat):(n&&&m)%2=if n%2=1/\m%2=1 then 1 else 0:=by
 have z:=GF n m 0;by_cases c:n%2=1/\m%2=1
 .grind
 .rw[D0 c];have z':decide ((n&&&m)%2=1)=false:=by
   grind
  have:=K6 z'
  lia
theorem En:∀(i n m:Nat),(n-(n&&&m)).testBit i=(n.testBit i&&!m.testBit i)
 |0,n,m=>by
  have h1:=vU n m;have h2:=WY n m;have h3:n/2&&&m/2<=n/2:=vK;rw[uC,uC,uC];by_cases c:n%2=1
  .by_cases d:m%2=1
   .rw[J0 ⟨c,d⟩]at h2;rw[F1 c,F1 d];exact Y0 (by lia)
   .rw[D0 (λq=>d q.2)]at h2;rw[F1 c,Y0 d];exact F1 (by lia)
  .rw[D0 (λq=>c q.1)]at h2;rw[Y0 c];exact Y0 (by lia)
 |i+1,n,m=>by
  have h1:=vU n m;have h2:=WY n m;have e:(n-(n&&&m))/2=n/2-(n/2&&&m/2):=by
   grind
  rw[N8,e,En i (n/2) (m/2),N8,N8]
theorem zdK(n i:Nat):(2^n-1).testBit i=decide (i<n):=Nat.testBit_two_pow_sub_one n i
theorem zbb:∀{n:Nat},0<n->∃l,n.testBit l=true/\(∀j<l,n.testBit j=false)/\n-(n&&&(n-1))=2^l:=by
 intro n
 induction n using Nat.strongRecOn with
 |_ n ih=>
  intro h;have h1:=vU n (n-1);have h2:=WY n (n-1);by_cases c:n%2=1
  .refine⟨0,by rw[uC];exact F1 c,λj hj=>absurd hj (by lia),?_⟩;rw[D0 (by lia),]at h2;rw[show(n-1)/2=n/2 by lia,Nat.and_self]at h1
   lia
  .obtain⟨l,g1,g2,g3⟩:=ih (n/2) (by lia) (by lia);refine⟨l+1,by rw[N8];exact g1,λj hj=>?_,?_⟩
   .cases j with
    |zero=>rw[uC];exact Y0 c
    |succ j=>rw[N8];exact g2 j (by lia)
   .rw[D0 (by lia)]at h2;rw[show(n-1)/2=n/2-1 by lia]at h1;rw[iO]
    lia
def JL(ks:List Nat)(x:Nat):Nat:=bitsOf ((List.range ks.length).filter λi=>(ks.getD i 0).testBit x)
def mE(ks:List Nat)(xs:List Nat):Nat:=bitsOf ((List.range ks.length).filter λi=>xs.all λx=>!(ks.getD i 0).testBit x)
theorem QG(ks:List Nat)(x i:Nat):(JL ks x).testBit i=(decide (i<ks.length)&&(ks.getD i 0).testBit x):=by
 unfold JL;rw[JA,d3,O0,R4,w6,E1,O0]
theorem wU(ks xs:List Nat)(i:Nat):(mE ks xs).testBit i=(decide (i<ks.length)&&xs.all λx=>!(ks.getD i 0).testBit x):=by
 unfold mE;rw[JA,d3,O0,R4,w6,E1,O0]
theorem Gr(ks:List Nat):mE ks []=2^ks.length-1:=by
 apply X8;intro i;rw[wU,zdK,gO,TH]
theorem Ti(ks xs:List Nat)(x:Nat):mE ks (xs++[x])=mE ks xs-(mE ks xs&&&JL ks x):=by
 apply X8;grind [En,wU,QG]
theorem Ui(ks:List Nat)(k x:Nat):JL (ks++[k]) x=if k.testBit x=true then JL ks x|||2^ks.length else JL ks x:=by
 apply X8;intro i;rw[QG];have el:(ks++[k]).length=ks.length+1:=by simp
 have g1:i<ks.length->(ks++[k]).getD i 0=ks.getD i 0:=λh=>by
  rw[Q2,w8 h,<-Q2]
 have g2:(ks++[k]).getD ks.length 0=k:=by
  grind
 rw[el];rcases kE i ks.length with c|c|c
 .rw[F1 (show i<ks.length+1 by lia),g1 c,TC];by_cases d:k.testBit x=true
  .rw[J0 d,KG,QG,Nat.testBit_two_pow,F1 c,Y0 (show ¬ks.length=i by lia)];simp
  .rw[D0 d,QG,F1 c,TC]
 .subst c;by_cases d:k.testBit x=true
  .grind
  .rw[D0 d,QG,Y0 (show ¬ks.length<ks.length by lia),QB];simpa using d
 .rw[Y0 (show ¬i<ks.length+1 by lia),QB];by_cases d:k.testBit x=true
  .rw[J0 d,KG,QG,Nat.testBit_two_pow,Y0 (show ¬i<ks.length by lia),Y0 (show ¬ks.length=i by lia)];rfl
  .rw[D0 d,QG,Y0 (show ¬i<ks.length by lia),QB]
def T5(n:Nat):List Nat:=(List.range (n.log2+1)).filter λx=>n.testBit x
theorem TJ:x∈T5 n↔n.testBit x=true:=by
 unfold T5;rw[R4,w6];refine⟨λh=>h.2,λh=>⟨?_,h⟩⟩;by_cases c:x<n.log2+1
 .exact c
 .have z:n<2^x:=P2 Nat.lt_log2_self (sA (by lia) (by lia));rw[Nat.testBit_lt_two_pow z]at h;cases h
theorem Zc{ks:List Nat}{m:Nat}{xs:List Nat}(hx:∀x,x∈xs↔m.testBit x=true) (i:Nat):(mE ks xs).testBit i=(decide (i<ks.length)&&(m&&&ks.getD i 0==0)):=by
 rw[wU];congr 1;rw[d3,O4,Cc,Q7];grind
theorem Hr{m b:Nat}(hb:∀i,b.testBit i=(decide (i<O.length)&&(m&&&(O.map Y6).getD i 0==0))):(b=0->O.find? (λl=>m&&&Y6 l==0)=none)/\∀l,b.testBit l=true->(∀j<l,b.testBit j=false)->O.find? (λl=>m&&&Y6 l==0)=O[l]?:=by
 have g:∀i (h:i<O.length),(O.map Y6).getD i 0=Y6 O[i]:=λi h=>by
  grind
 constructor
 .rintro rfl;rw[rD];intro l hl;obtain⟨i,hi,rfl⟩:=C4.mp hl;grind
 .intro l h1 h2;have z:=hb l;rw[h1]at z;have z':=z.symm;rw[E1,O0]at z';obtain⟨hl,hz⟩:=z';rw[g l hl]at hz;rw[K0 hl,cB];refine⟨hz,O.take l,O.drop (l+1),?_,λa ha=>?_⟩
  .rw[<-W6 hl,Z9]
  .obtain⟨i,hi,rfl⟩:=C4.mp ha;rw[Z1]at hi;have y:=hb i;rw[h2 i (by lia),F1 (show i<O.length by lia),TC,g i (by lia)]at y;rw[List.getElem_take,<-y];rfl
theorem Fn(w:Wall):UY w []:=⟨(λz h=>by cases h),(λz h=>by cases h),(λz h=>by cases h)⟩
theorem Cd{p:Part}{fl:List Nat}(f:UY w F) (hp:p∈w.parts) (h:fillOf b (w.panelOf p) fl=some l):UY w (F++[(p,l)]):=by
 obtain⟨⟨st,ll,_⟩,_⟩:=RP (p:=w.panelOf p) (Uc hp).1 h;have add:∀{P:Part×List Row->Prop},(∀z∈F,P z)->P (p,l)->∀z∈F++[(p,l)],P z:=λh1 h2 z hz=>by
  all_goals grind
 exact⟨add f.part hp,add f.high ll,add f.long λr hr=>rM st r hr⟩
theorem oN{p:Part}{r:List Part}:buildFrom b w (p::r) F=match fillOf b (w.panelOf p) (floorOf F p)with
  |none=>.error F.length
  |some l=>buildFrom b w r (F++[(p,l)]):=rfl
theorem cR(F:Filled)(p:Part)(l:List Row)(y:Nat):piecesAt (F++[(p,l)]) y=piecesAt F y++if p.y<=y/\y<p.y+p.high then placed p.x (l.getD (y-p.y) [])else[]:=by
 unfold piecesAt;rw[M8,o9];congr 1;rw[Y5];by_cases c:p.y<=y/\y<p.y+p.high
 .rw[J0 c,J0 (by rw[E1,O0,O0];exact c)];simp
 .rw[D0 c,D0 (by rw[E1,O0,O0];exact c)];simp
theorem dR{b:Bond}{w:Wall}:∀{r:List Part}{F G:Filled},buildFrom b w r F=.ok G->G.map Prod.fst=F.map Prod.fst++r
 |[],F,G,h=>by
  obtain rfl:=Z2 h;simp
 |p::r,F,G,h=>by
  rw[oN]at h;cases e:fillOf b (w.panelOf p) (floorOf F p)with
  |none=>grind
  |some l=>
   rw[e]at h;have z:=dR h;rw[z];simp
end Wg
section
set_option maxHeartbeats 1000000
namespace Wm
open Bd
end Wm
end
section
set_option maxHeartbeats 1000000
namespace Wm
open Bd
end Wm
end
section
set_option maxHeartbeats 1000000
namespace Wm
open Bd
end Wm
end
namespace Wp
open Bd
def zdL(n:Nat):List Corner:=(List.range n).flatMap λc=>(List.range c).map λa=>⟨a,0,c,0⟩
def zis(l:List Corner):List Nat:=l.flatMap λk=>[k.a,k.c]
def zfT(l:List Corner):Bool:=(List.range 4).all λi=>decide ((zis l).count i<=2)
def xE(n:Nat):Nat->List (List Corner)
 |0=>[[]]
 |k+1=>[]::(zdL n).flatMap λp=>((xE n k).map λl=>p::l).filter zfT
theorem Dd{α:Type}[DecidableEq α]:∀{l m:List α},l.Nodup->(∀x∈l,x∈m)->l.length<=m.length
 |[],m,_,_=>D1 _
 |a::l,m,nd,h=>by
  rw[S5]at nd;have ha:=h a (by simp);have z:=Dd (l:=l) (m:=m.erase a) nd.2 λx hx=>(List.mem_erase_of_ne (λe=>nd.1 (by rw[<-e];exact hx))).mpr (h x (by simp[hx]));rw[List.length_erase_of_mem ha]at z;have:=UJ ha;rw[N1]
  lia
end Wp
namespace L2
open PySem PySem.Spec PyProof.Rows
inductive Ed(K:Frag)(vs:List V)(H:Hp)(Q:VK):Prop
 |mk (a:Addr) (ts:List Addr) (zs:List (Int×Int)):vs=[V.ref a]->SqL K H a (ts.map V.ref)->(Paired (λt z=>H t=some (.tup [.int z.1,.int z.2])) ts zs)->(∀(ys:List Addr)(p:Addr),ys.Perm ts->H p=none->Q (.ref p) (upd H p (.lst (ys.map V.ref))))->Ed K vs H Q
theorem AX:∀ps:List Addr,D4 (ps.map V.ref) (ps.map Value.ref)
 |[]=>.nil
 |p::ps=>.cons rfl (AX ps)
theorem Vi{X:Cx}{K:Frag}(hK:X.K=K):EM X (.builtin "sorted") (Ed K):=by
 subst hK;intro pins s σ H vs us Q I r h;obtain⟨a,ts,zs,rfl,hs,pz,q⟩:=h;obtain⟨its,rv,hl,hz⟩:=I.list hs;rw[D4.ref1 r];obtain rfl:=mM rv;rw[B0]at hz;have tup:∀{t:Addr}{z:Int×Int},H t=some (.tup [.int z.1,.int z.2])->∃f l,TupOf s.heap (λ_=>false) (.ref t) f/\G.tupKeyC s.heap (λ_=>false) (.ref t)=some l:=λ{t z} e=>by
  obtain⟨us,ru,⟨o,ho,hc,n,hd⟩,_⟩:=I.tuple (.inl (.inl e));cases ru with
  |cons r1 ru=>
   cases ru with
   |cons r2 ru=>
    cases ru;obtain⟨t1,rfl⟩:=r1;obtain⟨t2,rfl⟩:=r2;exact⟨_,_,⟨t,o,_,n,rfl,ho,hc,hd,rfl,λ_=>⟨_,_,rfl⟩,λh=>nomatch h⟩,G.tupKeyC_of ho hc hd rfl⟩
 obtain⟨fs,tu,hk⟩:∃fs,TupsOf s.heap (λ_=>false) (ts.map Value.ref) fs/\∀v∈ts.map Value.ref,∃l,G.tupKeyC s.heap (λ_=>false) v=some l:=by
  clear q hs r rv hl hz
  induction pz with
  |nil=>exact⟨[],.nil,λv hv=>nomatch hv⟩
  |cons e _ ih=>
   obtain⟨fs,tu,hk⟩:=ih;obtain⟨f,l,a1,a2⟩:=tup e;refine⟨f::fs,.cons a1 tu,λv hv=>?_⟩;rcases S1.mp hv with rfl|m
   .exact⟨l,a2⟩
   .exact hk v m
 refine G.sorted_tups hl.isList tu hk (by rw[B0];exact hz) λst pm _ _=>?_;obtain⟨ep,he⟩:=sortedAll_at s.heap (ts.map Value.ref) ((arrOf st).map (·.2));have pm2:((arrOf st).toList.map (·.2)).Perm (ts.map Value.ref):=by
  have z:=(NG.mp pm).map (·.2);rw[pairsOf_toList]at z;have e:((ts.map Value.ref).zip (ts.map Value.ref)).map (·.2)=ts.map Value.ref:=List.map_snd_zip (j1 _);rw[e]at z;exact z
 let Et:Value->Addr:=λv=>match v with
  |.ref p=>p
  |_=>0
 obtain⟨ys,ey⟩:∃ys,((arrOf st).toList.map (·.2)).map Et=ys:=⟨_,rfl⟩
 have e:(ts.map Value.ref).map Et=ts:=by rw[B3,show(Et ∘ Value.ref)=id from rfl,List.map_id]
 have pm3:ys.Perm ts:=by
  have z:=pm2.map Et;rw[e,ey]at z;exact z
 have back:ys.map Value.ref=(arrOf st).toList.map (·.2):=by
  rw[<-ey,B3]
  conv=>rhs;rw[<-List.map_id ((arrOf st).toList.map (·.2))]
  refine b7 λv hv=>?_;obtain⟨t,_,rfl⟩:=S2.mp (pm2.mem_iff.mp hv);rfl
 refine⟨.ref _,upd H (s.heap.objs.size+1) (.lst (ys.map V.ref)),I.laid (t':=s.toks) (λ_ _=>sortedAll_old) (lL _) ⟨by rw[B0,pm3.length_eq];exact hz,((arrOf st).map (·.2)).toList,ep,?_,he⟩,rfl,q _ _ pm3 (I.hok.fresh (lL _))⟩;rw[RA,<-back];exact AX _
end L2
namespace Wb
open PySem PySem.Spec PyProof.Rows L2 Wm
open PySem.W (Codec)
variable {C q d f t p a dx CO CW CB mk pp:Addr}{sl:Array (Option Value)}{b:Bond}{line:Bytes}{F:Filled}{pn:Panel}{r:Bd.Row}{L L':Bd.Row->Prop}{w:Wall}{cm x y fr:Bool}{Q:Bool->Hp->Prop}{CX:Zs}{e:Expr}{u:HO}{base:Heap}{H H1 H':Hp}{Qd:Hp->Prop}{j:Int}{σ:L2.St}{E:L2.St->XK}{kvs k1 k2:List (YC×V)}{P:List (List Bd.Row)}{D:List (Nat×Bd.Row)}{ps X as ts Z cs:List Addr}{os:List Opening}{l m:List Bd.Row}{es:List Expr}{h h':List HV}{due:List Int}{vs:List Nat}{N:List Str}{xs ys:List V}{n i lap:Nat}{z:Nat×Bd.Row}{od an:Option Addr}{pos:Pos}{sp:Sp}{s:Stmt}{mg:Str->Option Value}{tb te ta tc:TE}{g:TG}{tt:TT}{α β:Type}{v:V}{oc dc pm cd ct:Value}
theorem xU:bootBuiltins "all"= some (.builtin "all"):=by decide +kernel
theorem Ax:bootBuiltins "any"= some (.builtin "any"):=by decide +kernel
theorem Bx:bootBuiltins "len"= some (.builtin "len"):=by decide +kernel
theorem zdM:bootBuiltins "min"= some (.builtin "min"):=by decide +kernel
theorem Dx:bootBuiltins "ord"= some (.builtin "ord"):=by decide +kernel
theorem BX:bootBuiltins "sorted"= some (.builtin "sorted"):=by decide +kernel
theorem zdN:bootBuiltins "sum"= some (.builtin "sum"):=by decide +kernel
theorem Ex:bootBuiltins "tuple"= some (.type "tuple"):=by decide +kernel
def bA(i:Nat):Stmt:=PySem.Challenge.pw_wallbonds_s05_fill.main.body.getD i (.Pass ⟨0,0,0,0⟩)
theorem scq{P:List Str}{sc:Scope}(h1:sc.kind=.function:=by rfl) (h2:sc.isCoroutine=false:=by rfl) (h3:sc.isGenerator=false:=by rfl) (h4:N.Nodup:=by decide +kernel) (h5:N.take P.length=P:=by rfl) (h6:∀x∈P,sc.names.lookup x=some .local\/sc.names.lookup x=some .cell:=by decide +kernel) (h7:∀y∈sc.names,y.2≠.free:=by decide +kernel):ND N P sc:=⟨h1,h2,h3,h4,h5,h6,h7⟩
theorem bW(N:List Str)(sc:Scope)(own:List (Str×Nat)){scope:Scope}(h1:scope.kind=.function:=by rfl) (h2:∀y∈scope.names,scope.names.lookup y.1=some y.2:=by decide +kernel) (h3:∀p∈own,N[p.2]?=some p.1:=by decide +kernel) (h4:∀y∈scope.names,y.2=.free->sc.names.lookup y.1=some .cell\/sc.names.lookup y.1=some .free:=by decide +kernel) (h5:∀y∈scope.names,y.2=.local\/y.2=.cell->y.1∈own.map (·.1)\/y.1∉N:=by decide +kernel):Qa N sc scope own:=⟨h1,h2,h3,h4,h5⟩
abbrev eR:Stmt:=bA 20
abbrev DX:Stmt:=bA 21
abbrev Fd:Stmt:=bA 22
abbrev cW:Stmt:=bA 23
abbrev dW:Stmt:=bA 24
abbrev fR:Stmt:=bA 25
abbrev yU:Stmt:=bA 37
abbrev Wi:Stmt:=bA 38
abbrev zU:Stmt:=bA 39
abbrev XY:Stmt:=bA 40
abbrev QR:Stmt:=bA 41
abbrev AU:Stmt:=bA 42
abbrev gR:Stmt:=bA 43
abbrev gQ:Stmt:=bA 44
abbrev TR:Stmt:=bA 45
abbrev EX:Stmt:=bA 46
abbrev LM:Stmt:=bA 47
abbrev Gd:Stmt:=bA 55
abbrev Xi:Stmt:=bA 56
abbrev EO:Stmt:=bA 57
abbrev KL:Stmt:=bA 58
abbrev BU:Stmt:=bA 59
abbrev LL:Stmt:=bA 60
abbrev iQ:Stmt:=bA 61
abbrev FO:Stmt:=bA 62
abbrev Hd:Stmt:=bA 75
abbrev YY:Stmt:=bA 76
abbrev Fx:Stmt:=bA 77
abbrev VJ:Stmt:=bA 78
abbrev CU:Stmt:=bA 79
abbrev iR:Stmt:=bA 80
abbrev DU:Stmt:=bA 81
abbrev Ir:Stmt:=bA 82
abbrev GO:Stmt:=bA 86
abbrev Jr:Stmt:=bA 87
abbrev ML:Stmt:=bA 90
abbrev Yi:Stmt:=bA 91
abbrev Zi:Stmt:=bA 92
abbrev jQ:Stmt:=bA 93
abbrev RG:Stmt:=bA 94
abbrev Aj:Stmt:=bA 95
abbrev Kr:Stmt:=bA 96
abbrev Bj:Stmt:=bA 97
abbrev Cj:Stmt:=bA 98
abbrev Dj:Stmt:=bA 99
abbrev eW:Stmt:=bA 100
abbrev kQ:Stmt:=bA 101
abbrev ZY:Stmt:=bA 102
abbrev zdO:Stmt:=bA 105
abbrev fW:Stmt:=bA 106
abbrev Lr:Stmt:=bA 107
abbrev Gx:Stmt:=bA 108
abbrev pN:Stmt:=X7 (bA 9) 0
abbrev rN:Stmt:=X7 (bA 10) 0
abbrev NL:Stmt:=X7 (bA 11) 0
abbrev SG:Stmt:=X7 (bA 12) 0
abbrev OL:Stmt:=X7 (bA 13) 0
abbrev UR:Stmt:=X7 (bA 53) 0
abbrev JO:Stmt:=X7 (bA 53) 1
abbrev IK:Stmt:=X7 (bA 54) 0
abbrev KO:Stmt:=X7 (bA 54) 1
abbrev aI:Stmt:=X7 (bA 54) 2
abbrev WJ:Stmt:=X7 (bA 54) 3
abbrev sN:Stmt:=X7 (bA 71) 0
abbrev JK:Stmt:=X7 (bA 71) 1
abbrev aJ:Stmt:=X7 (bA 71) 2
abbrev VR:Stmt:=X7 (bA 71) 3
abbrev lQ:Stmt:=X7 (bA 71) 4
abbrev XR:Stmt:=X7 (bA 72) 0
abbrev PL:Stmt:=X7 (bA 72) 1
abbrev mQ:Stmt:=X7 (bA 73) 0
abbrev LK:Stmt:=X7 (bA 74) 0
abbrev MK:Stmt:=X7 (bA 74) 1
abbrev LO:Stmt:=X7 (bA 74) 2
abbrev XJ:Stmt:=X7 (bA 74) 3
abbrev YR:Stmt:=X7 (bA 89) 0
set_option genInjectivity false in
structure Ad where
 (l8 vC V4 L4 A2 tD P4 U3 SA JB F5 b8 Jd Mr Kd gW hW Md Ej Fj EU iG ZR FU Nd nQ aS Nr iW Od Gj aZ Pd GU HU oQ bZ Sd cZ Hx dZ IU Td JU Pr eZ Qr Ud Hj Ij pQ KU Jj Rr Kj Lj Mj jW qQ fZ LU kW Sr Ix UG tN QL VG RL bS MO NK NO bI YJ uN OK bJ cS rQ dS MU sQ QK RK OO ZJ eS lA wC tF:Addr)
 (Vd Tr Wd lW mW Xd Nj Oj NU jG fS OU Yd tQ iS Ur nW Zd Pj gZ Ae PU QU uQ iZ Be jZ Jx kZ RU Ce SU Vr lZ Wr De Qj Rj vQ TU Sj Xr Tj Uj Vj oW wQ mZ vN pW Yr Kx wN xN SL WG UL jS QO SK RO cI aK yN TK cJ kS xQ lS UU yQ UK WK SO bK mS:FuncData)
 (nZ nS VU UO Wj WU XU Zr oZ Ee Fe Ge zbc Lx zdP oS YU ZU qW rW xM Xj He aV bV cV zdQ sW tW pS zdR zfU pZ:Tok)
section
variable {K:Frag}{h:Heap}{n q:Str}{d:FuncData}
structure FT(K:Frag)(mg:Str->Option Value)(n:Str)(s:Stmt)(f:Addr)(d:FuncData)(ps N:List Str):Prop where
 m:mg n=some (.ref f)
 F:Fun K n n s f d
 b:IB K d ps []
 S:ND N ps (X3 s)
theorem FT.of{kV:Value}{ps:List Str}(KX:K.In h) (G:h.Ns mainGlobals mg) (h1:PySem.W.nsIn K mainGlobals n=some (some (.ref f))) (l:K.lookup f=some ⟨oc,od,.func (fnOf n n (fF s) (YD s) (X3 s) .none kV dc pm an cd ct),sl⟩) (c:codeIn K cd n=true) (k:keepIn K (.ref f)=true) (hb:∀(kV dc pm:Value)(an:Option Addr)(cd ct:Value)(us:List Value),us.length=ps.length->bindArgs (fnOf n n (fF s) (YD s) (X3 s) .none kV dc pm an cd ct) ⟨us,[]⟩=pure (ps.zip us)) (S:ND N ps (X3 s)):FT K mg n s f (fnOf n n (fF s) (YD s) (X3 s) .none kV dc pm an cd ct) ps N:=⟨eI KX G h1,BY l c k,(BY l c k).binds hb,S⟩
structure MT(K:Frag)(C:Addr)(n q:Str)(s:Stmt)(f:Addr)(d:FuncData)(ps N:List Str):Prop where
 M:Mp K C n f
 F:Fun K n q s f d
 b:IB K d ps []
 S:ND N ps (X3 s)
theorem MT.of{kV:Value}{ps:List Str}(h1:findIn K (.ref C) n=some (some (.ref f))) (h2:isFn K (.ref f)=true) (l:K.lookup f=some ⟨oc,od,.func (fnOf n q (fF s) (YD s) (X3 s) .none kV dc pm an cd ct),sl⟩) (c:codeIn K cd q=true) (k:keepIn K (.ref f)=true) (hb:∀(kV dc pm:Value)(an:Option Addr)(cd ct:Value)(us:List Value),us.length=ps.length->bindArgs (fnOf n q (fF s) (YD s) (X3 s) .none kV dc pm an cd ct) ⟨us,[]⟩=pure (ps.zip us)) (S:ND N ps (X3 s)):MT K C n q s f (fnOf n q (fF s) (YD s) (X3 s) .none kV dc pm an cd ct) ps N:=⟨⟨h1,h2,k⟩,BY l c k,(BY l c k).binds hb,S⟩
structure CT(K:Frag)(mg:Str->Option Value)(n:Str)(C:Addr):Prop where
 m:mg n=some (.ref C)
 c:Lp K C
 mk':makesIn K C=true
 kc:keepIn K (.ref C)=true
theorem CT.k0{ps:List Str}(x:CT K mg n C) (y:MT K C "__init__" q s f d ps N):Mk K C f:=⟨x.mk',y.M.at_,y.M.fn,x.kc⟩
structure XT(K:Frag)(mg:Str->Option Value)(n:Str)(C:Addr):Prop where
 m:mg n=some (.ref C)
 D:FY K C
 E:Gq K C
 mk':nM K C=true
 kc:keepIn K (.ref C)=true
theorem XT.k0{ps:List Str}(x:XT K mg n C) (y:MT K C "__init__" q s f d ps N):MkX K C f:=⟨x.mk',y.M.at_,y.M.fn,x.kc⟩
abbrev Fo(P:Program)(w:World)(base:Heap)(cm:Bool){s:Stmt}{f:Addr}{ps N:List Str}(_:FT K mg n s f d ps N) (k:Nat) (sp:Sp):Prop:=EA P w K mg base (MR P w) cm k f d ps sp
abbrev Mo(mg:Str->Option Value)(P:Program)(w:World)(base:Heap)(cm:Bool){s:Stmt}{f:Addr}{ps N:List Str}(_:MT K C n q s f d ps N) (k:Nat) (sp:Sp):Prop:=EA P w K mg base (MR P w) cm k f d ps sp
theorem pcg{X:Cx}{k:Nat}{ps:List Str}{t:TA}{p:Pos}(x:FT X.K X.mg n s f d ps N) (F:EA X.prog X.w X.K X.mg X.base CX cm k f d ps sp) (hr:R8 cm k X.A) (hx:BB CX X E) (ha:PA X (e::es) t) (hg:Gl X n:=by rfl) (LZ:(n==("__debug__": Str))=false:=by decide) (he:starEach (e::es) X.env=(false,eval e X.env)::starEach es X.env:=by rfl) (IH:(backTo pos (starEach es X.env)).any (·.1)=false:=by rfl):PE X (.Call (.Name n p) (e::es) [] pos) (Rl sp [] E t):=zav F hr hg x.m x.F.kp x.b .nil hx ha LZ he IH
theorem MC{X:Cx}{k j:Nat}{ps:List Str}{t:TA}{p:Pos}(x:FT X.K X.mg n s f d ps N) (F:EA X.prog X.w X.K X.mg X.base CX cm k f d ps sp) (hr:R8 cm j X.A) (ha:PA X (e::es) t) (hx:BB CX X E:=by exact O1.passes) (hk:k<=j:=by decide) (hg:Gl X n:=by rfl) (LZ:(n==("__debug__": Str))=false:=by decide) (he:starEach (e::es) X.env=(false,eval e X.env)::starEach es X.env:=by rfl) (IH:(backTo pos (starEach es X.env)).any (·.1)=false:=by rfl):PE X (.Call (.Name n p) (e::es) [] pos) (Rl sp [] E t):=pcg x F (hr.mono hk) hx ha hg LZ he IH
def NS{X:Cx}{e:Expr}{te:TE}{p pos:Pos}(z:X.mg "len"= none) (he:PE X e te) (hg:Gl X "len":= by rfl) (h1:starEach [e] X.env=[(false,eval e X.env)]:=by rfl):=NA (p:=p) (pos:=pos) UN hg z Bx (F0 he Z0 h1) (by decide) (by decide) h1 rfl
theorem zit{us:Array Value}{dO:Option Addr}{no:Nat}{so:Array (Option Value)}{vs:List V}(o:K.lookup p=some ⟨.type "tuple",dO,.seq us no,so⟩) (h:us.size<=sizeLine/\D4 vs us.toList):∀H:Hp,eA K H p vs:=λH=>.inr ⟨_,_,_,o,rfl,rfl,h.1,h.2⟩
end
structure vA(K:Frag)(mg:Str->Option Value)(a:Ad):Prop where
 sM:XT K mg "Refusal" a.l8
 dJ:XT K mg "TooLong" a.vC
 B9:XT K mg "TextFault" a.V4
 d9:XT K mg "CannotFillPanel" a.L4
 C9:XT K mg "LineFault" a.A2
 nE:CT K mg "Bond" a.tD
 N3:CT K mg "BondReader" a.P4
 o4:CT K mg "Opening" a.U3
 dA:CT K mg "Wall" a.SA
 C8:CT K mg "Panel" a.JB
 Q4:CT K mg "WallReader" a.F5
 UA:CT K mg "Pile" a.b8
 XB:FT K mg "length_of" eR a.Jd a.Vd ["row"] ["row","piece"]
 GD:FT K mg "cuts_in" DX a.Mr a.Tr ["row"] ["row","piece"]
 wA:FT K mg "joints_of" Fd a.Kd a.Wd ["row"] ["row","joints","place","piece"]
 D9:FT K mg "places_near" cW a.gW a.lW ["places","lap"] ["places","lap","near","step"]
 gF:FT K mg "break_joint" dW a.hW a.mW ["joints","others","lap"] ["joints","others","lap"]
 YB:FT K mg "places_in" fR a.Md a.Xd ["places"] ["places","place"]
 ZB:FT K mg "bytes_of" yU a.Ej a.Nj ["word"] ["word","sign"]
 uD:FT K mg "split_at" Wi a.Fj a.Oj ["row","sign"] ["row","sign","parts","byte"]
 VA:FT K mg "lines_joined" zU a.EU a.NU ["lines"] ["lines","text","line"]
 p9:FT K mg "read_lines" XY a.iG a.jG ["text","reader"] ["text","reader","parts","number","line","fault"]
 nA:FT K mg "fields_behind" QR a.ZR a.fS ["word","line"] ["word","line","fields"]
 j7:FT K mg "field_behind" AU a.FU a.OU ["word","line"] ["word","line","fields"]
 E9:FT K mg "number_in" gR a.Nd a.Yd ["field"] ["field","byte","number"]
 O8:FT K mg "number_from_to" gQ a.nQ a.tQ ["field","least","most"] ["field","least","most","number"]
 sB:FT K mg "digit_from_to" TR a.aS a.iS ["field","least","most"] ["field","least","most"]
 bF:FT K mg "name_in" EX a.Nr a.Ur ["field"] ["field","byte"]
 zA:FT K mg "capitals_in" LM a.iW a.nW ["field"] ["field","byte"]
 uF:FT K mg "read_bond" Gd a.Od a.Zd ["text"] ["text","reader"]
 cF:FT K mg "makes_in" Xi a.Gj a.Pj ["field"] ["field","pieces","number"]
 mB:FT K mg "pattern_in" EO a.aZ a.gZ ["field"] ["field","pieces","piece"]
 F9:FT K mg "pieces_in" KL a.Pd a.Ae ["field"] ["field","letters","byte"]
 d8:FT K mg "rows_keeping" BU a.GU a.PU ["bond","course","length"] ["bond","course","length","rows","made_up","by_length","left","start"]
 L6:FT K mg "made_up_rows" LL a.HU a.QU ["bond"] ["bond","rows","longest","longer","row","piece"]
 N9:FT K mg "rows_by_length" iQ a.oQ a.uQ ["rows"] ["rows","by_length","row"]
 r6:FT K mg "rows_begun" FO a.bZ a.iZ ["left","pattern","start","length","by_length"] ["left","pattern","start","length","by_length","rows","begun","rest","number","right","piece"]
 vF:FT K mg "read_wall" Hd a.Sd a.Be ["text"] ["text","reader"]
 oE:FT K mg "head_value" YY a.cZ a.jZ ["number","line"] ["number","line","field"]
 eJ:FT K mg "end_in" Fx a.Hx a.Jx ["field"] ["field","number","word"]
 r9:FT K mg "opening_in" VJ a.dZ a.kZ ["line","length","height","before"] ["line","length","height","before","numbers","field","opening","other"]
 Y8:FT K mg "stretches_of" CU a.IU a.RU ["wall","course"] ["wall","course","stretches","first","place"]
 G9:FT K mg "panels_of" iR a.Td a.Ce ["wall"] ["wall","rows","course","panels","row","stretch"]
 XA:FT K mg "courses_with" DU a.JU a.SU ["stretch","rows"] ["stretch","rows","count"]
 uG:FT K mg "ends_of" Ir a.Pr a.Vr ["wall","panel"] ["wall","panel","left","right"]
 xC:FT K mg "drawing_of" GO a.eZ a.lZ ["wall","courses"] ["wall","courses","course"]
 HD:FT K mg "line_of" Jr a.Qr a.Wr ["course","length"] ["course","length","line","place","piece","unit"]
 S7:FT K mg "fill_wall" ML a.Ud a.De ["bond","wall"] ["bond","wall","courses","course","number","panel","rows","step","row"]
 aC:FT K mg "row_laid" Yi a.Hj a.Qj ["row","first"] ["row","first","laid","place","piece"]
 nB:FT K mg "floor_of" Zi a.Ij a.Rj ["wall","panel","courses"] ["wall","panel","courses","floor","place","piece","within"]
 yC:FT K mg "begins_stretch" jQ a.pQ a.vQ ["wall","place","course"] ["wall","place","course"]
 U5:FT K mg "filling_told" RG a.KU a.TU ["bond","panel","ends","floor"] ["bond","panel","ends","floor","top","rows","piles","joints","course","pile"]
 vD:FT K mg "order_of" Aj a.Jj a.Sj ["pile"] ["pile"]
 vG:FT K mg "rows_of" Kr a.Rr a.Xr ["pile"] ["pile","rows"]
 bC:FT K mg "rows_for" Bj a.Kj a.Tj ["bond","course","length","ends"] ["bond","course","length","ends","rows","row","joints"]
 cK:FT K mg "ends_fit" Cj a.Lj a.Uj ["row","course","ends"] ["row","course","ends"]
 XG:FT K mg "end_fits" Dj a.Mj a.Vj ["piece","course","end"] ["piece","course","end"]
 l7:FT K mg "piles_under" eW a.jW a.oW ["piles","rows","lap"] ["piles","rows","lap","ordered","with_joint","found","joints","borne","place"]
 T7:FT K mg "piles_by_joint" kQ a.qQ a.wQ ["ordered"] ["ordered","with_joint","number","pile","place"]
 kG:FT K mg "lowest_bit" ZY a.fZ a.mZ ["bits"] ["bits"]
 VL:FT K mg "fill" zdO a.LU a.vN ["b","t"] ["b","t","bond","found","courses","refusal"]
 UC:FT K mg "refuse_long" fW a.kW a.pW ["rows"] ["rows","row"]
 tM:FT K mg "refused" Lr a.Sr a.Yr ["refusal"] ["refusal"]
 WL:FT K mg "answer" Gx a.Ix a.Kx ["number","row","signs"] ["number","row","signs"]
 P8:MT K a.l8 "__init__" "Refusal.__init__" pN a.UG a.wN ["self","number","told"] ["self","number","told"]
 T9:MT K a.vC "__init__" "TooLong.__init__" rN a.tN a.xN ["self"] ["self"]
 M6:MT K a.V4 "__init__" "TextFault.__init__" NL a.QL a.SL ["self","line","kind"] ["self","line","kind"]
 N6:MT K a.L4 "__init__" "CannotFillPanel.__init__" SG a.VG a.WG ["self","panel"] ["self","panel"]
 Z8:MT K a.A2 "__init__" "LineFault.__init__" OL a.RL a.UL ["self","kind"] ["self","kind"]
 uB:MT K a.tD "__init__" "Bond.__init__" UR a.bS a.jS ["self","lap","most","makes","patterns"] ["self","lap","most","makes","patterns"]
 f8:MT K a.tD "pattern_of" "Bond.pattern_of" JO a.MO a.QO ["self","course"] ["self","course"]
 F8:MT K a.P4 "__init__" "BondReader.__init__" IK a.NK a.SK ["self"] ["self"]
 xA:MT K a.P4 "take" "BondReader.take" KO a.NO a.RO ["self","line"] ["self","line"]
 b6:MT K a.P4 "take_course" "BondReader.take_course" aI a.bI a.cI ["self","field"] ["self","field","pattern"]
 g8:MT K a.P4 "take_rest" "BondReader.take_rest" WJ a.YJ a.aK ["self","rest"] ["self","rest"]
 U9:MT K a.U3 "__init__" "Opening.__init__" sN a.uN a.yN ["self","numbers"] ["self","numbers"]
 G8:MT K a.U3 "lies_within" "Opening.lies_within" JK a.OK a.TK ["self","length","height"] ["self","length","height"]
 V7:MT K a.U3 "stands_behind" "Opening.stands_behind" aJ a.bJ a.cJ ["self","other"] ["self","other"]
 i9:MT K a.U3 "meets" "Opening.meets" VR a.cS a.kS ["self","other"] ["self","other","side_by_side","one_above_another"]
 YA:MT K a.U3 "covers" "Opening.covers" lQ a.rQ a.xQ ["self","place","course"] ["self","place","course"]
 vB:MT K a.SA "__init__" "Wall.__init__" XR a.dS a.lS ["self","head","openings"] ["self","head","openings"]
 i8:MT K a.SA "is_open" "Wall.is_open" PL a.MU a.UU ["self","place","course"] ["self","place","course","opening"]
 ZA:MT K a.JB "__init__" "Panel.__init__" mQ a.sQ a.yQ ["self","place","course","length","courses"] ["self","place","course","length","courses"]
 J8:MT K a.F5 "__init__" "WallReader.__init__" LK a.QK a.UK ["self"] ["self"]
 j6:MT K a.F5 "has_head" "WallReader.has_head" MK a.RK a.WK ["self"] ["self"]
 f9:MT K a.F5 "take" "WallReader.take" LO a.OO a.SO ["self","line"] ["self","line"]
 j8:MT K a.F5 "take_rest" "WallReader.take_rest" XJ a.ZJ a.bK ["self","rest"] ["self","rest"]
 j9:MT K a.b8 "__init__" "Pile.__init__" YR a.eS a.mS ["self","row","joints","above"] ["self","row","joints","above"]
 As:M3 K a.l8 "number"
 Mx:M3 K a.l8 "told"
 fJ:M3 K a.vC "number"
 YL:M3 K a.vC "told"
 zQ:M3 K a.V4 "kind"
 AQ:M3 K a.V4 "line"
 YG:M3 K a.V4 "number"
 gJ:M3 K a.V4 "told"
 VC:M3 K a.L4 "number"
 hJ:M3 K a.L4 "panel"
 pE:M3 K a.L4 "told"
 dF:M3 K a.A2 "kind"
 zN:M3 K a.tD "lap"
 VO:M3 K a.tD "makes"
 jR:M3 K a.tD "most"
 MF:M3 K a.tD "patterns"
 eF:M3 K a.P4 "lap"
 wD:M3 K a.P4 "makes"
 KB:M3 K a.P4 "most"
 K8:M3 K a.P4 "patterns"
 Q8:M3 K a.P4 "taken"
 cC:M3 K a.U3 "high"
 dC:M3 K a.U3 "wide"
 eC:M3 K a.U3 "x"
 fC:M3 K a.U3 "y"
 fI:M3 K a.SA "height"
 kR:M3 K a.SA "left"
 WC:M3 K a.SA "length"
 Ie:M3 K a.SA "name"
 wK:M3 K a.SA "openings"
 iI:M3 K a.SA "reveal"
 WO:M3 K a.SA "right"
 V9:M3 K a.JB "course"
 xK:M3 K a.JB "courses"
 gC:M3 K a.JB "length"
 zB:M3 K a.JB "place"
 k8:M3 K a.F5 "head"
 xD:M3 K a.F5 "lines"
 aA:M3 K a.F5 "openings"
 XO:M3 K a.b8 "above"
 HH:M3 K a.b8 "cuts"
 jI:M3 K a.b8 "joints"
 iF:M3 K a.b8 "pieces"
 AN:M3 K a.b8 "row"
 yD:CAt K a.l8 "__init__" a.UG
 Gn:exmOne K (.ref a.l8) (.ref a.l8)=some true
 YO:exmOne K (.ref a.vC) (.ref a.l8)=some true
 yM:exmOne K (.ref a.V4) (.ref a.l8)=some true
 lH:exmOne K (.ref a.L4) (.ref a.l8)=some true
 Pg:exmOne K (.ref a.A2) (.ref a.l8)=some false
 Qg:exmOne K (.ref a.l8) (.ref a.A2)=some false
 Rg:exmOne K (.ref a.vC) (.ref a.A2)=some false
 UZ:exmOne K (.ref a.V4) (.ref a.A2)=some false
 OS:exmOne K (.ref a.L4) (.ref a.A2)=some false
 HE:exmOne K (.ref a.A2) (.ref a.A2)=some true
 K7:mg "OTHER_LINE"= some (.int 1 a.nZ)
 bD:mg "OUT_OF_BOUNDS"= some (.int 2 a.nS)
 eV:mg "OUT_OF_ORDER"= some (.int 3 a.VU)
 ZO:mg "PLACE_IN_COMMON"= some (.int 4 a.UO)
 Yj:mg "TOO_MANY"= some (.int 5 a.Wj)
 ZG:mg "WRONG_LETTER"= some (.int 3 a.WU)
 fV:mg "NINTH_COURSE"= some (.int 4 a.XU)
 GX:mg "LETTERS"= some (.str "SHTBC" a.Zr)
 iJ:mg "LENGTHS"= some (.ref a.lA)
 jJ:∀H:Hp,eA K H a.lA [.int 4,.int 2,.int 3,.int 2,.int 1]
 qZ:mg "BRICK_SIDE"= some (.int 0 a.oZ)
 Je:mg "BRICK_END"= some (.int 1 a.Ee)
 Ke:mg "FIRST_CUT"= some (.int 2 a.Fe)
 lR:mg "LINE_FEED"= some (.int 10 a.Ge)
 zbd:mg "BLANK"= some (.int 32 a.zbc)
 iV:mg "NOUGHT"= some (.int 48 a.Lx)
 zdS:mg "NINE"= some (.int 57 a.zdP)
 qS:mg "FIRST_CAPITAL"= some (.int 65 a.oS)
 jV:mg "LAST_CAPITAL"= some (.int 90 a.YU)
 lV:mg "FIRST_LETTER"= some (.int 97 a.ZU)
 uW:mg "LAST_LETTER"= some (.int 122 a.qW)
 vW:mg "MOST_DIGITS"= some (.int 5 a.rW)
 zM:mg "MOST_NAME_LETTERS"= some (.int 15 a.xM)
 Zj:mg "MOST_LAP"= some (.int 3 a.Xj)
 Le:mg "MOST_MOST"= some (.int 2 a.He)
 mV:mg "MOST_COURSES"= some (.int 8 a.aV)
 nV:mg "MOST_PATTERN"= some (.int 8 a.bV)
 aP:mg "HEAD_WORDS"= some (.ref a.wC)
 bP:∀H:Hp,eA K H a.wC [.str "wall",.str "long",.str "high",.str "left",.str "right",.str "reveal"]
 oV:mg "OPENING_WORD"= some (.str "open" a.cV)
 Me:mg "END_WORDS"= some (.ref a.tF)
 mR:∀H:Hp,eA K H a.tF [.str "free",.str "side",.str "end"]
 zdT:mg "FREE"= some (.int 0 a.zdQ)
 wW:mg "MOST_LENGTH"= some (.int 32 a.sW)
 xW:mg "MOST_HEIGHT"= some (.int 8 a.tW)
 rS:mg "MOST_OPENINGS"= some (.int 8 a.pS)
 zdU:mg "DASH"= some (.int 45 a.zdR)
 zfV:mg "DOT"= some (.int 46 a.zfU)
 rZ:mg "MOST_BYTES"= some (.int 4096 a.pZ)
 Oe:mg "all"= none
 zb7:mg "any"= none
 ID:mg "enumerate"= none
 wB:mg "len"= none
 zfW:mg "min"= none
 zb8:mg "ord"= none
 lG:mg "range"= none
 Ak:mg "reversed"= none
 Pe:mg "sorted"= none
 zfX:mg "sum"= none
 zbe:mg "tuple"= none
 bt:∀(s:Shared)(us:List Value),us.length=(["b","t"]:List Str).length->BindsTo s a.vN ⟨us,[]⟩ ((["b","t"]:List Str).zip us)
theorem zdV{K:Frag}{fa:Addr}{a:Ad}(hfa:mg "fill"= some (.ref fa)) (T:vA K mg a):∃a:Ad,fa=a.LU/\vA K mg a/\∀(s:Shared)(us:List Value),us.length=(["b","t"]:List Str).length->BindsTo s a.vN ⟨us,[]⟩ ((["b","t"]:List Str).zip us):=⟨a,Value.ref.inj (M0 (hfa.symm.trans T.VL.m)),T,T.bt⟩
theorem lnS{P:List α->Prop}(h:∀a us,us.length=n->P (a::us)) (us:List α) (e:us.length=n+1):P us:=by
 cases us with
 |nil=>cases e
 |cons a r=>exact h a r (Nat.succ.inj e)
theorem ln0{P:List α->Prop}(h:P []) (us:List α) (e:us.length=0):P us:=by
 cases us with
 |nil=>exact h
 |cons=>cases e
theorem ln1{P:List α->Prop}(h:∀a:α,P [a]):∀us:List α,us.length=1->P us:=lnS λx=>ln0 (P:=λus=>P (x::us)) (h x)
theorem ln2{P:List α->Prop}(h:∀a b:α,P [a,b]):∀us:List α,us.length=2->P us:=lnS λx=>ln1 (P:=λus=>P (x::us)) (h x)
theorem ln3{P:List α->Prop}(h:∀a b c:α,P [a,b,c]):∀us:List α,us.length=3->P us:=lnS λx=>ln2 (P:=λus=>P (x::us)) (h x)
theorem ln4{P:List α->Prop}(h:∀a b c d:α,P [a,b,c,d]):∀us:List α,us.length=4->P us:=lnS λx=>ln3 (P:=λus=>P (x::us)) (h x)
theorem ln5{P:List α->Prop}(h:∀a b c d e:α,P [a,b,c,d,e]):∀us:List α,us.length=5->P us:=lnS λx=>ln4 (P:=λus=>P (x::us)) (h x)
theorem ln6{P:List α->Prop}(h:∀a b c d e f:α,P [a,b,c,d,e,f]):∀us:List α,us.length=6->P us:=lnS λx=>ln5 (P:=λus=>P (x::us)) (h x)
def iB(b:Bytes):List V:=b.map λc=>V.int ((c.toNat:Nat):Int)
def HX(H H':Hp):Prop:=∀b o,H b=some o->(∀φ,o≠.ext φ)->H' b=some o
theorem _root_.L2.Same.thenM{H2:Hp}(a:Same H H1) (b:HX H1 H2):HX H H2:=λc o h n=>b c o (a c o h) n
theorem _root_.L2.Same.new{o:HO}(s:Same H H') (h:H' p=Option.none):Same H (upd H' p o):=λb u e=>by
 rw[N0 (C1 (s b u e) h)];exact s b u e
theorem _root_.L2.Same.set{o:HO}(s:Same H H') (h:H p=Option.none):Same H (upd H' p o):=λb u e=>by
 rw[N0 (C1 e h)];exact s b u e
theorem _root_.L2.Same.tup{K:Frag}(e:Same H H') (h:eA K H a xs):eA K H' a xs:=by
 rcases h with(h|⟨o,h⟩)|h
 .exact .inl (.inl (e _ _ h))
 .exact .inl (.inr ⟨o,e _ _ h⟩)
 .exact .inr h
abbrev Rows(H:Hp):List Addr->List Bytes->Prop:=Paired λa b=>H a=some (.lst (iB b))
theorem Rows.same{bs:List Bytes}(s:Same H H') (r:Rows H as bs):Rows H' as bs:=Paired.mapP r λ_ _ h=>s _ _ h
theorem Rows.get:∀{as:List Addr}{bs:List Bytes}{i:Nat}{b:Bytes},Rows H as bs->bs[i]?=some b->∃a,as[i]?=some a/\H a=some (.lst (iB b))
 |_,_,_,_,.nil,h=>by simp at h
 |_,_,0,_,.cons h t,e=>by
  have e':=M0 e;subst e';exact⟨_,rfl,h⟩
 |_,_,i+1,b,.cons h t,e=>by
  obtain⟨a,h1,h2⟩:=Rows.get (i:=i) (b:=b) t e;exact⟨a,h1,h2⟩
theorem U8(h:(ts.map V.ref)[i]?=some v):∃u,ts[i]?=some u/\v=.ref u:=by
 rw[P1]at h;cases e:ts[i]? with
 |none=>rw[e]at h;cases h
 |some u=>rw[e]at h;exact⟨u,rfl,(M0 h).symm⟩
theorem Rows.upd{H:Hp}{z:Addr}{o:HO}:∀{as:List Addr}{bs:List Bytes},Rows H as bs->z∉as->Rows (upd H z o) as bs
 |_,_,.nil,_=>.nil
 |_,_,.cons h t,n=>.cons (by rw[N0 (λq=>n (by simp[q]))];exact h) (Rows.upd t λq=>n (by simp[q]))
def LB(C:Addr)(E:XK)(H:Hp)(k:Nat):Prop:=∀(d:Addr)(H':Hp),HX H H'->H' d=some (.xd [("kind",.int (k:Int))])->E (C,true) (some d) H'
theorem LB.same{E:XK}{k:Nat}(f:LB C E H k) (s:Same H H1):LB C E H1 k:=λd H' m e=>f d H' (s.thenM m) e
inductive Bk(C:Addr)(f:Str)(vs:List V)(H:Hp)(Q:VK)(E':XK):Prop
 |mk (p:Addr) (v:V) (fr:Bool) (tb:Value):vs=[.ref p,v]->H p=some (xO C fr none tb p)->(∀(d:Addr)(H':Hp),H d=none->d≠p->H' p=some (xO C fr (some d) tb p)->H' d=some (.xd [(f,v)])->(∀b,b≠p->b≠d->H' b=H b)->Q .non H')->Bk C f vs H Q E'
section
variable {P:Program}{w:World}{K:Frag}{a:Ad}
theorem YK(T:vA K mg a):Mo mg P w base cm T.Z8 1 (Bk a.A2 "kind"):=by
 refine T.Z8.F.kk T.Z8.S λH vs Q E h=>?_;obtain⟨p,v,fr,tb,rfl,hp,k⟩:=h;refine⟨rfl,λhr=>?_⟩;refine⟨_,(X0 (pM (pv 0) (pv 1) rfl)),?_⟩;exact⟨_,rfl,_,rfl,p,_,fr,none,tb,rfl,hp,T.C9.D,T.dF,.inl ⟨rfl,k⟩⟩
def pV{X:Cx}{W:WX}{e:Expr}{te:TE}{p q pos:Pos}(T:vA X.K X.mg a) (tk:RC X W) (hr:R8 cm 2 X.A) (he:PE X e te) (hg:Gl X "LineFault":= by rfl) (hc:X.calm=true:=by rfl) (h1:starEach [e] X.env=[(false,eval e X.env)]:=by rfl):=zT (pos:=q) tk hc (cO (p:=p) (pos:=pos) (T.C9.k0 T.Z8) (YK (P:=X.prog) (w:=X.w) (base:=X.base) (cm:=cm) T) hr hg T.C9.m T.Z8.b tk (F0 he Z0 h1) (by decide) h1 rfl)
inductive zb9(K:Frag)(vs:List V)(H:Hp)(Q:VK)(E':XK):Prop
 |mk (p C:Addr) (v u:V) (fr:Bool) (tb:Value):vs=[.ref p,v,u]->FY K C->M3 K C "number" -> M3 K C "told" -> H p=some (xO C fr none tb p)->(∀(d:Addr)(H':Hp),H d=none->d≠p->H' p=some (xO C fr (some d) tb p)->H' d=some (.xd [("number",v),("told",u)])->(∀b,b≠p->b≠d->H' b=H b)->Q .non H')->zb9 K vs H Q E'
theorem KC(T:vA K mg a):Mo mg P w base cm T.P8 1 (zb9 K):=by
 refine T.P8.F.kk T.P8.S λH vs Q E h=>?_;obtain⟨p,C,v,u,fr,tb,rfl,xc,na,nb,hp,k⟩:=h;refine⟨rfl,λhr=>?_⟩;refine⟨_,(T0 (pM (pv 0) (pv 1) rfl)
  (X0 (pM (pv 0) (pv 2) rfl))),?_⟩
 refine⟨_,rfl,_,rfl,p,C,fr,none,tb,rfl,hp,xc,na,.inl ⟨rfl,λd H1 nd dp e1 e2 kp=>?_⟩⟩;refine⟨_,rfl,_,rfl,p,C,fr,some d,tb,rfl,e1,xc,nb,.inr ⟨d,_,rfl,e2,(by show 1<1000;decide),?_⟩⟩;refine k d _ nd dp (by rw[N0 (N2 dp)];exact e1) ?_ λb hb hd=>by rw[N0 hd];exact kp b hb hd
 rw[C0];rfl
def rfF(n:Int)(q:Addr):List (Str×V):=[("number",.int n),("told",.ref q)]
inductive Ck(C:Addr)(n:Int)(vs:List V)(H:Hp)(Q:VK)(E':XK):Prop
 |mk (p:Addr) (fr:Bool) (tb:Value):vs=[.ref p]->H p=some (xO C fr none tb p)->(∀(d q:Addr)(H':Hp),H d=none->H q=none->d≠p->H' p=some (xO C fr (some d) tb p)->H' d=some (.xd (rfF n q))->H' q=some (.lst [])->(∀b,b≠p->b≠d->b≠q->H' b=H b)->Q .non H')->Ck C n vs H Q E'
theorem AM(T:vA K mg a):Mo mg P w base cm T.T9 2 (Ck a.vC (-1)):=by
 refine T.T9.F.kk T.T9.S λH vs Q E h=>?_;obtain⟨p,fr,tb,rfl,hp,k⟩:=h;refine⟨rfl,λhr=>?_⟩;refine⟨_,(X0 (n6 (ET (KC T) hr.mo rfl T.sM.m T.yD T.P8.b O1.passes (F0 (pv 0) (F0 (rK AG O2) (F0 (d6 Z0) Z0)))))),?_⟩;refine⟨_,rfl,_,rfl,D1 _,λq nq=>?_⟩;have pq:p≠q:=C1 hp nq;refine⟨p,_,_,_,fr,tb,rfl,T.dJ.D,T.fJ,T.YL,by rw[N0 pq];exact hp,λd H1 nd dp e1 e2 kp=>?_⟩;have dq:d≠q:=λe=>by rw[e,C0]at nd;cases nd
 refine k d q H1 (by rw[N0 dq]at nd;exact nd) nq dp e1 e2 (by rw[kp q (N2 pq) (N2 dq)];exact C0) λb h1 h2 h3=>by rw[kp b h1 h2,N0 h3]
def wfF(q:Addr)(i k:V):List (Str×V):=[("number",.int (-6)),("told",.ref q),("line",i),("kind",k)]
inductive nR(C:Addr)(vs:List V)(H:Hp)(Q:VK)(E':XK):Prop
 |mk (p:Addr) (i k:V) (fr:Bool) (tb:Value):vs=[.ref p,i,k]->H p=some (xO C fr none tb p)->(∀(d q:Addr)(H':Hp),H d=none->H q=none->d≠p->H' p=some (xO C fr (some d) tb p)->H' d=some (.xd (wfF q i k))->H' q=some (.lst [])->(∀b,b≠p->b≠d->b≠q->H' b=H b)->Q .non H')->nR C vs H Q E'
theorem IE(T:vA K mg a):Mo mg P w base cm T.M6 2 (nR a.V4):=by
 refine T.M6.F.kk T.M6.S λH vs Q E h=>?_;obtain⟨p,i,kk,fr,tb,rfl,hp,k⟩:=h;refine⟨rfl,λhr=>?_⟩;refine⟨_,(T0 (n6 (ET (KC T) hr.mo rfl T.sM.m T.yD T.P8.b O1.passes (F0 (pv 0) (F0 (rK AG O2) (F0 (d6 Z0) Z0)))))
  (T0 (pM (pv 0) (pv 1) rfl)
  (X0 (pM (pv 0) (pv 2) rfl)))),?_⟩
 refine⟨_,rfl,_,rfl,D1 _,λq nq=>?_⟩;have pq:p≠q:=C1 hp nq;refine⟨p,_,_,_,fr,tb,rfl,T.B9.D,T.YG,T.gJ,by rw[N0 pq];exact hp,λd H1 nd dp e1 e2 kp=>?_⟩;have dq:d≠q:=λe=>by rw[e,C0]at nd;cases nd
 refine⟨_,rfl,_,rfl,p,_,fr,some d,tb,rfl,e1,T.B9.D,T.AQ,.inr ⟨d,_,rfl,e2,(by show 2<1000;decide),?_⟩⟩;have e3:upd H1 d (.xd (CG "line" i [("number",.int (-6)),("told",.ref q)])) p=some (xO a.V4 fr (some d) tb p):=by
  rw[N0 (N2 dp)];exact e1
 refine⟨_,rfl,_,rfl,p,_,fr,some d,tb,rfl,e3,T.B9.D,T.zQ,.inr ⟨d,_,rfl,C0,(by show 3<1000;decide),?_⟩⟩;rw[Y4];refine k d q _ (by rw[N0 dq]at nd;exact nd) nq dp (by rw[N0 (N2 dp)];exact e1) ?_ (by rw[N0 (N2 dq),kp q (N2 pq) (N2 dq)];exact C0) λb hb hd hq=>by rw[N0 hd,kp b hb hd,N0 hq]
 rw[C0];rfl
theorem N4(T:vA K mg a){E:XK}{k:Nat}{D:eL}(h:LB a.A2 E H k) :
  DY K (λ_=>E) (AT a.A2 (Bk a.A2 "kind") (λ_=>E) (Ql (tC (.int (k:Int))) Fa)) D σ H:=by
 refine⟨(by show 1<=1000;decide),λx hx=>⟨x,_,true,.none,rfl,C0,λd H' nd dx e1 e2 kp=>⟨rfl,x,_,some d,rfl,e1,T.C9.E,?_⟩⟩⟩;refine h d _ (λb o e n=>?_) (ZD e2 λφ q=>nomatch q);have bx:b≠x:=C1 e hx;have nd':H d=none:=by
  rw[N0 dx]at nd;exact nd
 refine ZD ?_ n;rw[kp b bx (C1 e nd'),N0 bx];exact e
def Ox(C:Addr)(n:Int)(E:XK)(H:Hp):Prop:=∀(d q:Addr)(H':Hp),HX H H'->H' d=some (.xd (rfF n q))->H' q=some (.lst [])->E (C,true) (some d) H'
theorem Dk{n:Int}(hE:Gq K C) {E:XK}{D:eL}(h:Ox C n E H) :
  DY K (λ_=>E) (AT C (Ck C n) (λ_=>E) Fa) D σ H:=by
 refine⟨(by show 0<=1000;decide),λx hx=>⟨x,true,.none,rfl,C0,λd q H' nd nq dx e1 e2 e3 kp=>⟨rfl,x,_,some d,rfl,e1,hE,?_⟩⟩⟩;refine h d q _ (λb o e n=>?_) (ZD e2 λφ q=>nomatch q) (ZD e3 λφ q=>nomatch q);have bx:b≠x:=C1 e hx;have nd':H d=none:=by
  rw[N0 dx]at nd;exact nd
 have qx:q≠x:=λe=>by
  rw[e,C0]at nq;cases nq
 have nq':H q=none:=by
  rw[N0 qx]at nq;exact nq
 refine ZD ?_ n;rw[kp b bx (C1 e nd') (C1 e nq'),N0 bx];exact e
end
section
variable {K:Frag}{tb:TS}{D:eL}
theorem BM:1000000<=sizeLine:=by decide
theorem ZL(Pv:Nat->L2.St->Hp->Prop)(h0:Pv 0 σ H)(hl:∀i σ H,i<=xs.length->Pv i σ H->SqL K H a xs)
 (hs:∀i x σ H T,xs[i]?=some x->Pv i σ H->H T=none->g (.ref T) σ (upd H T (.tup [.int (i:Nat),x])) λσ2 H2=>tb {D with nx:=Pv (i+1),ct:=Pv (i+1),bk:=D.nx} σ2 H2) (hd:∀σ H,Pv xs.length σ H->D.nx σ H) :
   ∃W:Nat->Nat->L2.St->Hp->Prop,(∃m,W 0 m σ H)/\∀i m σ H,W i m σ H->
    ((Ite K a).stop i H/\D.nx σ H)\/((Ite K a).go i H/\∃N:L2.St->Hp->Prop,(∀σ' H',N σ' H'->∃m',m'<m/\W (i+1) m' σ' H')/\∀x H',(Ite K a).yld i H x H'->g x σ H' λσ2 H2=>tb {D with nx:=N,ct:=N,bk:=D.nx} σ2 H2):=by
  refine⟨λi m σ H=>m=xs.length-i/\i<=xs.length/\Pv i σ H,⟨xs.length,by simp,D1 _,h0⟩,?_⟩;rintro i m σ H ⟨rfl,hi,p⟩;have q:=hl i σ H hi p;by_cases DC:i<xs.length
  .refine .inr ⟨⟨xs,xs[i],q,by simp[DC]⟩,Pv (i+1),λσ' H' p'=>⟨xs.length-(i+1),by lia,rfl,DC,p'⟩,λx H' y=>?_⟩;obtain⟨t,z,rfl,ht,rfl,y⟩:=y;exact hs i z σ H t (y xs q) p ht
  .have e:i=xs.length:=by lia
   subst e;exact .inl ⟨⟨xs,q,j1 _⟩,hd σ H p⟩
theorem Bs(Pv:Nat->L2.St->Hp->Prop)(h0:Pv 0 σ H)(hl:∀i σ H,i<=xs.length->Pv i σ H->eA K H a xs)
 (hs:∀i x σ H T,xs[i]?=some x->Pv i σ H->H T=none->g (.ref T) σ (upd H T (.tup [.int (i:Nat),x])) λσ2 H2=>tb {D with nx:=Pv (i+1),ct:=Pv (i+1),bk:=D.nx} σ2 H2) (hd:∀σ H,Pv xs.length σ H->D.nx σ H) :
   ∃W:Nat->Nat->L2.St->Hp->Prop,(∃m,W 0 m σ H)/\∀i m σ H,W i m σ H->
    ((Tv K a).stop i H/\D.nx σ H)\/((Tv K a).go i H/\∃N:L2.St->Hp->Prop,(∀σ' H',N σ' H'->∃m',m'<m/\W (i+1) m' σ' H')/\∀x H',(Tv K a).yld i H x H'->g x σ H' λσ2 H2=>tb {D with nx:=N,ct:=N,bk:=D.nx} σ2 H2):=by
  refine⟨λi m σ H=>m=xs.length-i/\i<=xs.length/\Pv i σ H,⟨xs.length,by simp,D1 _,h0⟩,?_⟩;rintro i m σ H ⟨rfl,hi,p⟩;have q:=hl i σ H hi p;by_cases DC:i<xs.length
  .refine .inr ⟨⟨xs,xs[i],q,by simp[DC]⟩,Pv (i+1),λσ' H' p'=>⟨xs.length-(i+1),by lia,rfl,DC,p'⟩,λx H' y=>?_⟩;obtain⟨t,z,rfl,ht,rfl,y⟩:=y;exact hs i z σ H t (y xs q) p ht
  .have e:i=xs.length:=by lia
   subst e;exact .inl ⟨⟨xs,q,j1 _⟩,hd σ H p⟩
end
section
variable {Dl:Addr}
theorem T3{α:Type}:∀{l:List α}{i:Nat}{x:α},l[i]?=some x->l.take (i+1)=l.take i++[x]
 |[],i,x,h=>by simp at h
 |a::l,0,x,h=>by
  have e:a=x:=M0 h;subst e;rfl
 |a::l,i+1,x,h=>by
  have ih:=T3 (l:=l) (i:=i) (x:=x) h;show a::l.take (i+1)=a::l.take i++[x];rw[ih];rfl
theorem Ek{K:Frag}(f:V->V) (hq:SqL K H1 a xs) (hl:xs.length<1000000) (hn:H1 Dl=none)
 (he:∀x∈xs,∀(H':Hp)(R:VK),R (f x) H'->g x (Z7 σ vs) H' λσ2 H2=>Z7 σ2 vs=Z7 σ vs/\H2=H'/\te σ2 H' R)
 (hg:∀x H' (R R':L2.St->Hp->Prop),(∀σ2 H2,R σ2 H2->R' σ2 H2)->g x (Z7 σ vs) H' R->g x (Z7 σ vs) H' R')
 (hd:Qd (upd H1 Dl (.lst (xs.map f)))) :
   ∃W:Nat->Nat->Hp->Prop,(∃m,W 0 m (upd H1 Dl (.lst [])))/\∀i m H,W i m H->
    ((Cu K a).stop i H/\Qd H)\/((Cu K a).go i H/\∃Nx:Hp->Prop,(∀H',Nx H'->∃m',m'<m/\W (i+1) m' H')/\∀x H',(Cu K a).yld i H x H'->g x (Z7 σ vs) H' λσ2 H2=>Z7 σ2 vs=Z7 σ vs/\Sa σ2 H2 λb H3=>
      if b=true then te σ2 H3 λy H4=>∃acc,H4 Dl=some (.lst acc)/\acc.length<sizeLine/\Nx (upd H4 Dl (.lst (acc++[y])))else Nx H3):=by
  refine dG (xs:=xs) (λi H=>H=upd H1 Dl (.lst ((xs.take i).map f))) rfl (λi H hi e=>?_) (λi x H hx e=>?_) λH e=>?_
  .rw[e];exact Same.seq (λb o z=>by rw[N0 (C1 z hn)];exact z) hq
  .subst e;refine hg x _ _ _ ?_ (he x (M1 hx) (upd H1 Dl (.lst ((xs.take i).map f))) (λy H4=>∃acc,H4 Dl=some (.lst acc)/\acc.length<sizeLine/\upd H4 Dl (.lst (acc++[y]))=upd H1 Dl (.lst ((xs.take (i+1)).map f)))
    ⟨_,C0,by rw[B0,Z1];exact Q9 (QE _ _) (P2 hl BM),by rw[Y4,T3 hx,U0];rfl⟩)
   rintro σ2 H2 ⟨w1,rfl,q⟩;exact⟨w1,q⟩
  .rw[e,Y1];exact hd
theorem Cs{z:Str}(f:Nat->V) (hl:z.cps.toList.length<1000000) (hn:H1 Dl=none)
 (he:∀(c:Nat)(H':Hp)(R:VK),R (f c) H'->g (.str ⟨#[c]⟩) (Z7 σ vs) H' λσ2 H2=>Z7 σ2 vs=Z7 σ vs/\H2=H'/\te σ2 H' R)
 (hg:∀x H' (R R':L2.St->Hp->Prop),(∀σ2 H2,R σ2 H2->R' σ2 H2)->g x (Z7 σ vs) H' R->g x (Z7 σ vs) H' R')
 (hd:Qd (upd H1 Dl (.lst (z.cps.toList.map f)))) :
   ∃W:Nat->Nat->Hp->Prop,(∃m,W 0 m (upd H1 Dl (.lst [])))/\∀i m H,W i m H->
    ((Its z).stop i H/\Qd H)\/((Its z).go i H/\∃Nx:Hp->Prop,(∀H',Nx H'->∃m',m'<m/\W (i+1) m' H')/\∀x H',(Its z).yld i H x H'->g x (Z7 σ vs) H' λσ2 H2=>Z7 σ2 vs=Z7 σ vs/\Sa σ2 H2 λb H3=>
      if b=true then te σ2 H3 λy H4=>∃acc,H4 Dl=some (.lst acc)/\acc.length<sizeLine/\Nx (upd H4 Dl (.lst (acc++[y])))else Nx H3):=by
  have hz:z.cps.toList.length=z.cps.size:=VF;refine⟨λi m H=>m=z.cps.size-i/\i<=z.cps.size/\H=upd H1 Dl (.lst ((z.cps.toList.take i).map f)),⟨z.cps.size,by simp,D1 _,rfl⟩,?_⟩;rintro i m H ⟨rfl,hi,rfl⟩;by_cases DC:i<z.cps.size
  .refine .inr ⟨DC,λH'=>H'=upd H1 Dl (.lst ((z.cps.toList.take (i+1)).map f)),λH' p'=>⟨z.cps.size-(i+1),by lia,rfl,DC,p'⟩,λx H' y=>?_⟩;obtain⟨rfl,c,hc,rfl⟩:=y;have hx:z.cps.toList[i]?=some c:=by simpa using hc
   refine hg _ _ _ _ ?_ (he c _ (λy H4=>∃acc,H4 Dl=some (.lst acc)/\acc.length<sizeLine/\upd H4 Dl (.lst (acc++[y]))=upd H1 Dl (.lst ((z.cps.toList.take (i+1)).map f)))
    ⟨_,C0,by rw[B0,Z1];exact Q9 (QE _ _) (P2 hl BM),by rw[Y4,T3 hx,U0];rfl⟩)
   rintro σ2 H2 ⟨w1,rfl,q⟩;exact⟨w1,q⟩
  .have e:i=z.cps.size:=by lia
   subst e;refine .inl ⟨j1 _,?_⟩;rw[<-hz,Y1];exact hd
end
inductive Qe(vs:List V)(H:Hp)(Q:VK)(E':XK):Prop
 |mk (n:Int) (r s:Addr) (rs ss:List Int):vs=[.int n,.ref r,.ref s]->H r=some (.lst (rs.map V.int))->H s=some (.lst (ss.map V.int))->rs.length<=100000->ss.length<=100000->(∀(H':Hp)(p:Addr),Same H H'->H' p=some (.lst ((n::(rs.length:Int)::(rs++(ss.length:Int)::ss)).map V.int))->Q (.ref p) H')->Qe vs H Q E'
inductive IX(vs:List V)(H:Hp)(Q:VK)(E':XK):Prop
 |mk (z:Str):vs=[.str z]->z.cps.toList.length<1000->(∀(H':Hp)(p:Addr),Same H H'->H p=none->H' p=some (.lst (z.cps.toList.map λn=>V.int ((n:Nat):Int)))->Q (.ref p) H')->IX vs H Q E'
inductive Jn(K:Frag)(vs:List V)(H:Hp)(Q:VK)(E':XK):Prop
 |mk (l:Addr) (b:Bytes) (c:UInt8):vs=[.ref l,.int c.toNat]->SqL K H l (iB b)->b.length<=10000->(∀(H':Hp)(p:Addr)(as:List Addr),Same H H'->H p=none->(∀x∈as,H x=none)->H' p=some (.lst (as.map V.ref))->Rows H' as (L8 c b)->Q (.ref p) H')->Jn K vs H Q E'
section
variable {P:Program}{w:World}{K:Frag}{a:Ad}
theorem JX(T:vA K mg a):Fo P w base cm T.WL 1 Qe:=by
 refine T.WL.F.kk T.WL.S λH vs Q E h=>?_;obtain⟨n,r,s,rs,ss,rfl,h1,h2,l1,l2,k⟩:=h;refine⟨rfl,λhr=>?_⟩;refine⟨_,(X0 (Q3 (X4 Lh (X4 Lh (X4 Lh (d6 (F0 (pv 0) (F0 (NS T.wB (pv 1)) Z0))) (pv 1)) (d6 (F0 (NS T.wB (pv 2)) Z0))) (pv 2)))),?_⟩;have zl:=BM;refine⟨_,rfl,_,rfl,r,_,rfl,.inl (SqL.of h1),(by show 2<=sizeLine;decide),λp1 n1=>?_⟩;have s1:Same H (upd H p1 (.lst [.int n,.int ((rs.map V.int).length:Nat)])):=(Same.refl _).new n1;refine⟨_,rfl,p1,r,_,_,rfl,rfl,C0,s1 _ _ h1,(by simp;lia),λp2 n2=>?_⟩;have s2:=s1.new (o:=.lst ([.int n,.int ((rs.map V.int).length:Nat)]++rs.map V.int)) n2;refine⟨_,rfl,s,_,rfl,.inl (SqL.of (s2 _ _ h2)),(by show 1<=sizeLine;decide),λp3 n3=>?_⟩;have s3:=s2.new (o:=.lst [.int ((ss.map V.int).length:Nat)]) n3;refine⟨p2,p3,_,_,rfl,rfl,(by rw[N0 (C1 C0 n3)];exact C0),C0,(by simp;lia),λp4 n4=>?_⟩;have s4:=s3.new (o:=.lst ([.int n,.int ((rs.map V.int).length:Nat)]++rs.map V.int++[.int ((ss.map V.int).length:Nat)])) n4;refine⟨_,rfl,p4,s,_,_,rfl,rfl,C0,s4 _ _ h2,(by simp;lia),λp5 n5=>?_⟩;refine k _ p5 (s4.new n5) ?_;rw[C0];simp
theorem aM(T:vA K mg a):Fo P w base true T.ZB 1 IX:=by
 refine T.ZB.F.kk T.ZB.S λH vs Q E h=>?_;obtain⟨z,rfl,hl,k⟩:=h;refine⟨rfl,λhr=>?_⟩;refine⟨_,(X0 (Q3 (GC O1 rfl rfl (own:=[("sign",1)]) rfl T.ZB.S.nd (zdj (pv 0)) (bW ["word","sign"] (X3 yU) [("sign",1)]) (λtk=>(wE 1 T.ZB.S)) (λtk=>Y9) (λtk=>(NA Ea rfl T.zb8 Dx (F0 (pv 1) Z0)))))),?_⟩;refine⟨_,rfl,z,rfl,λDl hD=>?_⟩;refine Cs (λn=>V.int ((n:Nat):Int)) (by lia) hD (λc H' R q=>?_) (λx H' R R' m q=>m _ _ q) ?_
 .exact⟨rfl,rfl,_,rfl,_,rfl,rfl,q⟩
 .exact k _ Dl ((Same.refl _).new hD) hD C0
inductive LX(K:Frag)(vs:List V)(H:Hp)(Q:VK)(E':XK):Prop
 |mk (ea C d q:Addr) (fr:Bool) (tb:Value) (F:List (Str×V)) (n:Int) (ns:List Int):vs=[.ref ea]->H ea=some (xO C fr (some d) tb ea)->H d=some (.xd F)->FY K C->M3 K C "number" -> M3 K C "told" -> F.lookup ("number": Str)=some (.int n)->F.lookup ("told": Str)=some (.ref q)->H q=some (.lst (ns.map V.int))->ns.length<=1000->(∀(H':Hp)(p:Addr),Same H H'->H' p=some (.lst ((n::(ns.length:Int)::(ns++[0])).map V.int))->Q (.ref p) H')->LX K vs H Q E'
theorem Fk(T:vA K mg a):Fo P w base cm T.tM 2 (LX K):=by
 refine T.tM.F.kk T.tM.S λH vs Q E h=>?_;obtain⟨ea,C,d,q,fr,tb,F,n,ns,rfl,l1,ed,xc,na,nb,f1,f2,hq,hl,k⟩:=h;refine⟨rfl,λhr=>?_⟩;refine⟨_,(X0 (Q3 (MC T.WL (JX T) hr (F0 (eO (K:=K) rfl (pv 0) rfl) (F0 (eO (K:=K) rfl (pv 0) rfl) (F0 (d6 Z0) Z0)))))),?_⟩;refine⟨_,rfl,ea,C,fr,d,tb,F,_,rfl,l1,ed,xc,na,f1,_,rfl,ea,C,fr,d,tb,F,_,rfl,l1,ed,xc,nb,f2,D1 _,λs Vg=>?_⟩;refine⟨n,q,s,ns,[],rfl,by rw[N0 (C1 hq Vg)];exact hq,C0,by lia,by decide,λH' p s1 e=>k H' p (λb o z=>s1 b o (((Same.refl H).new Vg) b o z)) e⟩
end
def jB(b:Bytes):List Int:=b.map λc=>((c.toNat:Nat):Int)
def oR(t:Bytes):Except Bd.Fault BS:=JG CA oO (0,FE) (fl 10 t)
def cP(b t:Bytes):List Int:=if 4096<b.length\/4096<t.length then[-1,0,0]else match oR b with
 |.error _=>[-6,0,0]
 |.ok s=>match ZF (fl 10 t)with
  |.error _=>[-6,0,0]
  |.ok x=>match Bd.buildFrom s.2 (ED x.1 x.2) (ED x.1 x.2).parts []with
   |.error i=>[-3,1,(i:Int),0]
   |.ok F=>0::0::((Bd.draw (ED x.1 x.2) F).length:Int)::jB (Bd.draw (ED x.1 x.2) F)
inductive BQ(K:Frag)(vs:List V)(H:Hp)(Q:VK)(E':XK):Prop
 |mk (lb lt:Addr) (b t:Bytes):vs=[.ref lb,.ref lt]->SqL K H lb (iB b)->b.length<=6000->SqL K H lt (iB t)->t.length<=6000->(∀(H':Hp)(p:Addr),H' p=some (.lst ((cP b t).map V.int))->Q (.ref p) H')->BQ K vs H Q E'
structure HkE where
 (P:Program) (w:World) (K:Frag) (mg:Str->Option Value) (base:Heap) (a:Ad)
abbrev HkD(e:HkE):Prop:=EA e.P e.w e.K e.mg e.base (MR e.P e.w) true 17 e.a.LU e.a.vN ["b","t"] (BQ e.K)
theorem zfZ:Nonempty Ad:=⟨by constructor<;>exact default⟩
instance:Nonempty HkE:=zfZ.elim λa=>⟨⟨default,⟨λ_ _=>0,{strHash:=λ_=>0,shareClass:=λ_=>0,mergeTok:=id,idOf:=λ_=>0,idOfShared:=λ_ _=>0,followText:=λ_=>false,idOfImm:=λ_=>0}⟩,[],λ_=>none,default,a⟩⟩
@[irreducible] noncomputable def Px:HkE:=Classical.epsilon λe=>vA e.K e.mg e.a/\¬HkD e
noncomputable def Pq:Program:=Px.P
noncomputable def wq:World:=Px.w
noncomputable def Kq:Frag:=Px.K
noncomputable def k9:Str->Option Value:=Px.mg
noncomputable def bq:Heap:=Px.base
noncomputable def aq:Ad:=Px.a
theorem ziz(h:vA Kq k9 aq->EA Pq wq Kq k9 bq (MR Pq wq) true 17 aq.LU aq.vN ["b","t"] (BQ Kq))(e:HkE)(T:vA e.K e.mg e.a):HkD e:=CC λn=>by
 have z:vA Px.K Px.mg Px.a/\¬HkD Px:=by
  unfold Px;exact gE (p:=λe=>vA e.K e.mg e.a/\¬HkD e) ⟨e,T,n⟩
 exact z.2 (h z.1)
theorem sZ{b:Bytes}{x:V}(h:(iB b)[i]?=some x):∃c,b[i]?=some c/\x=.int c.toNat:=by
 unfold iB at h;rw[P1]at h;cases e:b[i]? with
 |none=>rw[e]at h;cases h
 |some c=>
  rw[e]at h;exact⟨c,rfl,(M0 h).symm⟩
theorem FB(b:Bytes):(iB b).length=b.length:=B0 _
theorem zbf(b:Bytes)(c:UInt8):iB (b++[c])=iB b++[.int c.toNat]:=by
 grind [iB]
theorem toNat_inj{c d:UInt8}:V.int c.toNat=V.int d.toNat↔c=d:=by
 constructor
 .intro h;have h1:(c.toNat:Int)=(d.toNat:Int):=V.int.inj h;exact DF.mp (by lia)
 .intro h;rw[h]
theorem Qx(c:UInt8)(t:Bytes):(fl c t).1.length<=t.length/\(fl c t).2.length<=t.length:=by
 suffices h:∀(t:Bytes)(p:List Bytes×Bytes),(t.foldl (Bt c) p).1.length<=p.1.length+t.length/\(t.foldl (Bt c) p).2.length<=p.2.length+t.length by
  have z:=h t ([],[]);simpa[fl]using z
 intro t
 induction t with
 |nil=>intro p;exact⟨j1 _,j1 _⟩
 |cons x t ih=>
  intro p;rw[h9];have z:=ih (Bt c p x);have e:(Bt c p x).1.length<=p.1.length+1/\(Bt c p x).2.length<=p.2.length+1:=by
   unfold Bt;by_cases q:x=c
   .rw[J0 q];simp
   .rw[D0 q];simp
  simp only[N1]
  lia
theorem Rx{x:V}{l:List V}:vM (x::l) (some 1) none=l:=by
 show((x::l).drop (min 1 (l.length+1))).take (l.length+1-min 1 (l.length+1))=l;grind
theorem Sx{x:V}{l:List V}:vM (l++[x]) none (some (-1))=l:=by
 show((l++[x]).drop 0).take (((-1:Int)+((l++[x]).length:Int)).toNat-0)=l;rw[zL,show((-1:Int)+((l++[x]).length:Int)).toNat-0=l.length by simp;lia,List.take_left'];rfl
def dI(ns:List Int):PyData:=.list (ns.map PyData.int)
theorem Kn{K:Frag}{H:Hp}:∀ns:List Int,PQ K H (ns.map V.int) (ns.map PyData.int)
 |[]=>.nil
 |n::r=>.cons (.int n) (Kn r)
theorem zf0{K:Frag}{ns:List Int}(h:SqL K H p (ns.map V.int)):Dp K H (.ref p) (dI ns):=.lst h (Kn ns)
theorem pR:∀ns ms:List Int,PyData.eqvAll (ns.map PyData.int) (ms.map PyData.int)=decide (ns=ms)
 |[],[]=>rfl
 |[],_::_=>rfl
 |_::_,[]=>rfl
 |n::r,m::q=>by
  have ih:=pR r q;show(PyData.eqv (.int n) (.int m)&&PyData.eqvAll (r.map PyData.int) (q.map PyData.int))=_;rw[ih,d3];simp[PyData.eqv]
theorem zdW(ns ms:List Int):PyData.eqv (dI ns) (dI ms)=decide (ns=ms):=pR ns ms
theorem qR:∀ns:List Int,PyData.canLayAll0 (ns.map PyData.int)=true
 |[]=>by simp[PyData.canLayAll0]
 |n::r=>by simp[PyData.canLayAll0,PyData.canLay0,qR r]
theorem qV:∀ns:List Int,PyData.depthAll (ns.map PyData.int)<=1
 |[]=>by simp[PyData.depthAll]
 |n::r=>by
  have ih:=qV r;simp[PyData.depthAll,PyData.depth]
  lia
theorem oA(ns:List Int):SeqAt.shaped (dI ns)=true:=by
 grind [qR,qV,PyData.canLay0,PyData.depth,SeqAt.shaped,dI]
theorem zca(b:Bytes):iB b=(jB b).map V.int:=by
 unfold iB jB;rw[B3];rfl
theorem zdX{a b:Bytes}:jB a=jB b↔a=b:=by
 grind [jB,kD,DF.mp]
theorem yK{K:Frag}{b:Bytes}(h:SqL K H p (iB b)):Dp K H (.ref p) (dI (jB b)):=zf0 (by rw[<-zca];exact h)
theorem CQ(a b:Bytes):PyData.eqv (dI (jB a)) (dI (jB b))=decide (a=b):=by
 grind [zdW,zdX]
def i5(te:TE)(σ:L2.St)(H:Hp)(v:V):Prop:=∀R:VK,R v H->te σ H R
theorem bM{i k:Int}{Q:VK}(ha:i5 ta σ H (.int i)) (hb:i5 tb σ H (.int j)) (hc:i5 tc σ H (.int k)) (h:Q (.bl (decide (i<=j)&&decide (j<=k))) H) :
  HP (OV λi j=>.bl (decide (i<=j))) (OV λi j=>.bl (decide (i<=j))) ta tb tc σ H Q:=by
 refine ha _ (hb _ ⟨_,_,rfl,rfl,_,rfl,?_⟩);by_cases q:i<=j
 .rw[F1 q]at h ⊢;exact C7 (hc _ ⟨_,_,rfl,rfl,by simpa using h⟩)
 .rw[Y0 q]at h ⊢;exact a8 (by simpa using h)
theorem MX{i k:Int}(ha:i5 ta σ H (.int i)) (hb:i5 tb σ H (.int j)) (hc:i5 tc σ H (.int k)) (h:Q (decide (i<=j)&&decide (j<=k)) H) :
  Ju (HP (OV λi j=>.bl (decide (i<=j))) (OV λi j=>.bl (decide (i<=j))) ta tb tc) σ H Q:=bM ha hb hc ⟨_,rfl,h⟩
def Re(tt:TT)(σ:L2.St)(H:Hp)(b:Bool):Prop:=∀R:Bool->Hp->Prop,R b H->tt σ H R
theorem tZ{ta tb:TT}(ha:Re ta σ H x) (hb:x=true->Re tb σ H y) (h:Q (x&&y) H):zcT ta tb σ H Q:=by
 refine ha _ ?_;cases x with
 |true=>exact C7 (hb rfl _ h)
 |false=>exact a8 h
theorem zf1{ta tb:TT}(ha:Re ta σ H x) (hb:x=false->Re tb σ H y) (h:Q (x||y) H):tOr ta tb σ H Q:=by
 refine ha _ ?_;cases x with
 |true=>exact C7 h
 |false=>exact a8 (hb rfl _ h)
theorem Ln{Q:VK}(ha:i5 ta σ H (.bl x)) (hb:x=true->i5 tb σ H (.bl y)) (h:Q (.bl (x&&y)) H):Ut ta tb σ H Q:=by
 refine ha _ ⟨x,rfl,?_⟩;cases x with
 |true=>exact C7 (hb rfl _ h)
 |false=>exact a8 h
theorem Tx{Q:VK}(ha:i5 ta σ H (.bl x)) (hb:x=false->i5 tb σ H (.bl y)) (h:Q (.bl (x||y)) H):zcU ta tb σ H Q:=by
 refine ha _ ⟨x,rfl,?_⟩;cases x with
 |true=>exact C7 h
 |false=>exact a8 (hb rfl _ h)
theorem NX(c:UInt8)(t:Bytes):(L8 c t).length<=t.length+1/\∀x∈L8 c t,x.length<=t.length:=by
 suffices h:∀t:Bytes,(L8 c t).length<=t.length+1/\∀x∈L8 c t,x.length<=t.length by exact h t
 intro t
 induction t with
 |nil=>exact⟨j1 _,λx hx=>by rw[Q1.mp hx];exact j1 _⟩
 |cons d r ih=>
  obtain⟨y,l,e⟩:=rA c r;rw[e]at ih;unfold L8;rw[e];by_cases h:d=c
  .rw[J0 h];refine⟨by simpa using ih.1,λx hx=>?_⟩;rcases S1.mp hx with z|z
   .rw[z];exact D1 _
   .have:=ih.2 x z;rw[N1]
    lia
  .rw[D0 h];refine⟨by have:=ih.1;simp at this ⊢;lia,λx hx=>?_⟩;rcases S1.mp hx with z|z
   .rw[z];have:=ih.2 y (by simp);simp
    lia
   .have:=ih.2 x (by simp[z]);rw[N1]
    lia
theorem rV{wd:Bytes}{r:List Bytes}(h:K4 wd line=some r):r.length<=line.length/\∀x∈r,x.length<=line.length:=by
 grind [NX,K4]
theorem rR(T:vA Kq k9 aq):Fo Pq wq bq true T.uD 1 (Jn Kq):=by
 refine T.uD.F.kk T.uD.S λH vs Q E h=>?_;obtain⟨l,b,c,rfl,hS,hl,k⟩:=h;refine⟨rfl,λhr=>?_⟩;have zl:=BM;refine⟨_,(T0 (FC 2 T.uD.S (d6 (F0 (d6 Z0) Z0)))
  (T0 (t8 O1.po rfl (W7 (pv 0)) (wE 3 T.uD.S) (X0 (c7 (W3 AC (pv 3) (pv 1) (V3 _)) (X0 (n6 (BD j2 j3 o3 K9 (pv 2) (F0 (d6 Z0) Z0)))) (X0 (n6 (BD j2 j3 o3 K9 (P7 B7 (pv 2) (rK AG O2) (λ_ _=>rfl)) (F0 (pv 3) Z0)))))))
  (X0 (Q3 (pv 2))))),?_⟩
 refine⟨D1 _,λz nz=>⟨(by show 1<=sizeLine;decide),λp np=>?_⟩⟩;have zp:z≠p:=C1 (C0 (H:=H) (a:=z) (o:=.lst [])) np;have np':H p=Option.none:=by
  rw[N0 (N2 zp)]at np;exact np
 have s0':Same H (upd (upd H z (.lst [])) p (.lst [.ref z])):=((Same.refl _).new nz).new np;refine⟨_,rfl,l,rfl,⟨_,s0'.seq hS⟩,LA (K:=Kq) (a:=l) (xs:=iB b) (λi σ H'=>E3 λ(v:Option V)(as:List Addr)(z:Addr)=>A9 (σ=[some (.ref l),some (.int c.toNat),some (.ref p),v]) (Same H H') (H' p=some (.lst ((as++[z]).map V.ref))) (Rows H' as (fl c (b.take i)).1) (H' z=some (.lst (iB (fl c (b.take i)).2))) (z∉as) (p≠z) (p∉as) (∀x∈as++[z],H x=none))
  ⟨none,[],z,rfl,s0',C0,.nil,by rw[N0 zp];exact C0,by simp,N2 zp,by simp,by simpa using nz⟩ (by rintro i σ H' _ ⟨_,_,_,_,s5,_⟩;exact s5.seq hS) ?_ ?_⟩
 .rintro i y σ H' hi ⟨v,as,z,rfl,s5,hp,zP,hz,nza,npz,npa,fr⟩;obtain⟨d,hd,rfl⟩:=sZ hi;have lt:i<b.length:=(P0.mp hd).1;have len1:=Qx c (b.take i);have lr:=J1 zP;rw[Z1]at len1;have et:fl c (b.take (i+1))=Bt c (fl c (b.take i)) d:=by rw[T3 hd,zaQ]
  refine⟨_,rfl,_,rfl,rfl,_,rfl,zil (λq=>?_) (λq=>?_)⟩
  ·
   have q':d=c:=toNat_inj.mp (d5 q);have et2:fl c (b.take (i+1))=((fl c (b.take i)).1++[(fl c (b.take i)).2],[]):=by rw[et];exact J0 q'
   refine⟨_,rfl,.inl ⟨rfl,_,SqL.of hp⟩,D1 _,λz' nz'=>?_⟩;have hp':upd H' z' (.lst []) p=some (.lst ((as++[z]).map V.ref)):=by
    rw[N0 (C1 hp nz')];exact hp
   refine⟨p,_,_,rfl,rfl,hp',(by simp;lia),?_⟩;have z'p:z'≠p:=N2 (C1 hp nz');have z'z:z≠z':=C1 hz nz';have nH:H z'=Option.none:=s5.free nz';have zgG:z'∉as:=λm=>by
    have ⟨i2,hi2,e2⟩:=List.getElem_of_mem m;have hb:(fl c (b.take i)).1[i2]?=some ((fl c (b.take i)).1[i2]'(by lia)):=K0 _;obtain⟨a2,ha2,h2⟩:=Rows.get zP hb;have e3:a2=z':=by
     rw[K0 hi2,e2]at ha2;exact(M0 ha2).symm
    rw[e3,nz']at h2;cases h2
   refine⟨_,as++[z],z',rfl,(s5.new nz').set np',?_,?_,?_,?_,N2 z'p,?_,?_⟩
   .rw[C0,U0 (f:=V.ref) (l₁:=as++[z])];rfl
   .rw[et2];have r1:Rows (upd (upd H' z' (.lst [])) p (.lst ((as++[z]).map V.ref++[.ref z']))) as (fl c (b.take i)).1:=Rows.upd (Rows.upd zP zgG) npa;refine B4 r1 ?_;rw[N0 (N2 npz),N0 z'z];exact hz
   .rw[et2,N0 z'p];exact C0
   .simp only[F2,Q1,DJ];exact⟨zgG,N2 z'z⟩
   .simp only[F2,Q1,DJ];exact⟨npa,npz⟩
   .intro x hx;rcases F2.mp hx with m|m
    .exact fr x m
    .rw[Q1.mp m];exact nH
  ·
   have q':¬d=c:=λe=>q (F1 (toNat_inj.mpr e));have et2:fl c (b.take (i+1))=((fl c (b.take i)).1,(fl c (b.take i)).2++[d]):=by rw[et];exact D0 q'
   refine⟨_,rfl,_,rfl,p,_,_,.ref z,rfl,rfl,SqL.of hp,(by rw[U0];exact SN _ _),.inl ⟨rfl,_,SqL.of hz⟩,_,rfl,z,_,_,rfl,rfl,hz,(by rw[FB];lia),?_⟩;refine⟨_,as,z,rfl,s5.set (fr z (by simp)),?_,?_,?_,nza,npz,npa,fr⟩
   .rw[N0 npz];exact hp
   .rw[et2];exact Rows.upd zP nza
   .rw[et2,C0];show some (HO.lst (iB (fl c (b.take i)).2++[.int d.toNat]))=some (HO.lst (iB ((fl c (b.take i)).2++[d])));rw[zbf]
 .rintro σ H' ⟨v,as,z,rfl,s5,hp,zP,hz,nza,npz,npa,fr⟩;rw[FB,Y1]at zP hz;refine⟨_,rfl,?_⟩;refine k H' p (as++[z]) s5 np' fr hp ?_;rw[<-OT];exact B4 zP hz
inductive Se(Kq:Frag)(C:Addr)(vs:List V)(H:Hp)(Q:VK)(E:XK):Prop
 |mk (z:Str) (l:Addr) (wd line:Bytes):vs=[.str z,.ref l]->z.cps.toList=wd.map (·.toNat)->wd.length<1000->SqL Kq H l (iB line)->line.length<=10000->(match K4 wd line with
 |none=>LB C E H 1
 |some r=>∀(H':Hp)(p:Addr)(as:List Addr),Same H H'->H p=none->(∀x∈as,H x=none)->H' p=some (.lst (as.map V.ref))->Rows H' as r->Q (.ref p) H')->Se Kq C vs H Q E
theorem kJ(T:vA Kq k9 aq):Fo Pq wq bq true T.nA 3 (Se Kq aq.A2):=by
 refine T.nA.F.kk T.nA.S λH vs Q E h=>?_;obtain⟨z,l,wd,line,rfl,hw,hwl,hS,hl,k⟩:=h;refine⟨rfl,λhr=>?_⟩;refine⟨_,(T0 (FC 2 T.nA.S (MC T.uD (rR T) hr (F0 (pv 1) (F0 (XF T.zbd) Z0))))
  (T0 (c7 (W3 (Oh hr.units) (P7 B7 (pv 2) O2 (λ_ _=>rfl)) (MC T.ZB (aM T) hr (F0 (pv 0) Z0)) (V3 _)) (X0 (pV T O1 hr.mo (XF T.K7))) U4)
  (X0 (Q3 (QN tY (pv 2) (FS O2) ES))))),?_⟩
 refine⟨_,rfl,l,line,32,rfl,hS,hl,λH1 p as s1 np fr hp rows=>?_⟩;obtain⟨x,r,ex⟩:=rA 32 line;rw[ex]at rows;unfold K4 at k;rw[ex]at k;dsimp only at k;cases rows with
 |cons hx rr=>
  rename_i x0 as';refine⟨_,rfl,p,_,_,_,rfl,rfl,SqL.of hp,X5 (j:=0) rfl,_,rfl,z,rfl,(by rw[hw,B0];exact hwl),λH2 p2 s2 n2 e2=>?_⟩;have ez:(z.cps.toList.map λn=>V.int ((n:Nat):Int))=iB wd:=by
   rw[hw,B3];rfl
  rw[ez]at e2;refine⟨_,_,yK (SqL.of (s2 _ _ hx)),yK (SqL.of e2),oA _,oA _,_,rfl,?_⟩;rw[CQ];by_cases q:x=wd
  .rw[J0 q]at k;rw[F1 q];refine⟨_,rfl,1,rfl,p,_,rfl,SqL.of (s2 _ _ hp),λp3 n3=>?_⟩;have s3:=((s1.trans s2).new (o:=.lst (vM (V.ref x0::as'.map V.ref) (some 1) none)) n3)
   refine k _ p3 as' s3 ((s1.trans s2).free n3) (λy hy=>fr y (by simp[hy])) ?_ ?_
   .rw[C0,L3,Rx]
   .exact Rows.same (λb o e=>by rw[N0 (C1 (s2 _ _ e) n3)];exact s2 _ _ e) rr
  .rw[D0 q]at k;rw[Y0 q];refine C7 ?_;exact N4 T (k.same (s1.trans s2))
inductive Mn(Kq:Frag)(C:Addr)(vs:List V)(H:Hp)(Q:VK)(E:XK):Prop
 |mk (z:Str) (l:Addr) (wd line:Bytes):vs=[.str z,.ref l]->z.cps.toList=wd.map (·.toNat)->wd.length<1000->SqL Kq H l (iB line)->line.length<=10000->(match GK wd line with
 |none=>LB C E H 1
 |some x=>∀(H':Hp)(p:Addr),Same H H'->H p=none->H' p=some (.lst (iB x))->x.length<=10000->Q (.ref p) H')->Mn Kq C vs H Q E
theorem pA(T:vA Kq k9 aq):Fo Pq wq bq true T.j7 4 (Mn Kq aq.A2):=by
 refine T.j7.F.kk T.j7.S λH vs Q E h=>?_;obtain⟨z,l,wd,line,rfl,hw,hwl,hS,hl,k⟩:=h;refine⟨rfl,λhr=>?_⟩;refine⟨_,(T0 (FC 2 T.j7.S (MC T.nA (kJ T) hr (F0 (pv 0) (F0 (pv 1) Z0))))
  (T0 (c7 (W3 Kl (NS T.wB (pv 2)) O2 (V3 _)) (X0 (pV T O1 hr.mo (XF T.K7))) U4)
  (X0 (Q3 (P7 B7 (pv 2) O2 (λ_ _=>rfl)))))),?_⟩
 refine⟨_,rfl,_,rfl,z,l,wd,line,rfl,hw,hwl,hS,hl,?_⟩;unfold GK at k;cases hf:K4 wd line with
 |none=>
  rw[hf]at k;exact k
 |some r=>
  rw[hf]at k;have fln:=rV hf;intro H1 p fs s1 np fr hp rows;have fll:fs.length=r.length:=J1 rows;refine⟨_,rfl,p,_,rfl,.inl (SqL.of hp),rfl,_,rfl,?_⟩;by_cases h1:r.length=1
  rotate_left
  .rw[show(!decide (V.int (((fs.map V.ref).length:Nat):Int)=V.int 1))=true by
    rw[Y0]
    .rfl
    .intro z;have z':=V.int.inj z;rw[B0]at z'
     lia]
   refine C7 (N4 T ?_)
   match r,h1,k with
   |[],_,k=>exact k.same s1
   |[_],h1,_=>exact absurd rfl h1
   |_::_::_,_,k=>exact k.same s1
  rw[show(!decide (V.int (((fs.map V.ref).length:Nat):Int)=V.int 1))=false by
   rw[F1]
   .rfl
   .rw[B0,fll,h1];rfl]
  refine a8 ?_;obtain⟨x,rfl⟩:∃x,r=[x]:=by
   match r,h1 with
   |[x],_=>exact⟨x,rfl⟩
  have Yg:=fln.2 x (by simp);cases rows with
  |cons hx rr=>
   cases rr;rename_i f;exact⟨_,rfl,p,_,_,_,rfl,rfl,SqL.of hp,X5 (j:=0) rfl,k H1 f s1 (fr f (by simp)) hx (by lia)⟩
inductive Te(K:Frag)(C:Addr)(vs:List V)(H:Hp)(Q:VK)(E:XK):Prop
 |mk (l:Addr) (x:Bytes):vs=[.ref l]->SqL K H l (iB x)->x.length<=10000->(match readNumber x with
 |none=>LB C E H 1
 |some n=>∀H':Hp,Same H H'->Q (.int n) H')->Te K C vs H Q E
inductive Ux(K:Frag)(C:Addr)(vs:List V)(H:Hp)(Q:VK)(E:XK):Prop
 |mk (l:Addr) (x:Bytes):vs=[.ref l]->SqL K H l (iB x)->x.length<=10000->(match yH x with
 |.error k=>LB C E H k
 |.ok _=>∀H':Hp,Same H H'->Q (.ref l) H')->Ux K C vs H Q E
inductive Nn(K:Frag)(C:Addr)(vs:List V)(H:Hp)(Q:VK)(E:XK):Prop
 |mk (l:Addr) (x:Bytes) (wF most:Nat):vs=[.ref l,.int wF,.int most]->SqL K H l (iB x)->x.length<=10000->(match JJ x wF most with
 |.error k=>LB C E H k
 |.ok n=>∀H':Hp,Same H H'->Q (.int n) H')->Nn K C vs H Q E
inductive zcb(K:Frag)(C:Addr)(vs:List V)(H:Hp)(Q:VK)(E:XK):Prop
 |mk (l:Addr) (x:Bytes):vs=[.ref l]->SqL K H l (iB x)->x.length<=10000->(match xL x with
 |none=>LB C E H 1
 |some n=>∀H':Hp,Same H H'->Q (.int n) H')->zcb K C vs H Q E
def inB(lo hi:Int):V->V
 |.int n=>.bl (decide (lo<=n)&&decide (n<=hi))
 |_=>.bl false
theorem uZ(lo hi:Int)(x:Bytes):(iB x).map (inB lo hi)=(x.map λc=>decide (lo<=((c.toNat:Nat):Int))&&decide (((c.toNat:Nat):Int)<=hi)).map V.bl:=by
 unfold iB;rw[B3,B3];rfl
theorem Ds(x:Bytes):((x.map λc=>decide ((48:Int)<=((c.toNat:Nat):Int))&&decide (((c.toNat:Nat):Int)<=57)).all id)=x.all isDigit:=by
 rw[TD];refine V6 (λf=>x.all f) (funext λc=>?_);unfold isDigit;show(decide ((48:Int)<=(c.toNat:Int))&&decide ((c.toNat:Int)<=57))=_;rw[d3];simp only[E1,O0]
 lia
theorem Es(x:Bytes):((x.map λc=>decide ((97:Int)<=((c.toNat:Nat):Int))&&decide (((c.toNat:Nat):Int)<=122)).all id)=x.all isSmall:=by
 rw[TD];refine V6 (λf=>x.all f) (funext λc=>?_);unfold isSmall;show(decide ((97:Int)<=(c.toNat:Int))&&decide ((c.toNat:Int)<=122))=_;rw[d3];simp only[E1,O0]
 lia
theorem vZ{x:Bytes}(h:v∈iB x):∃n:Int,v=.int n:=by
 grind [iB]
theorem dP(T:vA Kq k9 aq):Fo Pq wq bq true T.E9 3 (Te Kq aq.A2):=by
 refine T.E9.F.kk T.E9.S λH vs Q E h=>?_;obtain⟨l,x,rfl,hS,hl,k⟩:=h;refine⟨rfl,λhr=>?_⟩;rw[HM]at k;have Zk:MI x=false->LB aq.A2 E H 1:=λz=>by
  rw[D0 (by rw[z];decide)]at k;exact k
 refine⟨_,(T0 (c7 (yG (Da NC NC O2 (NS T.wB (pv 0)) (XF T.vW))) (X0 (pV T O1 hr.mo (XF T.K7))) U4)
  (T0 (c7 (yG (cD (NA (mT rfl) rfl T.Oe xU (F0 (GC O1 rfl rfl (own:=[("byte",1)]) rfl T.E9.S.nd (W7 (pv 0)) (bW ["field","byte","number"] (X3 gR) [("byte",1)]) (λtk=>(wE 1 T.E9.S)) (λtk=>Y9) (λtk=>(uI NC NC (XF T.iV) (pv 1) (XF T.zdS)))) Z0)))) (X0 (pV T O1 hr.mo (XF T.K7))) U4)
  (T0 (c7 (PW.pt (US (W3 AC (P7 B7 (pv 0) O2 (λ_ _=>rfl)) (XF T.iV) (V3 _)) (JN (W3 MQ (NS T.wB (pv 0)) O2 (V3 _))))) (X0 (pV T O1 hr.mo (XF T.K7))) U4)
  (T0 (FC 2 T.E9.S O2)
  (T0 (t8 O1.po rfl (W7 (pv 0)) (wE 1 T.E9.S) (X0 (FC 2 T.E9.S (X4 EC (X4 AB (X4 zc2 (pv 2) O2) (pv 1)) (XF T.iV)))))
  (X0 (Q3 (pv 2)))))))),?_⟩
 refine MX (i:=1) (j:=(x.length:Nat)) (k:=5) (λR r=>r) (λR r=>⟨_,rfl,l,_,rfl,.inl hS,by rw[FB];exact r⟩) (λR r=>r) ?_;by_cases h1:1<=x.length/\x.length<=5
 rotate_left
 .rw[show(decide ((1:Int)<=(x.length:Int))&&decide ((x.length:Int)<=5))=false by
   rw[S4];intro z;simp only[E1,O0]at z
   lia]
  refine C7 (N4 T (Zk ?_));rw[S4];intro z;unfold MI at z;simp only[E1,O0]at z
  lia
 rw[show(decide ((1:Int)<=(x.length:Int))&&decide ((x.length:Int)<=5))=true by
  simp only[E1,O0]
  lia]
 refine a8 ?_;refine⟨_,rfl,l,rfl,⟨_,hS⟩,λDl hD=>Ek (inB 48 57) hS (by rw[FB];lia) hD (λv hv H' R q=>?_) (λx H' R R' m q=>m _ _ q) ?_⟩
 .obtain⟨n,rfl⟩:=vZ hv;exact⟨rfl,rfl,bM (λR r=>r) (λR r=>⟨_,rfl,r⟩) (λR r=>r) q⟩
 rw[uZ];refine⟨Dl,_,rfl,SqL.of C0,_,rfl,?_⟩;rw[Ds];have s1:Same H (upd H Dl (.lst ((x.map λc=>decide ((48:Int)<=((c.toNat:Nat):Int))&&decide (((c.toNat:Nat):Int)<=57)).map V.bl))):=(Same.refl _).new hD;cases h2:x.all isDigit with
 |false=>
  refine C7 (N4 T ((Zk ?_).same s1));unfold MI;rw[h2];simp
 |true=>
  refine a8 ?_;have QZ:=s1.seq hS;generalize upd H Dl (.lst ((x.map λc=>decide ((48:Int)<=((c.toNat:Nat):Int))&&decide (((c.toNat:Nat):Int)<=57)).map V.bl))=H1 at s1 QZ;obtain⟨c0,xr,rfl⟩:∃c0 xr,x=c0::xr:=by
   cases x with
   |nil=>simp at h1
   |cons c0 xr=>exact⟨c0,xr,rfl⟩
  dsimp only[qK,IR,QV];refine tZ (x:=decide (V.int c0.toNat=V.int 48)) (y:=decide ((1:Int)<(((c0::xr).length:Nat):Int))) (λR r=>⟨_,rfl,l,_,_,_,rfl,rfl,QZ,X5 (j:=0) rfl,rfl,_,rfl,r⟩)
   (λ_ R r=>⟨_,rfl,l,_,rfl,.inl QZ,_,_,rfl,rfl,_,rfl,by rw[FB];exact r⟩) ?_
  have nn:(decide (V.int c0.toNat=V.int 48)&&decide ((1:Int)<(((c0::xr).length:Nat):Int)))=IG (c0::xr):=by
   unfold IG;rw[d3];simp only[List.headD_cons,E1,O4,O0];have z:V.int c0.toNat=V.int 48↔c0=48:=toNat_inj (c:=c0) (d:=48);rw[z];refine and_congr sC ?_
   lia
  rw[nn];cases hn:IG (c0::xr)with
  |true=>exact C7 (N4 T ((Zk (by unfold MI;rw[hn];simp)).same s1))
  |false=>
   refine a8 ?_;rw[J0 (by
    unfold MI;rw[h2,hn];simp only[E1,O0,Bool.not_false,TH]
    lia)]at k
   generalize hx:c0::xr=x at *;refine⟨_,rfl,l,rfl,⟨_,QZ⟩,LA (K:=Kq) (a:=l) (xs:=iB x) (λi σ H'=>∃(v:Option V),σ=[some (.ref l),v,some (.int (valueOf (x.take i)))]/\H'=H1)
    ⟨none,rfl,rfl⟩ (λi σ H' _ ⟨_,_,e⟩=>by rw[e];exact QZ) ?_ ?_⟩
   .rintro i y σ H' hi ⟨v,rfl,rfl⟩;obtain⟨d,hd,rfl⟩:=sZ hi;have dd:isDigit d=true:=(Q7.mp h2) d (M1 hd);unfold isDigit at dd;simp only[E1,O0]at dd;have vl:valueOf (x.take i)<100000:=Ci _ (by rw[Z1];lia) (Q7.mpr λc hc=>(Q7.mp h2) c (List.mem_of_mem_take hc));refine⟨_,rfl,_,_,rfl,rfl,.inl ⟨by lia,by lia⟩,_,rfl,_,_,rfl,rfl,_,_,rfl,rfl,?_⟩;refine⟨some (V.int d.toNat),?_,rfl⟩;rw[T3 hd,HJ];show[some (V.ref l),some (V.int d.toNat),some (V.int ((valueOf (x.take i):Int)*10+(d.toNat:Int)-48))]=_;rw[show(valueOf (x.take i):Int)*10+(d.toNat:Int)-48=((10*valueOf (x.take i)+(d.toNat-48):Nat):Int) by lia]
   .rintro σ H' ⟨v,rfl,rfl⟩;rw[FB,Y1];exact⟨_,rfl,k _ s1⟩
theorem sV(T:vA Kq k9 aq):Fo Pq wq bq true T.bF 3 (Ux Kq aq.A2):=by
 refine T.bF.F.kk T.bF.S λH vs Q E h=>?_;obtain⟨l,x,rfl,hS,hl,k⟩:=h;refine⟨rfl,λhr=>?_⟩;unfold yH at k;refine⟨_,(T0 (c7 (PW.pt (VS (W3 (Nh hr.units) (pv 0) (d6 Z0) (V3 _)) (UM (yG (cD (NA (mT rfl) rfl T.Oe xU (F0 (GC O1 rfl rfl (own:=[("byte",1)]) rfl T.bF.S.nd (W7 (pv 0)) (bW ["field","byte"] (X3 EX) [("byte",1)]) (λtk=>(wE 1 T.bF.S)) (λtk=>Y9) (λtk=>(uI NC NC (XF T.lV) (pv 1) (XF T.uW)))) Z0))))))) (X0 (pV T O1 hr.mo (XF T.K7))) U4)
  (T0 (c7 (W3 MQ (NS T.wB (pv 0)) (XF T.zM) (V3 _)) (X0 (pV T O1 hr.mo (XF T.bD))) U4)
  (X0 (Q3 (pv 0))))),?_⟩
 refine⟨_,rfl,D1 _,λp1 n1=>?_⟩;have s1:Same H (upd H p1 (.lst [])):=(Same.refl _).new n1;have QZ:=s1.seq hS;have e1:SqL Kq (upd H p1 (.lst [])) p1 (iB []):=SqL.of C0;generalize upd H p1 (.lst [])=H1 at s1 QZ e1;refine⟨_,_,yK QZ,yK e1,oA _,oA _,_,rfl,?_⟩;rw[CQ];by_cases h0:x=[]
 .rw[F1 h0];rw[J0 (.inl h0)]at k;exact C7 (C7 (N4 T (k.same s1)))
 .rw[Y0 h0];refine⟨_,rfl,l,rfl,⟨_,QZ⟩,λDl hD=>Ek (inB 97 122) QZ (by rw[FB];lia) hD (λv hv H' R q=>?_) (λx H' R R' m q=>m _ _ q) ?_⟩
  .obtain⟨n,rfl⟩:=vZ hv;exact⟨rfl,rfl,bM (λR r=>r) (λR r=>⟨_,rfl,r⟩) (λR r=>r) q⟩
  rw[uZ];refine⟨Dl,_,rfl,SqL.of C0,_,rfl,?_⟩;rw[Es];have s2:Same H (upd H1 Dl (.lst ((x.map λc=>decide ((97:Int)<=((c.toNat:Nat):Int))&&decide (((c.toNat:Nat):Int)<=122)).map V.bl))):=s1.new hD;have hS2:=s2.seq hS;cases h2:x.all isSmall with
  |false=>
   rw[J0 (.inr h2)]at k;exact C7 (N4 T (k.same s2))
  |true=>
   rw[D0 (by rintro(z|z);exact h0 z;rw[h2]at z;cases z)]at k;refine⟨_,rfl,l,_,rfl,.inl hS2,_,_,rfl,rfl,_,rfl,?_⟩;rw[FB];by_cases h3:15<x.length
   .rw[J0 h3]at k;rw[F1 (show(15:Int)<(x.length:Int) by lia)];exact C7 (N4 T (k.same s2))
   .rw[D0 h3]at k;rw[Y0 (show ¬(15:Int)<(x.length:Int) by lia)];exact a8 ⟨_,rfl,k _ s2⟩
theorem qE(T:vA Kq k9 aq):Fo Pq wq bq true T.O8 4 (Nn Kq aq.A2):=by
 refine T.O8.F.kk T.O8.S λH vs Q E h=>?_;obtain⟨l,x,m0,m,rfl,hS,hl,k⟩:=h;refine⟨rfl,λhr=>?_⟩;unfold JJ at k;refine⟨_,(T0 (FC 3 T.O8.S (MC T.E9 (dP T) hr (F0 (pv 0) Z0)))
  (T0 (c7 (yG (Da NC NC (pv 1) (pv 3) (pv 2))) (X0 (pV T O1 hr.mo (XF T.bD))) U4)
  (X0 (Q3 (pv 3))))),?_⟩
 refine⟨_,rfl,l,x,rfl,hS,hl,?_⟩;cases hn:readNumber x with
 |none=>
  rw[hn]at k;exact k
 |some n=>
  rw[hn]at k;dsimp only at k ⊢;intro H1 s1;refine MX (i:=(m0:Nat)) (j:=(n:Nat)) (k:=(m:Nat)) (λR r=>⟨_,rfl,r⟩) (λR r=>⟨_,rfl,r⟩) (λR r=>⟨_,rfl,r⟩) ?_;by_cases q:n<m0\/m<n
  .rw[J0 q]at k;rw[show(decide ((m0:Int)<=(n:Int))&&decide ((n:Int)<=(m:Int)))=false by
    rw[S4];intro z;simp only[E1,O0]at z
    lia]
   exact C7 (N4 T (k.same s1))
  .rw[D0 q]at k;rw[show(decide ((m0:Int)<=(n:Int))&&decide ((n:Int)<=(m:Int)))=true by
    simp only[E1,O0]
    lia]
   exact a8 ⟨_,rfl,k _ s1⟩
def Ue(i:Nat):Bytes:=([ascii "free",ascii "side",ascii "end"]:List Bytes).getD i []
theorem Fs(T:vA Kq k9 aq):Fo Pq wq bq true T.eJ 3 (zcb Kq aq.A2):=by
 refine T.eJ.F.kk T.eJ.S λH vs Q E h=>?_;obtain⟨l,x,rfl,hS,hl,k⟩:=h;refine⟨rfl,λhr=>?_⟩;refine⟨_,(T0 (t8 O1.po rfl (Uv rfl T.ID (F0 (HB (v:=.ref aq.tF) rfl T.Me rfl) Z0)) (gL rfl (n9 (wE 1 T.eJ.S) (n9 (wE 2 T.eJ.S) qH))) (X0 (c7 (W3 (Nh hr.units) (pv 0) (MC T.ZB (aM T) hr (F0 (pv 2) Z0)) (V3 _)) (X0 (Q3 (pv 1))) U4)))
  (X0 (pV T O1 hr.mo (XF T.K7)))),?_⟩
 refine⟨aq.tF,_,rfl,T.mR _,Bs (K:=Kq) (a:=aq.tF) (xs:=[.str "free",.str "side",.str "end"])
  (λi σ H'=>E2 λ(u v:Option V)=>A3 (σ=[some (.ref l),u,v]) (Same H H') (∀j<i,¬x=Ue j)) ⟨none,none,rfl,(Same.refl _),λj hj=>absurd hj (by lia)⟩ (λi σ H' _ _=>T.mR _) ?_ ?_⟩
 .rintro i y σ H' t hi ⟨u,v,rfl,s1,ne⟩ ht;obtain⟨z,rfl,hz,hi3⟩:∃z:Str,y=.str z/\z.cps.toList=(Ue i).map (·.toNat)/\i<3:=by
   match i,hi with
   |0,hi=>exact⟨_,(M0 hi).symm,by decide,by decide⟩
   |1,hi=>exact⟨_,(M0 hi).symm,by decide,by decide⟩
   |2,hi=>exact⟨_,(M0 hi).symm,by decide,by decide⟩
   |i+3,hi=>simp at hi
  have wl:(Ue i).length<1000:=by
   match i,hi3 with
   |0,_=>decide
   |1,_=>decide
   |2,_=>decide
  have s2:=s1.new (o:=.tup [.int (i:Nat),.str z]) ht;refine⟨t,_,rfl,.inl (.inl C0),rfl,_,_,rfl,_,_,rfl,rfl,?_⟩;refine⟨_,rfl,_,rfl,z,rfl,(by rw[hz,B0];exact wl),λH2 p2 s3 n2 e2=>?_⟩;have ez:(z.cps.toList.map λn=>V.int ((n:Nat):Int))=iB (Ue i):=by
   rw[hz,B3];rfl
  rw[ez]at e2;refine⟨_,_,yK ((s2.trans s3).seq hS),yK (SqL.of e2),oA _,oA _,_,rfl,?_⟩;rw[CQ];by_cases q:x=Ue i
  .rw[F1 q];refine C7 ⟨_,rfl,?_⟩;have ek:xL x=some i:=by
    match i,hi3,q,ne with
    |0,_,q,_=>rw[q];rfl
    |1,_,q,_=>rw[q];rfl
    |2,_,q,_=>rw[q];rfl
   rw[ek]at k;exact k _ (s2.trans s3)
  .rw[Y0 q];refine a8 ⟨_,_,rfl,s2.trans s3,λj hj=>?_⟩;by_cases e:j=i
   .rw[e];exact q
   .exact ne j (by lia)
 .rintro σ H' ⟨u,v,rfl,s1,ne⟩;have ek:xL x=none:=by
   unfold xL;have n0:¬x=ascii "free":= ne 0 (by decide);have n1:¬x=ascii "side":= ne 1 (by decide);have n2:¬x=ascii "end":= ne 2 (by decide);rw[D0 n0,D0 n1,D0 n2]
  rw[ek]at k;dsimp only[qK,IR];exact N4 T (k.same s1)
def opF(o:Opening):List (Str×V):=[("x",.int o.x),("y",.int o.y),("wide",.int o.w),("high",.int o.h)]
def eP(C:Addr)(H:Hp)(p:Addr)(o:Opening):Prop:=∃dx,H p=some (.ins C dx (opF o))
theorem eP.same{o:Opening}(s:Same H H') (h:eP C H p o):eP C H' p o:=let ⟨dx,e⟩:=h;⟨dx,s _ _ e⟩
abbrev Ft(C:Addr)(H:Hp):List Addr->List Opening->Prop:=Paired (eP C H)
theorem Ft.same(s:Same H H')(r:Ft C H as os):Ft C H' as os:=Paired.mapP r λ_ _ h=>h.same s
theorem Paired.get{F:α->β->Prop}:∀{as:List α}{bs:List β}{i:Nat}{x:α},Paired F as bs->as[i]?=some x->∃b,bs[i]?=some b/\F x b
 |_,_,_,_,.nil,h=>by simp at h
 |_,_,0,_,.cons h t,e=>by
  have e':=M0 e;subst e';exact⟨_,rfl,h⟩
 |_,_,i+1,x,.cons h t,e=>Paired.get (i:=i) (x:=x) t e
inductive Ve(C:Addr)(vs:List V)(H:Hp)(Q:VK)(E':XK):Prop
 |mk (p dx l:Addr) (n0 n1 n2 n3:Nat):vs=[.ref p,.ref l]->H p=some (.ins C dx [])->H l=some (.lst (([n0,n1,n2,n3]:List Nat).map λn=>V.int ((n:Nat):Int)))->(∀H':Hp,H' p=some (.ins C dx (opF ⟨n0,n1,n2,n3⟩))->(∀b,b≠p->H' b=H b)->Q .non H')->Ve C vs H Q E'
inductive We(C:Addr)(vs:List V)(H:Hp)(Q:VK)(E':XK):Prop
 |mk (p:Addr) (o:Opening) (l n:Nat):vs=[.ref p,.int l,.int n]->eP C H p o->Q (.bl (o.within l n)) H->We C vs H Q E'
inductive Xe(C:Addr)(vs:List V)(H:Hp)(Q:VK)(E':XK):Prop
 |mk (p q:Addr) (o u:Opening):vs=[.ref p,.ref q]->eP C H p o->eP C H q u->(∀H':Hp,Same H H'->Q (.bl (u.before o)) H')->Xe C vs H Q E'
inductive Pn(C:Addr)(vs:List V)(H:Hp)(Q:VK)(E':XK):Prop
 |mk (p q:Addr) (o u:Opening):vs=[.ref p,.ref q]->eP C H p o->eP C H q u->Q (.bl (u.meets o)) H->Pn C vs H Q E'
theorem CM(T:vA Kq k9 aq):Mo k9 Pq wq bq true T.U9 1 (Ve aq.U3):=by
 refine T.U9.F.kk T.U9.S λH vs Q E h=>?_;obtain⟨p,dx,l,n0,n1,n2,n3,rfl,hp,hl,k⟩:=h;refine⟨rfl,λhr=>?_⟩;have lp:l≠p:=jF hl hp (by intro z;cases z);refine⟨_,(T0 (D6 (pv 0) (P7 B7 (pv 1) O2 (λ_ _=>rfl)) rfl)
  (T0 (D6 (pv 0) (P7 B7 (pv 1) O2 (λ_ _=>rfl)) rfl)
  (T0 (D6 (pv 0) (P7 B7 (pv 1) O2 (λ_ _=>rfl)) rfl)
  (X0 (D6 (pv 0) (P7 B7 (pv 1) O2 (λ_ _=>rfl)) rfl))))),?_⟩
 refine⟨_,rfl,l,_,_,_,rfl,rfl,SqL.of hl,X5 (j:=0) rfl,_,rfl,p,_,dx,_,rfl,hp,T.o4.c,T.eC,(by show 0<1000;decide),?_⟩;refine⟨_,rfl,l,_,_,_,rfl,rfl,SqL.of (by rw[N0 lp];exact hl),X5 (j:=1) rfl,_,rfl,p,_,dx,_,rfl,C0,T.o4.c,T.fC,(by show 1<1000;decide),?_⟩;rw[Y4];refine⟨_,rfl,l,_,_,_,rfl,rfl,SqL.of (by rw[N0 lp];exact hl),X5 (j:=2) rfl,_,rfl,p,_,dx,_,rfl,C0,T.o4.c,T.dC,(by show 2<1000;decide),?_⟩;rw[Y4];refine⟨_,rfl,l,_,_,_,rfl,rfl,SqL.of (by rw[N0 lp];exact hl),X5 (j:=3) rfl,_,rfl,p,_,dx,_,rfl,C0,T.o4.c,T.cC,(by show 3<1000;decide),?_⟩;rw[Y4];exact k _ C0 λb hb=>N0 hb
theorem GB{fs:List (Str×V)}{f:Str}(hs:σ[i]?=some (some (.ref p))) (hp:H p=some (.ins C dx fs)) (c:Lp Kq C) (n:M3 Kq C f) (l:fs.lookup f=some v):i5 (KH Kq (aG i) f) σ H v:=
 λR r=>⟨_,hs,p,C,dx,fs,v,rfl,hp,c,n,l,r⟩
theorem eK{i:Int}(ha:i5 ta σ H (.int i)) (hb:i5 tb σ H (.int j)):i5 (tOp (OV λi j=>.int (i+j)) ta tb) σ H (.int (i+j)):=λR r=>ha _ (hb _ ⟨_,_,rfl,rfl,r⟩)
theorem OX{i:Int}(ha:i5 ta σ H (.int i)) (hb:i5 tb σ H (.int j)):i5 (tOp (OV λi j=>.bl (decide (i<=j))) ta tb) σ H (.bl (decide (i<=j))):=λR r=>ha _ (hb _ ⟨_,_,rfl,rfl,r⟩)
theorem zcc{i:Int}(ha:i5 ta σ H (.int i)) (hb:i5 tb σ H (.int j)):i5 (tOp (OV λi j=>.bl (decide (j<i))) ta tb) σ H (.bl (decide (j<i))):=λR r=>ha _ (hb _ ⟨_,_,rfl,rfl,r⟩)
theorem fP(ha:i5 ta σ H (.bl x))(hb:i5 tb σ H (.bl y)):i5 (Ut ta tb) σ H (.bl (x&&y)):=λ_ r=>Ln ha (λ_=>hb) r
theorem Vx(ha:i5 ta σ H (.bl x))(hb:i5 tb σ H (.bl y)):i5 (zcU ta tb) σ H (.bl (x||y)):=λ_ r=>Tx ha (λ_=>hb) r
theorem DQ(hs:σ[i]?=some (some v)):i5 (aG i) σ H v:=λR r=>⟨v,hs,r⟩
theorem zf2:i5 (tC v) σ H v:=λR r=>r
theorem fK(T:vA Kq k9 aq):Mo k9 Pq wq bq true T.G8 1 (We aq.U3):=by
 refine T.G8.F.kk T.G8.S λH vs Q E h=>?_;obtain⟨p,o,l,n,rfl,⟨dx,hp⟩,k⟩:=h;refine⟨rfl,λhr=>?_⟩;refine⟨_,(X0 (Q3 (DP (FA MQ (U2 (pv 0) rfl) O2 (V3 _)) (DP (FA MQ (U2 (pv 0) rfl) O2 (V3 _)) (DP (FA NC (X4 AB (U2 (pv 0) rfl) (U2 (pv 0) rfl)) (pv 1) (V3 _)) (fL (FA NC (X4 AB (U2 (pv 0) rfl) (U2 (pv 0) rfl)) (pv 2) (V3 _)))))))),?_⟩;have fx:i5 (KH Kq (aG 0) "x") (start ["self","length","height"] [.ref p,.int l,.int n]) H (.int o.x):=GB rfl hp T.o4.c T.eC rfl;have fy:i5 (KH Kq (aG 0) "y") (start ["self","length","height"] [.ref p,.int l,.int n]) H (.int o.y):=GB rfl hp T.o4.c T.fC rfl;have fw:i5 (KH Kq (aG 0) "wide") (start ["self","length","height"] [.ref p,.int l,.int n]) H (.int o.w):=GB rfl hp T.o4.c T.dC rfl;have fh:i5 (KH Kq (aG 0) "high") (start ["self","length","height"] [.ref p,.int l,.int n]) H (.int o.h):=GB rfl hp T.o4.c T.cC rfl;refine fP (zcc fw zf2) (fP (zcc fh zf2) (fP (OX (eK fx fw) (DQ rfl)) (OX (eK fy fh) (DQ rfl)))) _ ?_;have e:(decide ((0:Int)<(o.w:Int))&&(decide ((0:Int)<(o.h:Int))&&(decide ((o.x:Int)+(o.w:Int)<=(l:Int))&&decide ((o.y:Int)+(o.h:Int)<=(n:Int)))))=o.within l n:=by
  unfold Opening.within;rw[d3];simp only[E1,O0]
  lia
 rw[e];exact k
theorem kI(T:vA Kq k9 aq):Mo k9 Pq wq bq true T.V7 1 (Xe aq.U3):=by
 refine T.V7.F.kk T.V7.S λH vs Q E h=>?_;obtain⟨p,q,o,u,rfl,⟨dx,hp⟩,⟨dy,hq⟩,k⟩:=h;refine⟨rfl,λhr=>?_⟩;refine⟨_,(X0 (Q3 (FA (zdq hr.units0) (LD (F0 (U2 (pv 0) rfl) (F0 (U2 (pv 0) rfl) Z0))) (LD (F0 (U2 (pv 1) rfl) (F0 (U2 (pv 1) rfl) Z0))) (V3 _)))),?_⟩;refine⟨_,rfl,p,_,dx,_,_,rfl,hp,T.o4.c,T.fC,rfl,_,rfl,p,_,dx,_,_,rfl,hp,T.o4.c,T.eC,rfl,(by show 2<=sizeLine;decide),λt1 n1=>?_⟩;have s1:Same H (upd H t1 (.tup [.int o.y,.int o.x])):=(Same.refl _).new n1;have BK:=s1 _ _ hq;refine⟨_,rfl,q,_,dy,_,_,rfl,BK,T.o4.c,T.fC,rfl,_,rfl,q,_,dy,_,_,rfl,BK,T.o4.c,T.eC,rfl,(by show 2<=sizeLine;decide),λt2 n2=>?_⟩;have s2:=s1.new (o:=.tup [.int u.y,.int u.x]) n2;refine⟨t1,t2,[(o.y:Int),(o.x:Int)],[(u.y:Int),(u.x:Int)],rfl,rfl,.inl (.inl (by rw[N0 (C1 C0 n2)];exact C0)),.inl (.inl C0),?_⟩;have e:HT.lexGt [(o.y:Int),(o.x:Int)] [(u.y:Int),(u.x:Int)]=u.before o:=by
  unfold Opening.before;rw[HT.lexGt_cons,HT.lexGt_cons,HT.lexGt_nil_nil,d3];by_cases e1:(o.y:Int)=(u.y:Int)
  .rw[J0 e1];by_cases e2:(o.x:Int)=(u.x:Int)
   .rw[J0 e2];simp only[Y3,E1,O0,O4];constructor
    .intro z;cases z
    .lia
   .rw[D0 e2];simp only[Y3,E1,O0,O4]
    lia
  .rw[D0 e1];simp only[Y3,E1,O0,O4]
   lia
 rw[e];exact k _ s2
theorem EQ(T:vA Kq k9 aq):Mo k9 Pq wq bq true T.i9 1 (Pn aq.U3):=by
 refine T.i9.F.kk T.i9.S λH vs Q E h=>?_;obtain⟨p,q,o,u,rfl,⟨dx,hp⟩,⟨dy,hq⟩,k⟩:=h;refine⟨rfl,λhr=>?_⟩;refine⟨_,(T0 (FC 2 T.i9.S (El (FA NC (X4 AB (U2 (pv 0) rfl) (U2 (pv 0) rfl)) (U2 (pv 1) rfl) (V3 _)) (fL (FA NC (X4 AB (U2 (pv 1) rfl) (U2 (pv 1) rfl)) (U2 (pv 0) rfl) (V3 _)))))
  (T0 (FC 3 T.i9.S (El (FA NC (X4 AB (U2 (pv 0) rfl) (U2 (pv 0) rfl)) (U2 (pv 1) rfl) (V3 _)) (fL (FA NC (X4 AB (U2 (pv 1) rfl) (U2 (pv 1) rfl)) (U2 (pv 0) rfl) (V3 _)))))
  (X0 (Q3 (DP (Xt (pv 2)) (fL (Xt (pv 3)))))))),?_⟩
 have fld:∀(σ:L2.St)(v v':Option V),σ=[some (.ref p),some (.ref q),v,v']->i5 (KH Kq (aG 0) "x") σ H (.int o.x)/\i5 (KH Kq (aG 0) "y") σ H (.int o.y)/\i5 (KH Kq (aG 0) "wide") σ H (.int o.w)/\i5 (KH Kq (aG 0) "high") σ H (.int o.h)/\
   i5 (KH Kq (aG 1) "x") σ H (.int u.x)/\i5 (KH Kq (aG 1) "y") σ H (.int u.y)/\i5 (KH Kq (aG 1) "wide") σ H (.int u.w)/\i5 (KH Kq (aG 1) "high") σ H (.int u.h):=by
  rintro σ v v' rfl;exact⟨GB rfl hp T.o4.c T.eC rfl,GB rfl hp T.o4.c T.fC rfl,GB rfl hp T.o4.c T.dC rfl,GB rfl hp T.o4.c T.cC rfl,
   GB rfl hq T.o4.c T.eC rfl,GB rfl hq T.o4.c T.fC rfl,GB rfl hq T.o4.c T.dC rfl,GB rfl hq T.o4.c T.cC rfl⟩
 obtain⟨f1,f2,f3,f4,g1,g2,g3,g4⟩:=fld [some (.ref p),some (.ref q),none,none] none none rfl;refine Vx (OX (eK f1 f3) g1) (OX (eK g1 g3) f1) _ ?_;generalize hb1:(decide ((o.x:Int)+(o.w:Int)<=(u.x:Int))||decide ((u.x:Int)+(u.w:Int)<=(o.x:Int)))=b1;obtain⟨_,f2,_,f4,_,g2,_,g4⟩:=fld [some (.ref p),some (.ref q),some (.bl b1),none] _ none rfl;refine Vx (OX (eK f2 f4) g2) (OX (eK g2 g4) f2) _ ?_;generalize hb2:(decide ((o.y:Int)+(o.h:Int)<=(u.y:Int))||decide ((u.y:Int)+(u.h:Int)<=(o.y:Int)))=b2;dsimp only[pH,zfc];refine fP (x:=!b1) (y:=!b2) (λR r=>⟨_,rfl,_,rfl,r⟩) (λR r=>⟨_,rfl,_,rfl,r⟩) _ ?_;have e:(!b1&&!b2)=u.meets o:=by
  rw[<-hb1,<-hb2];unfold Opening.meets;rw[d3];simp only[E1,P3,Bool.or_eq_false_iff,O0,K5]
  lia
 rw[e];exact k
inductive PX(K:Frag)(C CL:Addr)(vs:List V)(H:Hp)(Q:VK)(E:XK):Prop
 |mk (l bl:Addr) (line:Bytes) (long high:Nat) (as:List Addr) (os:List Opening):vs=[.ref l,.int long,.int high,.ref bl]->SqL K H l (iB line)->line.length<=10000->H bl=some (.lst (as.map V.ref))->Ft C H as os->os.length<=8->(match IM line long high os with
 |.error k=>LB CL E H k
 |.ok o=>∀(H':Hp)(p:Addr),Same H H'->H p=none->eP C H' p o->Q (.ref p) H')->PX K C CL vs H Q E
theorem QX:∀{r:List Bytes}{i:Nat}{x:Bytes},r[i]?=some x->readNumber x=none->r.mapM readNumber=none
 |[],i,x,h,_=>by simp at h
 |y::r,0,x,h,e=>by
  have h':y=x:=M0 h;subst h';rw[W8,e];rfl
 |y::r,i+1,x,h,e=>by
  have ih:=QX (r:=r) (i:=i) h e;rw[W8,ih];cases readNumber y<;>rfl
theorem RX:∀{r:List Bytes}{x:Bytes}{ns:List Nat}{n:Nat},r.mapM readNumber=some ns->readNumber x=some n->(r++[x]).mapM readNumber=some (ns++[n])
 |[],x,ns,n,h,e=>by
  have h':[]=ns:=M0 h;subst h';show[x].mapM readNumber=_;rw[W8,e];rfl
 |y::r,x,ns,n,h,e=>by
  rw[W8]at h;cases hy:readNumber y with
  |none=>rw[hy]at h;cases h
  |some m=>
   cases hr:r.mapM readNumber with
   |none=>rw[hy,hr]at h;cases h
   |some l=>
    rw[hy,hr]at h;have h':m::l=ns:=M0 h;subst h';show(y::(r++[x])).mapM readNumber=_;rw[W8,hy,RX hr e];rfl
theorem Qn{ta tb:TT}(S:Hp->Prop) (ha:∀R:Bool->Hp->Prop,(∀H1,S H1->R x H1)->ta σ H R) (hb:x=true->∀H1,S H1->∀R:Bool->Hp->Prop,(∀H2,S H2->R y H2)->tb σ H1 R)
 (h:∀H2,S H2->Q (x&&y) H2):zcT ta tb σ H Q:=by
  refine ha _ λH1 s1=>?_;cases x with
  |true=>exact C7 (hb rfl H1 s1 _ h)
  |false=>exact a8 (h H1 s1)
theorem Paired.last{F:α->β->Prop}{as:List α}{bs:List β}(r:Paired F as bs) (h:bs≠[]):∃as' x bs' y,as=as'++[x]/\bs=bs'++[y]/\F x y:=by
 induction r with
 |nil=>exact absurd rfl h
 |cons f t ih=>
  rename_i x y l1 l2;cases t with
  |nil=>exact⟨[],x,[],y,rfl,rfl,f⟩
  |cons g t=>
   obtain⟨as',x',bs',y',e1,e2,q⟩:=ih (by simp);exact⟨x::as',x',y::bs',y',by rw[e1];rfl,by rw[e2];rfl,q⟩
def iN(ns:List Nat):List V:=ns.map λn=>V.int ((n:Nat):Int)
theorem yW(T:vA Kq k9 aq):Fo Pq wq bq true T.r9 5 (PX Kq aq.U3 aq.A2):=by
 refine T.r9.F.kk T.r9.S λH vs Q E h=>?_;obtain⟨l,bl,line,long,high,as,os,rfl,hS,hl,hb,ho,hol,k⟩:=h;refine⟨rfl,λhr=>?_⟩;have zl:=BM;unfold IM at k;refine⟨_,(T0 (LI (i:=4) O1 rfl rfl (own:=[("field",5)]) rfl T.r9.S.nd rfl rfl rfl (W7 (MC T.nA (kJ T) hr (F0 (HB (v:=.str "open") rfl T.oV ⟨_,rfl⟩) (F0 (pv 0) Z0)))) (bW ["line","length","height","before","numbers","field","opening","other"] (X3 VJ) [("field",5)]) (λtk=>(wE 5 T.r9.S)) (λtk=>Y9) (λtk=>(pcg T.E9 (dP T) hr.mo tk.passes (F0 (pv 5) Z0))))
  (T0 (c7 (W3 Kl (NS T.wB (pv 4)) O2 (V3 _)) (X0 (pV T O1 hr.mo (XF T.K7))) U4)
  (T0 (FC 6 T.r9.S (kM (T.o4.k0 T.U9) (CM T) hr.mo rfl T.o4.m T.U9.b .nil O1.passes (F0 (pv 4) Z0)))
  (T0 (c7 (yG (cD (MD (pv 6) T.o4.c T.G8.M (fK T) hr.mo T.G8.b .nil O1.passes (F0 (pv 1) (F0 (pv 2) Z0))))) (X0 (pV T O1 hr.mo (XF T.bD))) U4)
  (T0 (c7 (PW.pt (US (W3 (zds hr.units0) (pv 3) (d6 Z0) (V3 _)) (JN (yG (cD (MD (pv 6) T.o4.c T.V7.M (kI T) hr.mo T.V7.b .nil O1.passes (F0 (P7 B7 (pv 3) (rK AG O2) (λ_ _=>rfl)) Z0))))))) (X0 (pV T O1 hr.mo (XF T.eV))) U4)
  (T0 (c7 (cD (NA (Tu rfl) rfl T.zb7 Ax (F0 (GC O1 rfl rfl (own:=[("other",7)]) rfl T.r9.S.nd (W7 (pv 3)) (bW ["line","length","height","before","numbers","field","opening","other"] (X3 VJ) [("other",7)]) (λtk=>(wE 7 T.r9.S)) (λtk=>Y9) (λtk=>(MD (pv 6) T.o4.c T.i9.M (EQ T) hr.mo T.i9.b .nil tk.passes (F0 (pv 7) Z0)))) Z0))) (X0 (pV T O1 hr.mo (XF T.ZO))) U4)
  (T0 (c7 (W3 AC (NS T.wB (pv 3)) (XF T.rS) (V3 _)) (X0 (pV T O1 hr.mo (XF T.Yj))) U4)
  (X0 (Q3 (pv 6)))))))))),?_⟩
 refine⟨_,rfl,"open",l,ascii "open",line,rfl,(by decide),(by decide),hS,hl,?_⟩;cases hf:K4 (ascii "open") line with
 |none=>
  rw[hf]at k;exact k
 |some r=>
  rw[hf,F4]at k;dsimp only;have fln:=rV hf;intro H1 p fs s1 np fr hp rows;have fll:fs.length=r.length:=J1 rows;refine⟨p,rfl,⟨_,SqL.of hp⟩,λDl hD=>?_⟩;refine dG (K:=Kq) (a:=p) (xs:=fs.map V.ref) (λi H'=>∃ns,A3 ((r.take i).mapM readNumber=some ns) (Same H1 H') (H' Dl=some (.lst (iN ns))))
   ⟨[],rfl,(Same.refl _).new hD,C0⟩ (by rintro i H' _ ⟨_,_,s2,_⟩;exact s2.seq (SqL.of hp)) ?_ ?_
  .rintro i y H' hi ⟨ns,hns,s2,hDl⟩;obtain⟨f,hfi,rfl⟩:=U8 hi;obtain⟨x,hx,hfx⟩:=Paired.get rows hfi;refine⟨rfl,?_⟩;have Yg:=fln.2 x (M1 hx);refine⟨_,rfl,f,x,rfl,SqL.of (s2 _ _ hfx),(by lia),?_⟩;cases hn:readNumber x with
   |none=>
    rw[QX hx hn]at k;exact k.same (s1.trans s2)
   |some n=>
    intro H2 s3;have nsl:ns.length<=i:=by
     have z:=mO hns;rw[Z1]at z
     lia
    have il:i<r.length:=(P0.mp hx).1;refine⟨_,s3 _ _ hDl,(by unfold iN;rw[B0];lia),ns++[n],?_,?_,?_⟩
    .rw[T3 hx];exact RX hns hn
    .exact(s2.trans s3).set hD
    .rw[C0];unfold iN;rw[U0];rfl
  .rintro H2 ⟨ns,hns,s2,hDl⟩;rw[B0,fll,Y1]at hns;rw[hns]at k;have iH:=s1.trans s2;refine⟨_,rfl,Dl,_,rfl,.inl (SqL.of hDl),rfl,_,rfl,?_⟩;by_cases h4:ns.length=4
   rotate_left
   .rw[show(!decide (V.int (((iN ns).length:Nat):Int)=V.int 4))=true by
     rw[Y0]
     .rfl
     .intro z;have z':=V.int.inj z;unfold iN at z';rw[B0]at z'
      lia]
    refine C7 (N4 T ?_)
    match ns,h4,k with
    |[],_,k=>exact k.same iH
    |[_],_,k=>exact k.same iH
    |[_,_],_,k=>exact k.same iH
    |[_,_,_],_,k=>exact k.same iH
    |[_,_,_,_],h4,_=>exact absurd rfl h4
    |_::_::_::_::_::_,_,k=>exact k.same iH
   rw[show(!decide (V.int (((iN ns).length:Nat):Int)=V.int 4))=false by
    rw[F1]
    .rfl
    .unfold iN;rw[B0,h4];rfl]
   refine a8 ?_;obtain⟨n0,n1,n2,n3,rfl⟩:∃n0 n1 n2 n3,ns=[n0,n1,n2,n3]:=by
    match ns,h4 with
    |[n0,n1,n2,n3],_=>exact⟨_,_,_,_,rfl⟩
   dsimp only at k;refine⟨_,rfl,λx dx nx Uz dxx=>⟨x,dx,Dl,n0,n1,n2,n3,rfl,C0,?_,λH3 e3 kp=>⟨rfl,?_⟩⟩⟩
   .have q1:Dl≠x:=C1 hDl nx;have q2:Dl≠dx:=C1 hDl Uz;rw[N0 q1,N0 q2];exact hDl
   have s3:Same H2 H3:=λb o e=>by
    have q1:b≠x:=C1 e nx;have q2:b≠dx:=C1 e Uz;rw[kp b q1,N0 q1,N0 q2];exact e
   have s03:=iH.trans s3;have hx:eP aq.U3 H3 x ⟨n0,n1,n2,n3⟩:=⟨dx,e3⟩
   have nxH:H x=Option.none:=iH.free nx;have hb3:=s03 _ _ hb;have ho3:=Ft.same s03 ho;generalize hoo:(⟨n0,n1,n2,n3⟩:Opening)=o at *;refine⟨_,rfl,x,dx,_,rfl,e3,rfl,_,rfl,_,rfl,x,o,long,high,rfl,hx,_,rfl,?_⟩;cases hw:o.within long high with
   |false=>
    rw[J0 hw]at k;exact C7 (N4 T (k.same s03))
   |true=>
    rw[D0 (by rw[hw];decide)]at k;refine a8 ?_;have nem:(!(as.map V.ref).isEmpty)=!os.isEmpty:=by
     have z:=J1 ho;cases as<;>cases os<;>first|rfl|(simp at z)
    dsimp only[qK,IR,QV];refine Qn (x:=!os.isEmpty) (y:=os.getLast?.any λ(p:Opening)=>!p.before o) (λH'=>Same H3 H') (λR r=>?_) (λbL H4 s4 R r=>?_) λH5 s5=>?_
    .refine⟨_,rfl,D1 _,λp4 n4=>⟨bl,p4,_,rfl,rfl,SqL.of (by rw[N0 (C1 hb3 n4)];exact hb3),SqL.of C0,_,rfl,?_⟩⟩;rw[nem];exact r _ ((Same.refl _).new n4)
    .have one:os≠[]:=λz=>by rw[z]at bL;cases bL
     obtain⟨as',al,os',ol,ea,eo,hal⟩:=Paired.last ho one;obtain⟨dal,zjn⟩:=id (hal.same (s03.trans s4));refine⟨_,rfl,x,dx,_,rfl,s4 _ _ e3,rfl,_,rfl,_,rfl,bl,_,_,.ref al,rfl,rfl,SqL.of (s4 _ _ hb3),(by rw[ea,U0];exact SN _ _),x,al,o,ol,rfl,hx.same s4,⟨dal,zjn⟩,λH5 s5=>⟨_,rfl,?_⟩⟩;have e:(os.getLast?.any λ(p:Opening)=>!p.before o)=!ol.before o:=by
      rw[eo];simp
     rw[e]at r;exact r _ (s4.trans s5)
    have s05:=s03.trans s5;have ee:(!os.isEmpty&&os.getLast?.any λ(p:Opening)=>!p.before o)=os.getLast?.any λ(p:Opening)=>!p.before o:=by
     cases os<;>rfl
    rw[ee];cases hbf:(os.getLast?.any λ(p:Opening)=>!p.before o)with
    |true=>
     rw[J0 hbf]at k;exact C7 (N4 T (k.same s05))
    |false=>
     rw[D0 (by rw[hbf];decide)]at k;refine a8 ?_;refine⟨_,rfl,bl,rfl,⟨_,SqL.of (s5 _ _ hb3)⟩,λD2 hD2=>?_⟩;have s6:∀ys,Same H5 (upd H5 D2 (.lst ys)):=λys=>(Same.refl _).new hD2;refine dG (K:=Kq) (a:=bl) (xs:=as.map V.ref) (λi H'=>H'=upd H5 D2 (.lst ((os.take i).map λu=>V.bl (u.meets o)))) rfl (λi H' _ e=>by rw[e];exact SqL.of (s6 _ _ _ (s5 _ _ hb3))) ?_ ?_
     .rintro i y H' hi rfl;obtain⟨f,hfi,rfl⟩:=U8 hi;obtain⟨u,hu,hfu⟩:=Paired.get ho hfi;have sa:=s05.trans (s6 ((os.take i).map λu=>V.bl (u.meets o)));refine⟨rfl,_,rfl,x,dx,_,rfl,s6 _ _ _ (s5 _ _ e3),rfl,_,rfl,x,f,o,u,rfl,(hx.same s5).same (s6 _),hfu.same sa,?_⟩;refine⟨_,C0,(by rw[B0,Z1];lia),?_⟩;rw[Y4,T3 hu,U0];rfl
     .rintro H6 rfl;rw[B0,J1 ho,Y1];refine⟨D2,os.map λu=>u.meets o,rfl,SqL.of (by rw[C0,B3];rfl),_,rfl,?_⟩;have em:((os.map λu=>u.meets o).any id)=os.any λ(p:Opening)=>p.meets o:=by
       rw[VN];rfl
      rw[em];have s06:=s05.trans (s6 (os.map λu=>V.bl (u.meets o)));have hx6:=(hx.same s5).same (s6 (os.map λu=>V.bl (u.meets o)));cases hme:(os.any λ(p:Opening)=>p.meets o)with
      |true=>
       rw[J0 hme]at k;exact C7 (N4 T (k.same s06))
      |false=>
       rw[D0 (by rw[hme];decide)]at k;refine a8 ?_;refine⟨_,rfl,bl,_,rfl,.inl (SqL.of (s06 _ _ hb)),rfl,_,rfl,?_⟩;have lo:=J1 ho;by_cases h8:8<=os.length
       .rw[J0 h8]at k;rw[F1 (show V.int (((as.map V.ref).length:Nat):Int)=V.int 8 by rw[B0,lo,show os.length=8 by lia];rfl)];exact C7 (N4 T (k.same s06))
       .rw[D0 h8]at k;rw[Y0 (show ¬V.int (((as.map V.ref).length:Nat):Int)=V.int 8 from λz=>by
         have z':=V.int.inj z;rw[B0]at z'
         lia)]
        exact a8 ⟨_,rfl,k _ x s06 nxH hx6⟩
def wZ(H:Hp)(v:V):HV->Prop
 |.nm b=>∃p,v=.ref p/\H p=some (.lst (iB b))
 |.num n=>v=.int n
theorem wZ.same{x:HV}(s:Same H H') (h:wZ H v x):wZ H' v x:=by
 cases x with
 |nm b=>obtain⟨p,e,q⟩:=h;exact⟨p,e,s _ _ q⟩
 |num n=>exact h
def Wx(v:V)(l:List Addr):Prop:=∀p,v=.ref p->p∉l
inductive Xx(K:Frag)(CL:Addr)(vs:List V)(H:Hp)(Q:VK)(E:XK):Prop
 |mk (i:Nat) (l:Addr) (line:Bytes):vs=[.int i,.ref l]->i<6->SqL K H l (iB line)->line.length<=10000->(match YF i line with
 |.error k=>LB CL E H k
 |.ok x=>∀(H':Hp)(v:V),Same H H'->wZ H' v x->(∀p,v=.ref p->H p=none)->Q v H')->Xx K CL vs H Q E
def xZ(i:Nat):Str:=(["wall","long","high","left","right","reveal"]:List Str).getD i ""
theorem Gs(i:Nat)(line:Bytes):YF i line=match GK (ascii (GY i)) line with
  |none=>.error 1
  |some x=>EF i x:=by
 unfold YF GK
 match K4 (ascii (GY i)) line with
 |none=>rfl
 |some []=>rfl
 |some [_]=>rfl
 |some (_::_::_)=>rfl
theorem zW(T:vA Kq k9 aq):Fo Pq wq bq true T.oE 5 (Xx Kq aq.A2):=by
 refine T.oE.F.kk T.oE.S λH vs Q E h=>?_;obtain⟨i,l,line,rfl,hi,hS,hl,k⟩:=h;refine⟨rfl,λhr=>?_⟩;refine⟨_,(T0 (FC 2 T.oE.S (MC T.j7 (pA T) hr (F0 (P7 eD (HB (v:=.ref aq.wC) rfl T.aP rfl) (pv 0) (λ_ _=>rfl)) (F0 (pv 1) Z0))))
  (T0 (c7 (W3 AC (pv 0) O2 (V3 _)) (X0 (Q3 (MC T.bF (sV T) hr (F0 (pv 2) Z0)))) U4)
  (T0 (c7 (W3 AC (pv 0) O2 (V3 _)) (X0 (Q3 (MC T.O8 (qE T) hr (F0 (pv 2) (F0 O2 (F0 (XF T.wW) Z0)))))) U4)
  (T0 (c7 (W3 AC (pv 0) O2 (V3 _)) (X0 (Q3 (MC T.O8 (qE T) hr (F0 (pv 2) (F0 O2 (F0 (XF T.xW) Z0)))))) U4)
  (X0 (Q3 (MC T.eJ (Fs T) hr (F0 (pv 2) Z0)))))))),?_⟩
 have hw:(xZ i).cps.toList=(ascii (GY i)).map (·.toNat)/\(ascii (GY i)).length<1000/\([V.str "wall",.str "long",.str "high",.str "left",.str "right",.str "reveal"]:List V)[i]?=some (.str (xZ i)):=by
  match i,hi with
  |0,_=>exact⟨by decide,by decide,rfl⟩
  |1,_=>exact⟨by decide,by decide,rfl⟩
  |2,_=>exact⟨by decide,by decide,rfl⟩
  |3,_=>exact⟨by decide,by decide,rfl⟩
  |4,_=>exact⟨by decide,by decide,rfl⟩
  |5,_=>exact⟨by decide,by decide,rfl⟩
  |n+6,h=>lia
 refine⟨_,rfl,aq.wC,_,_,_,rfl,rfl,T.bP _,X5 hw.2.2,_,rfl,xZ i,l,ascii (GY i),line,rfl,hw.1,hw.2.1,hS,hl,?_⟩;rw[Gs]at k;cases hf:GK (ascii (GY i)) line with
 |none=>
  rw[hf]at k;exact k
 |some x=>
  rw[hf]at k;intro H1 f s1 fH hx Yg;dsimp only at k;unfold EF at k;refine⟨_,rfl,rfl,_,rfl,?_⟩;by_cases i0:i=0
  .subst i0;rw[J0 rfl]at k;refine C7 ⟨_,rfl,f,x,rfl,SqL.of hx,Yg,?_⟩;cases hn:yH x with
   |error e=>
    rw[hn]at k;exact k.same s1
   |ok b=>
    rw[hn]at k;intro H2 s2;have eb:b=x:=by
     unfold yH at hn;by_cases q1:x=[]\/x.all isSmall=false
     .rw[J0 q1]at hn;cases hn
     .rw[D0 q1]at hn;by_cases q2:15<x.length
      .rw[J0 q2]at hn;cases hn
      .rw[D0 q2]at hn;exact(Z2 hn).symm
    subst eb;exact k H2 (.ref f) (s1.trans s2) ⟨f,rfl,s2 _ _ hx⟩ (λq e=>by cases e;exact fH)
  .rw[D0 i0]at k;rw[Y0 (show ¬V.int i=V.int 0 from λz=>i0 (by have:=V.int.inj z;lia))];refine a8 ⟨_,rfl,rfl,_,rfl,?_⟩;by_cases i1:i=1
   .subst i1;rw[J0 rfl]at k;refine C7 ⟨_,rfl,f,x,1,32,rfl,SqL.of hx,Yg,?_⟩;cases hn:EE x 32 with
    |error e=>
     rw[hn]at k;rw[show JJ x 1 32=.error e from hn];exact k.same s1
    |ok n=>
     rw[hn]at k;rw[show JJ x 1 32=.ok n from hn];exact λH2 s2=>k H2 _ (s1.trans s2) rfl (λq e=>nomatch e)
   .rw[D0 i1]at k;rw[Y0 (show ¬V.int i=V.int 1 from λz=>i1 (by have:=V.int.inj z;lia))];refine a8 ⟨_,rfl,rfl,_,rfl,?_⟩;by_cases i2:i=2
    .subst i2;rw[J0 rfl]at k;refine C7 ⟨_,rfl,f,x,1,8,rfl,SqL.of hx,Yg,?_⟩;cases hn:EE x 8 with
     |error e=>
      rw[hn]at k;rw[show JJ x 1 8=.error e from hn];exact k.same s1
     |ok n=>
      rw[hn]at k;rw[show JJ x 1 8=.ok n from hn];exact λH2 s2=>k H2 _ (s1.trans s2) rfl (λq e=>nomatch e)
    .rw[D0 i2]at k;rw[Y0 (show ¬V.int i=V.int 2 from λz=>i2 (by have:=V.int.inj z;lia))];refine a8 ⟨_,rfl,f,x,rfl,SqL.of hx,Yg,?_⟩;cases hn:xL x with
     |none=>
      rw[hn]at k;exact k.same s1
     |some n=>
      rw[hn]at k;exact λH2 s2=>k H2 _ (s1.trans s2) rfl (λq e=>nomatch e)
theorem Paired.getR{F:α->β->Prop}:∀{as:List α}{bs:List β}{i:Nat}{y:β},Paired F as bs->bs[i]?=some y->∃x,as[i]?=some x/\F x y
 |_,_,_,_,.nil,h=>by simp at h
 |_,_,0,_,.cons h t,e=>by
  grind
 |_,_,i+1,x,.cons h t,e=>Paired.getR (i:=i) t e
def MM(h:List HV):Prop:=∀(n:Nat)(x:HV),h[n]?=some x->if n=0 then ∃b,x=.nm b else ∃m,x=.num m
theorem MM.snoc{x:HV}(k:MM h) (e:YF h.length line=.ok x):MM (h++[x]):=by
 intro n y hy;by_cases hn:n<h.length
 .rw[w8 hn]at hy;exact k n y hy
 .have en:n=h.length:=by
   have z:=(P0.mp hy).1;simp at z
   lia
  subst en;rw[G6 (j1 _),nO]at hy;obtain rfl:x=y:=M0 hy;unfold YF at e;generalize K4 (ascii (GY h.length)) line=r at e
  match r,e with
  |none,e=>cases e
  |some [],e=>cases e
  |some (_::_::_),e=>cases e
  |some [z],e=>
   dsimp only at e;unfold EF at e;by_cases h0:h.length=0
   .rw[J0 h0]at e ⊢;cases q:yH z with
    |error k=>rw[q]at e;cases e
    |ok b=>rw[q]at e;exact⟨b,(Z2 e).symm⟩
   .rw[D0 h0]at e ⊢;by_cases h1:h.length=1
    .rw[J0 h1]at e;cases q:EE z 32 with
     |error k=>rw[q]at e;cases e
     |ok b=>rw[q]at e;exact⟨b,(Z2 e).symm⟩
    .rw[D0 h1]at e;by_cases h2:h.length=2
     .rw[J0 h2]at e;cases q:EE z 8 with
      |error k=>rw[q]at e;cases e
      |ok b=>rw[q]at e;exact⟨b,(Z2 e).symm⟩
     .rw[D0 h2]at e;cases q:xL z with
      |none=>grind
      |some b=>rw[q]at e;exact⟨b,(Z2 e).symm⟩
theorem MM.num(k:MM h)(hn:n<h.length)(h0:n≠0):∃m,h[n]?=some (.num m)/\SC h n=m:=by
 have e:h[n]?=some h[n]:=K0 hn;have z:=k n _ e;rw[D0 h0]at z;obtain⟨m,z⟩:=z;rw[z]at e;exact⟨m,e,by unfold SC;rw[e]⟩
theorem SX{os':List Opening}(e:zH h os line=.ok (h',os')) (kd:MM h) (h6:h.length<=6) (o8:os.length<=8):h'.length<=6/\os'.length<=8/\MM h':=by
 unfold zH at e;by_cases q:h.length<6
 .rw[J0 q]at e;cases hb:YF h.length line with
  |error k=>grind
  |ok v=>
   rw[hb]at e;have e':(h++[v],os)=(h',os'):=Z2 e;obtain⟨rfl,rfl⟩:=WB e';exact⟨by simp;lia,o8,kd.snoc hb⟩
 .rw[D0 q]at e;cases hb:IM line (SC h 1) (SC h 2) os with
  |error k=>grind
  |ok p=>
   rw[hb]at e;have e':(h,os++[p])=(h',os'):=Z2 e;obtain⟨rfl,rfl⟩:=WB e';refine⟨h6,?_,kd⟩;have lt:¬8<=os.length:=λz=>by
    unfold IM at hb;generalize ((K4 (ascii "open") line).bind λr=>r.mapM readNumber)=r at hb
    match r,hb with
    |none,hb=>cases hb
    |some [],hb=>cases hb
    |some [_],hb=>cases hb
    |some [_,_],hb=>cases hb
    |some [_,_,_],hb=>cases hb
    |some (_::_::_::_::_::_),hb=>cases hb
    |some [x0,x1,x2,x3],hb=>
     dsimp only at hb;by_cases q1:Opening.within ⟨x0,x1,x2,x3⟩ (SC h 1) (SC h 2)=false
     .grind
     .rw[D0 q1]at hb;by_cases q2:(os.getLast?.any λ(p:Opening)=>!p.before ⟨x0,x1,x2,x3⟩)=true
      .grind
      .rw[D0 q2]at hb
       all_goals grind
   simp
   lia
theorem tV{ta tb:TT}(S:Hp->Prop) (ha:∀R:Bool->Hp->Prop,(∀H1,S H1->R x H1)->ta σ H R) (hb:x=false->∀H1,S H1->∀R:Bool->Hp->Prop,(∀H2,S H2->R y H2)->tb σ H1 R)
 (h:∀H2,S H2->Q (x||y) H2):tOr ta tb σ H Q:=by
  refine ha _ λH1 s1=>?_;cases x with
  |true=>exact C7 (h H1 s1)
  |false=>exact a8 (hb rfl H1 s1 _ h)
def wrF(pl ph po:Addr):List (Str×V):=[("lines",.ref pl),("head",.ref ph),("openings",.ref po)]
structure WRd(Z:List Addr)(CR CO:Addr)(H:Hp)(r dx pl ph po:Addr)(jM:List V)(as CS:List Addr)(s:WS):Prop where
 ob:H r=some (.ins CR dx (wrF pl ph po))
 hd:H ph=some (.lst jM)
 hv:Paired (wZ H) jM s.1
 off:∀v∈jM,Wx v Z
 op:H po=some (.lst (as.map V.ref))
 os:Ft CO H as s.2.1
 ln:H pl=some (.lst (CS.map V.ref))
 rows:Rows H CS s.2.2
 lo:∀x∈CS,x∉Z
 z1:pl∈Z
 z2:ph∈Z
 z3:po∈Z
 n1:pl≠ph
 n2:pl≠po
 n3:ph≠po
 h6:s.1.length<=6
 o8:s.2.1.length<=8
 l14:s.2.2.length=s.1.length+s.2.1.length
 kd:MM s.1
def WRz(Z:List Addr)(CR CO:Addr)(H:Hp)(X:List Addr)(r:Addr)(s:WS):Prop:=∃(dx pl ph po:Addr)(jM:List V)(as CS:List Addr),X=[pl,ph,po]/\WRd Z CR CO H r dx pl ph po jM as CS s
def WR(CR CO:Addr)(H:Hp)(X:List Addr)(r:Addr)(s:WS):Prop:=WRz X CR CO H X r s
theorem WRd.keep{CR:Addr}{r pl ph po:Addr}{jM:List V}{CS:List Addr}{s:WS}(U:WRd Z CR CO H r dx pl ph po jM as CS s) (k:Same H H'):WRd Z CR CO H' r dx pl ph po jM as CS s:=
 ⟨k _ _ U.ob,k _ _ U.hd,Paired.mapP U.hv λ_ _ h=>h.same k,U.off,k _ _ U.op,Ft.same k U.os,k _ _ U.ln,Rows.same k U.rows,U.lo,U.z1,U.z2,U.z3,U.n1,U.n2,U.n3,U.h6,U.o8,U.l14,U.kd⟩
theorem gP{H:Hp}{p:Addr}{o:HO}{X:List Addr}(hp:p∈X):∀{l1:List V}{l2:List HV},Paired (wZ H) l1 l2->(∀v∈l1,Wx v X)->Paired (wZ (upd H p o)) l1 l2
 |_,_,.nil,_=>.nil
 |_,_,.cons (b:=z) f t,off=>.cons (match z,f with
   |.nm b,⟨q,e,f⟩=>⟨q,e,by rw[N0 (λz=>off _ (by simp) q e (by rw[z];exact hp))];exact f⟩
   |.num n,f=>f) (gP hp t λv hv=>off v (by simp[hv]))
theorem Rn(hp:H p=some (.lst xs)):∀{as:List Addr}{os:List Opening},Ft CO H as os->Ft CO (upd H p (.lst ys)) as os:=
 λr=>Paired.mapP r λq o ⟨dq,e⟩=>⟨dq,by rw[N0 (jF e hp (by intro z;cases z))];exact e⟩
inductive iP{S:Type}(Rd:Hp->List Addr->Addr->S->Prop)(step:S->Bytes->Except Nat S)(CL:Addr)(vs:List V)(H:Hp)(Q:VK)(E:XK):Prop
 |mk (r l:Addr) (X:List Addr) (s:S) (line:Bytes):vs=[.ref r,.ref l]->Rd H X r s->H l=some (.lst (iB line))->l∉X->line.length<=10000->(match step s line with
 |.error k=>LB CL E H k
 |.ok s'=>∀(H':Hp)(X':List Addr),(∀b o,H b=some o->b∉X->H' b=some o)->Rd H' X' r s'->(∀x∈X',x∈X\/H x=none)->Q .non H')->iP Rd step CL vs H Q E
inductive jP{S:Type}(Rd:Hp->List Addr->Addr->S->Prop)(fin:S->Bytes->Option Nat)(CL:Addr)(vs:List V)(H:Hp)(Q:VK)(E:XK):Prop
 |mk (r l:Addr) (X:List Addr) (s:S) (line:Bytes):vs=[.ref r,.ref l]->Rd H X r s->H l=some (.lst (iB line))->line.length<=10000->(match fin s line with
 |some k=>LB CL E H k
 |none=>∀H':Hp,Same H H'->Q .non H')->jP Rd fin CL vs H Q E
inductive Sn(CR CO CL:Addr)(vs:List V)(H:Hp)(Q:VK)(E:XK):Prop
 |mk (r l:Addr) (Z X:List Addr) (s:WS) (line:Bytes):vs=[.ref r,.ref l]->WRz Z CR CO H X r s->(∀z∈Z,H z≠none)->H l=some (.lst (iB line))->l∉Z->line.length<=10000->(match QQ s line with
 |.error k=>LB CL E H k
 |.ok s'=>∀H':Hp,(∀b o,H b=some o->b∉X->H' b=some o)->WRz Z CR CO H' X r s'->Q .non H')->Sn CR CO CL vs H Q E
inductive TX(CR CO:Addr)(vs:List V)(H:Hp)(Q:VK)(E':XK):Prop
 |mk (r:Addr) (Z X:List Addr) (s:WS):vs=[.ref r]->WRz Z CR CO H X r s->Q (.bl (decide (s.1.length=6))) H->TX CR CO vs H Q E'
inductive Ye(CR CO:Addr)(vs:List V)(H:Hp)(Q:VK)(E':XK):Prop
 |mk (r dx:Addr):vs=[.ref r]->H r=some (.ins CR dx [])->(∀(H':Hp)(X:List Addr),(∀b o,H b=some o->b≠r->H' b=some o)->WR CR CO H' X r ([],[],[])->(∀x∈X,H x=none)->Q .non H')->Ye CR CO vs H Q E'
def wlF(v0 v1 v2 v3 v4 v5 v6:V):List (Str×V):=[("name",v0),("length",v1),("height",v2),("left",v3),("right",v4),("reveal",v5),("openings",v6)]
inductive uV(C:Addr)(vs:List V)(H:Hp)(Q:VK)(E':XK):Prop
 |mk (p dx hd op:Addr) (v0 v1 v2 v3 v4 v5:V):vs=[.ref p,.ref hd,.ref op]->H p=some (.ins C dx [])->H hd=some (.lst [v0,v1,v2,v3,v4,v5])->(∀H':Hp,H' p=some (.ins C dx (wlF v0 v1 v2 v3 v4 v5 (.ref op)))->(∀b,b≠p->H' b=H b)->Q .non H')->uV C vs H Q E'
def Gk(CW CO:Addr)(H:Hp)(p:Addr)(h:List HV)(os:List Opening):Prop:=∃(dx op:Addr)(v0 v1 v2 v3 v4 v5:V)(as:List Addr),H p=some (.ins CW dx (wlF v0 v1 v2 v3 v4 v5 (.ref op)))/\Paired (wZ H) [v0,v1,v2,v3,v4,v5] h/\H op=some (.lst (as.map V.ref))/\Ft CO H as os
theorem gK(T:vA Kq k9 aq):Mo k9 Pq wq bq true T.J8 1 (Ye aq.F5 aq.U3):=by
 refine T.J8.F.kk T.J8.S λH vs Q E h=>?_;obtain⟨r,dx,rfl,hp,k⟩:=h;refine⟨rfl,λhr=>?_⟩;refine⟨_,(T0 (D6 (pv 0) (d6 Z0) rfl)
  (T0 (D6 (pv 0) (d6 Z0) rfl)
  (X0 (D6 (pv 0) (d6 Z0) rfl)))),?_⟩
 refine⟨D1 _,λpl npl=>⟨_,rfl,r,_,dx,_,rfl,by rw[N0 (C1 hp npl)];exact hp,T.Q4.c,T.xD,(by show 0<1000;decide),?_⟩⟩;have rl:r≠pl:=C1 hp npl;refine⟨D1 _,λph nph=>⟨_,rfl,r,_,dx,_,rfl,by rw[N0 (C1 C0 nph)];exact C0,T.Q4.c,T.k8,(by show 1<1000;decide),?_⟩⟩;have rh:r≠ph:=C1 C0 nph;have lh:pl≠ph:=λe=>by
  rw[N0 (N2 rh),<-e,C0]at nph;cases nph
 refine⟨D1 _,λpo npo=>⟨_,rfl,r,_,dx,_,rfl,by rw[N0 (C1 C0 npo)];exact C0,T.Q4.c,T.aA,(by show 2<1000;decide),?_⟩⟩;have ro:r≠po:=C1 C0 npo;rw[N0 (N2 ro)]at npo;have ho:ph≠po:=λe=>by
  rw[<-e,C0]at npo;cases npo
 rw[N0 (N2 ho),N0 (N2 ro)]at npo;have lo:pl≠po:=λe=>by
  rw[<-e,C0]at npo;cases npo
 rw[N0 (N2 lo)]at npo;rw[N0 (N2 rh),N0 (N2 lh)]at nph;refine k _ [pl,ph,po] (λb o e br=>?_) ⟨dx,pl,ph,po,[],[],[],rfl,?_,?_,.nil,(by simp),?_,.nil,?_,.nil,(by simp),(by simp),(by simp),(by simp),lh,lo,ho,by decide,by decide,rfl,λn x e=>by simp at e⟩ ?_
 .rw[N0 br,N0 (C1 e npo),N0 br,N0 (C1 e nph),N0 br,N0 (C1 e npl)];exact e
 .rw[C0];rfl
 .rw[N0 (N2 rh),N0 ho,N0 (N2 rh),C0]
 .rw[N0 (N2 ro),C0];rfl
 .rw[N0 (N2 rl),N0 lo,N0 (N2 rl),N0 lh,N0 (N2 rl),C0];rfl
 all_goals grind
theorem rE(T:vA Kq k9 aq):Mo k9 Pq wq bq true T.j6 1 (TX aq.F5 aq.U3):=by
 refine T.j6.F.kk T.j6.S λH vs Q E h=>?_;obtain⟨r,Z,X,s,rfl,⟨dx,pl,ph,po,jM,as,CS,rfl,U⟩,k⟩:=h;refine⟨rfl,λhr=>?_⟩;refine⟨_,(X0 (Q3 (FA AC (NS T.wB (U2 (pv 0) rfl)) (NS T.wB (HB (v:=.ref aq.wC) rfl T.aP rfl)) (V3 _)))),?_⟩;refine⟨_,rfl,r,_,dx,_,_,rfl,U.ob,T.Q4.c,T.k8,rfl,ph,_,rfl,.inl (SqL.of U.hd),aq.wC,_,rfl,.inr (T.bP _),rfl,?_⟩;have len:jM.length=s.1.length:=J1 U.hv;have e:decide (V.int jM.length=V.int ((([V.str "wall",.str "long",.str "high",.str "left",.str "right",.str "reveal"]:List V).length:Nat):Int))=decide (s.1.length=6):=by
  rw[len];refine S3.mpr ⟨λq=>?_,λq=>by rw[q];rfl⟩;have q':(s.1.length:Int)=6:=V.int.inj q
  lia
 rw[e];exact k
theorem DM(T:vA Kq k9 aq):Mo k9 Pq wq bq true T.f9 6 (Sn aq.F5 aq.U3 aq.A2):=by
 refine T.f9.F.kk T.f9.S λH vs Q E h=>?_;obtain⟨r,l,Z,X,⟨h,os,ls⟩,line,rfl,⟨dx,pl,ph,po,jM,as,CS,rfl,U⟩,hZ,hL,nl,hl,k⟩:=h;refine⟨rfl,λhr=>?_⟩;have zl:=BM;have len:jM.length=h.length:=J1 U.hv;have znb:as.length=os.length:=J1 U.os;have znc:CS.length=ls.length:=J1 U.rows;have h6:h.length<=6:=U.h6;have o8:os.length<=8:=U.o8;have l14:ls.length=h.length+os.length:=U.l14;have kd:MM h:=U.kd;refine⟨_,(T0 (c7 (cD (Ga (pv 0) T.Q4.c T.j6.M (rE T) hr.mo T.j6.b .nil O1.passes)) (X0 (n6 (BD j2 j3 o3 K9 (U2 (pv 0) rfl) (F0 (MC T.r9 (yW T) hr (F0 (pv 1) (F0 (P7 B7 (U2 (pv 0) rfl) O2 (λ_ _=>rfl)) (F0 (P7 B7 (U2 (pv 0) rfl) O2 (λ_ _=>rfl)) (F0 (U2 (pv 0) rfl) Z0))))) Z0)))) (X0 (n6 (BD j2 j3 o3 K9 (U2 (pv 0) rfl) (F0 (MC T.oE (zW T) hr (F0 (NS T.wB (U2 (pv 0) rfl)) (F0 (pv 1) Z0))) Z0)))))
  (X0 (n6 (BD j2 j3 o3 K9 (U2 (pv 0) rfl) (F0 (pv 1) Z0))))),?_⟩
 refine⟨_,rfl,r,dx,_,rfl,U.ob,rfl,r,Z,_,_,rfl,⟨dx,pl,ph,po,jM,as,CS,rfl,U⟩,_,rfl,?_⟩;unfold QQ zH at k;dsimp only at k ⊢;by_cases DC:h.length<6
 .rw[J0 DC]at k;rw[Y0 (show ¬h.length=6 by lia)];refine a8 ⟨_,rfl,r,_,dx,_,_,rfl,U.ob,T.Q4.c,T.k8,rfl,.inl ⟨rfl,_,SqL.of U.hd⟩,_,rfl,r,_,dx,_,_,rfl,U.ob,T.Q4.c,T.k8,rfl,ph,_,rfl,.inl (SqL.of U.hd),_,rfl,h.length,l,line,(by rw[len];rfl),DC,SqL.of hL,hl,?_⟩;cases hb:YF h.length line with
  |error e=>
   rw[hb]at k;exact k
  |ok x=>
   rw[hb]at k;intro H1 v s1 hv fresh;have U1:=U.keep s1;refine⟨ph,jM,v,rfl,rfl,U1.hd,(by lia),?_⟩;have zgM:Wx v Z:=λp e m=>hZ p m (fresh p e);have nr:r≠ph:=jF U1.ob U1.hd (by intro z;cases z);have e2:upd H1 ph (.lst (jM++[v])) pl=some (.lst (CS.map V.ref)):=by rw[N0 U.n1];exact U1.ln
   have ob2:upd H1 ph (.lst (jM++[v])) r=some (.ins aq.F5 dx (wrF pl ph po)):=by rw[N0 nr];exact U1.ob
   refine⟨_,rfl,r,_,dx,_,_,rfl,ob2,T.Q4.c,T.xD,rfl,.inl ⟨rfl,_,SqL.of e2⟩,_,rfl,pl,_,_,rfl,rfl,e2,(by rw[B0];lia),?_⟩;have nrl:r≠pl:=jF U1.ob U1.ln (by intro z;cases z);have hv2:wZ (upd (upd H1 ph (.lst (jM++[v]))) pl (.lst (CS.map V.ref++[.ref l]))) v x:=by
    cases x with
    |nm b=>
     obtain⟨p,e,q⟩:=hv;refine⟨p,e,?_⟩;have m:=zgM p e;rw[N0 (λz=>m (by rw[z];exact U.z1)),N0 (λz=>m (by rw[z];exact U.z2))];exact q
    |num n=>exact hv
   refine k _ (λb o e n=>?_) ⟨dx,pl,ph,po,jM++[v],as,CS++[l],rfl,?_,?_,?_,?_,?_,?_,?_,?_,?_,U.z1,U.z2,U.z3,U.n1,U.n2,U.n3,?_,o8,?_,kd.snoc hb⟩
   .simp only[S1,aB,cM,DJ]at n;rw[N0 n.1,N0 n.2.1];exact s1 b o e
   .rw[N0 nrl,N0 nr];exact U1.ob
   .rw[N0 (N2 U.n1)];exact C0
   .exact B4 (gP (X:=Z) U.z1 (gP (X:=Z) U.z2 U1.hv U.off) U.off) hv2
   .intro y hy;rcases F2.mp hy with m|m
    .exact U.off y m
    .rw[Q1.mp m];exact zgM
   .rw[N0 (N2 U.n2),N0 (N2 U.n3)];exact U1.op
   .exact Rn e2 (Rn U1.hd U1.os)
   .rw[C0,U0];rfl
   .refine B4 (Rows.upd (Rows.upd U1.rows λm=>U.lo _ m U.z2) λm=>U.lo _ m U.z1) ?_;rw[N0 (λz=>nl (by rw[z];exact U.z1)),N0 (λz=>nl (by rw[z];exact U.z2))];exact s1 _ _ hL
   .intro y hy;rcases F2.mp hy with m|m
    .exact U.lo y m
    .rw[Q1.mp m];exact nl
   .simp
    lia
   .simp
    lia
 .rw[D0 DC]at k;have e6:h.length=6:=by lia
  rw[F1 e6];obtain⟨m1,q1,e1⟩:=kd.num (n:=1) (by lia) (by decide);obtain⟨m2,q2,zgN⟩:=kd.num (n:=2) (by lia) (by decide);rw[e1,zgN]at k;obtain⟨v1,g1,r1⟩:=Paired.getR U.hv q1;obtain⟨v2,g2,r2⟩:=Paired.getR U.hv q2;obtain rfl:v1=.int m1:=r1;obtain rfl:v2=.int m2:=r2;refine C7 ⟨_,rfl,r,_,dx,_,_,rfl,U.ob,T.Q4.c,T.aA,rfl,.inl ⟨rfl,_,SqL.of U.op⟩,_,rfl,_,rfl,r,_,dx,_,_,rfl,U.ob,T.Q4.c,T.k8,rfl,ph,_,_,_,rfl,rfl,SqL.of U.hd,X5 (j:=1) g1,_,rfl,r,_,dx,_,_,rfl,U.ob,T.Q4.c,T.k8,rfl,ph,_,_,_,rfl,rfl,SqL.of U.hd,X5 (j:=2) g2,_,rfl,r,_,dx,_,_,rfl,U.ob,T.Q4.c,T.aA,rfl,l,po,line,m1,m2,as,os,rfl,SqL.of hL,hl,U.op,U.os,o8,?_⟩;cases hb:IM line m1 m2 os with
  |error e=>
   rw[hb]at k;exact k
  |ok o=>
   rw[hb]at k;intro H1 p s1 np hp;have U1:=U.keep s1;refine⟨po,_,_,rfl,rfl,U1.op,(by rw[B0];lia),?_⟩;have nr:r≠po:=jF U1.ob U1.op (by intro z;cases z);have e2:upd H1 po (.lst (as.map V.ref++[.ref p])) pl=some (.lst (CS.map V.ref)):=by rw[N0 U.n2];exact U1.ln
   have ob2:upd H1 po (.lst (as.map V.ref++[.ref p])) r=some (.ins aq.F5 dx (wrF pl ph po)):=by rw[N0 nr];exact U1.ob
   refine⟨_,rfl,r,_,dx,_,_,rfl,ob2,T.Q4.c,T.xD,rfl,.inl ⟨rfl,_,SqL.of e2⟩,_,rfl,pl,_,_,rfl,rfl,e2,(by rw[B0];lia),?_⟩;have nrl:r≠pl:=jF U1.ob U1.ln (by intro z;cases z);have e9:os.length<8:=by
    have z:=(SX (h:=h) (os:=os) (h':=h) (os':=os++[o]) (line:=line) (by unfold zH;rw[D0 DC,e1,zgN,hb]) kd h6 o8).2.1;simp at z
    lia
   refine k _ (λb o e n=>?_) ⟨dx,pl,ph,po,jM,as++[p],CS++[l],rfl,?_,?_,?_,U.off,?_,?_,?_,?_,?_,U.z1,U.z2,U.z3,U.n1,U.n2,U.n3,h6,?_,?_,kd⟩
   .simp only[S1,aB,cM,DJ]at n;rw[N0 n.1,N0 n.2.2];exact s1 b o e
   .rw[N0 nrl,N0 nr];exact U1.ob
   .rw[N0 (N2 U.n1),N0 U.n3];exact U1.hd
   .exact gP (X:=Z) U.z1 (gP (X:=Z) U.z3 U1.hv U.off) U.off
   .rw[N0 (N2 U.n2),C0,U0];rfl
   .have up:∀(q:Addr)(z:Opening),eP aq.U3 H1 q z->eP aq.U3 (upd (upd H1 po (.lst (as.map V.ref++[.ref p]))) pl (.lst (CS.map V.ref++[.ref l]))) q z:=λq z ⟨dq,e⟩=>⟨dq,by rw[N0 (jF e U1.ln (by intro z;cases z)),N0 (jF e U1.op (by intro z;cases z))];exact e⟩
    exact B4 (Paired.mapP U1.os λq o h=>up q o h) (up _ _ hp)
   .rw[C0,U0];rfl
   .refine B4 (Rows.upd (Rows.upd U1.rows λm=>U.lo _ m U.z3) λm=>U.lo _ m U.z1) ?_;rw[N0 (λz=>nl (by rw[z];exact U.z1)),N0 (λz=>nl (by rw[z];exact U.z3))];exact s1 _ _ hL
   .intro y hy;rcases F2.mp hy with m|m
    .exact U.lo y m
    .rw[Q1.mp m];exact nl
   .simp
    lia
   .simp
    lia
theorem WRz.has{CR:Addr}{r:Addr}{s:WS}(h:WRz Z CR CO H X r s):∀x∈X,∃xs,H x=some (.lst xs):=by
 obtain⟨dx,pl,ph,po,jM,as,CS,rfl,U⟩:=h;intro x hx;simp only[S1,aB,cM]at hx;rcases hx with rfl|rfl|rfl
 .exact⟨_,U.ln⟩
 .exact⟨_,U.hd⟩
 .exact⟨_,U.op⟩
theorem WR.has{CR:Addr}{r:Addr}{s:WS}(h:WR CR CO H X r s):∀x∈X,H x≠none:=λx hx e=>by
 obtain⟨xs,e2⟩:=WRz.has h x hx;grind
theorem BN(T:vA Kq k9 aq):Mo k9 Pq wq bq true T.f9 6 (iP (WR aq.F5 aq.U3) QQ aq.A2):=by
 refine(DM T).imp λvs H Q E h=>?_;obtain⟨r,l,X,s,line,rfl,W,hL,nl,hl,k⟩:=h;refine⟨r,l,X,X,s,line,rfl,W,W.has,hL,nl,hl,?_⟩;cases hs:QQ s line with
 |error e=>
  rw[hs]at k;exact k
 |ok s'=>
  rw[hs]at k;exact λH' f W'=>k H' X f W' λx hx=>.inl hx
theorem lJ(T:vA Kq k9 aq):Mo k9 Pq wq bq true T.j8 3 (jP (WR aq.F5 aq.U3) Yv aq.A2):=by
 refine T.j8.F.kk T.j8.S λH vs Q E h=>?_;obtain⟨r,l,X,⟨h,os,ls⟩,line,rfl,⟨dx,pl,ph,po,jM,as,CS,rfl,U⟩,hL,hl,k⟩:=h;refine⟨rfl,λhr=>?_⟩;refine⟨_,(X0 (c7 (PW.pt (VS (W3 (Oh hr.units) (pv 1) (d6 Z0) (V3 _)) (UM (yG (cD (Ga (pv 0) T.Q4.c T.j6.M (rE T) hr.mo T.j6.b .nil O1.passes)))))) (X0 (pV T O1 hr.mo (XF T.K7))) U4)),?_⟩;have h6:h.length<=6:=U.h6;unfold Yv at k;dsimp only[qK,IR,QV]at k ⊢;refine tV (x:=!decide (line=[])) (y:=!decide (h.length=6)) (λH6=>Same H H6) (λR r'=>?_) (λ_ H6 s6 R r'=>?_) λH6 s6=>?_
 .refine⟨_,rfl,D1 _,λp1 n1=>?_⟩;have s1:Same H (upd H p1 (.lst [])):=(Same.refl _).new n1;refine⟨_,_,yK (SqL.of (s1 _ _ hL)),yK (b:=[]) (SqL.of C0),oA _,oA _,_,rfl,?_⟩;rw[CQ];exact r' _ s1
 .exact⟨_,rfl,r,dx,_,rfl,s6 _ _ U.ob,rfl,r,_,_,_,rfl,⟨dx,pl,ph,po,jM,as,CS,rfl,U.keep s6⟩,_,rfl,r' _ s6⟩
 .by_cases q:h.length<6\/line≠[]
  .rw[J0 q]at k;rw[show(!decide (line=[])||!decide (h.length=6))=true by
    rw[Y3,P3,P3,K5,K5];rcases q with q|q
    .exact .inr (by lia)
    .exact .inl q]
   exact C7 (N4 T (k.same s6))
  .rw[D0 q]at k;rw[show(!decide (line=[])||!decide (h.length=6))=false by
    rw[S4];intro z;rw[Y3,P3,P3,K5,K5]at z;exact q (z.elim .inr λz=>.inl (by lia))]
   exact a8 (k _ s6)
theorem FQ(T:vA Kq k9 aq):Mo k9 Pq wq bq true T.vB 1 (uV aq.SA):=by
 refine T.vB.F.kk T.vB.S λH vs Q E h=>?_;obtain⟨p,dx,l,op,v0,v1,v2,v3,v4,v5,rfl,hp,hl,k⟩:=h;refine⟨rfl,λhr=>?_⟩;have lp:l≠p:=jF hl hp (by intro z;cases z);refine⟨_,(T0 (D6 (pv 0) (P7 B7 (pv 1) O2 (λ_ _=>rfl)) rfl)
  (T0 (D6 (pv 0) (P7 B7 (pv 1) O2 (λ_ _=>rfl)) rfl)
  (T0 (D6 (pv 0) (P7 B7 (pv 1) O2 (λ_ _=>rfl)) rfl)
  (T0 (D6 (pv 0) (P7 B7 (pv 1) O2 (λ_ _=>rfl)) rfl)
  (T0 (D6 (pv 0) (P7 B7 (pv 1) O2 (λ_ _=>rfl)) rfl)
  (T0 (D6 (pv 0) (P7 B7 (pv 1) O2 (λ_ _=>rfl)) rfl)
  (X0 (D6 (pv 0) (pv 2) rfl)))))))),?_⟩
 refine⟨_,rfl,l,_,_,_,rfl,rfl,SqL.of hl,X5 (j:=0) rfl,_,rfl,p,_,dx,_,rfl,hp,T.dA.c,T.Ie,(by show 0<1000;decide),?_⟩;refine⟨_,rfl,l,_,_,_,rfl,rfl,SqL.of (by rw[N0 lp];exact hl),X5 (j:=1) rfl,_,rfl,p,_,dx,_,rfl,C0,T.dA.c,T.WC,(by show 1<1000;decide),?_⟩;rw[Y4];refine⟨_,rfl,l,_,_,_,rfl,rfl,SqL.of (by rw[N0 lp];exact hl),X5 (j:=2) rfl,_,rfl,p,_,dx,_,rfl,C0,T.dA.c,T.fI,(by show 2<1000;decide),?_⟩;rw[Y4];refine⟨_,rfl,l,_,_,_,rfl,rfl,SqL.of (by rw[N0 lp];exact hl),X5 (j:=3) rfl,_,rfl,p,_,dx,_,rfl,C0,T.dA.c,T.kR,(by show 3<1000;decide),?_⟩;rw[Y4];refine⟨_,rfl,l,_,_,_,rfl,rfl,SqL.of (by rw[N0 lp];exact hl),X5 (j:=4) rfl,_,rfl,p,_,dx,_,rfl,C0,T.dA.c,T.WO,(by show 4<1000;decide),?_⟩;rw[Y4];refine⟨_,rfl,l,_,_,_,rfl,rfl,SqL.of (by rw[N0 lp];exact hl),X5 (j:=5) rfl,_,rfl,p,_,dx,_,rfl,C0,T.dA.c,T.iI,(by show 5<1000;decide),?_⟩;rw[Y4];refine⟨_,rfl,_,rfl,p,_,dx,_,rfl,C0,T.dA.c,T.wK,(by show 6<1000;decide),?_⟩;rw[Y4];exact k _ C0 λb hb=>N0 hb
def zdZ(C:Addr)(E:XK)(H:Hp)(X:List Addr)(i k:Nat):Prop:=∀(fr:Bool)(d q:Addr)(H':Hp),(∀b o,H b=some o->b∉X->(∀φ,o≠.ext φ)->H' b=some o)->H' d=some (.xd (wfF q (.int i) (.int k)))->H' q=some (.lst [])->E (C,fr) (some d) H'
def Yx(C:Addr)(E:XK)(H:Hp)(i k:Nat):Prop:=∀(fr:Bool)(d q:Addr)(H':Hp),HX H H'->H' d=some (.xd (wfF q (.int i) (.int k)))->H' q=some (.lst [])->E (C,fr) (some d) H'
inductive QS{S:Type}(K:Frag)(Rd:Hp->List Addr->Addr->S->Prop)(step:S->Bytes->Except Nat S)(fin:S->Bytes->Option Nat)(CF:Addr)(vs:List V)(H:Hp)(Q:VK)(E:XK):Prop
 |mk (l r:Addr) (X:List Addr) (s0:S) (t:Bytes):vs=[.ref l,.ref r]->SqL K H l (iB t)->t.length<=6000->Rd H X r s0->(∀x∈X,H x≠none)->(match JG step fin s0 (fl 10 t)with
 |.error e=>zdZ CF E H X e.1 e.2
 |.ok s=>∀(H':Hp)(X':List Addr),(∀b o,H b=some o->b∉X->H' b=some o)->Rd H' X' r s->(∀x∈X',x∈X\/H x=none)->Q .non H')->QS K Rd step fin CF vs H Q E
theorem AW{X:Cx}{K:Frag}(hK:X.K=K):EM X (.builtin "len") (λxs H Q=>∃p ys,xs=[V.ref p]/\(SqL K H p ys\/eA K H p ys)/\Q (V.int ys.length) H):=by
 subst hK;exact UN
theorem Zx{X:Cx}{K:Frag}(hK:X.K=K):IxR X (zc7 K):=by
 grind [B7]
theorem yZ{X:Cx}{K:Frag}{f:Str}(hK:X.K=K) (he:PE X e ta) (hb:attributeBase e f X.env (eval e X.env)=eval e X.env):PE X (.Attribute e f pos) (KH K ta f):=by
 subst hK;exact U2 he hb
theorem Rows.init:∀{A1:List Addr}{B1:List Bytes}{a1:Addr}{b1:Bytes},A1.length=B1.length->Rows H (A1++[a1]) (B1++[b1])->Rows H A1 B1
 |[],[],_,_,_,_=>.nil
 |[],_::_,_,_,h,_=>by simp at h
 |_::_,[],_,_,h,_=>by simp at h
 |_::_,_::_,_,_,h,.cons f t=>.cons f (Rows.init (by simpa using h) t)
theorem NM{S:Type}{Rd:Hp->List Addr->Addr->S->Prop}{step:S->Bytes->Except Nat S}{fin:S->Bytes->Option Nat}{ft fr:Addr}{dt dr:FuncData}{kt kr:Nat}(T:vA Kq k9 aq) (hC:Lp Kq C)
 (zbH:Mp Kq C "take" ft) (RZ:Mp Kq C "take_rest" fr) (zbI:IB Kq dt ["self","line"] []) (SZ:IB Kq dr ["self","rest"] [])
 (G1:EA Pq wq Kq k9 bq (MR Pq wq) true kt ft dt ["self","line"] (iP Rd step aq.A2)) (G2:EA Pq wq Kq k9 bq (MR Pq wq) true kr fr dr ["self","rest"] (jP Rd fin aq.A2)) (hkt:kt<=12) (hkr:kr<=12)
 (obj:∀H X r s,Rd H X r s->∃dx fs,H r=some (.ins C dx fs)/\fs.lookup ("take": Str)=none/\fs.lookup ("take_rest": Str)=none) (keep:∀H H' X r s,Rd H X r s->Same H H'->Rd H' X r s) :
   EA Pq wq Kq k9 bq (MR Pq wq) true 13 aq.iG aq.jG ["text","reader"] (QS Kq Rd step fin aq.V4):=by
  have zem:EA Pq wq Kq k9 bq (MR Pq wq) true 12 ft dt ["self","line"] (iP Rd step aq.A2):=G1.mono hkt;have Ng:EA Pq wq Kq k9 bq (MR Pq wq) true 12 fr dr ["self","rest"] (jP Rd fin aq.A2):=G2.mono hkr;refine T.p9.F.kk T.p9.S λH vs Q E h=>?_;obtain⟨l,r,X,s0,t,rfl,hS,hl,R0,hX,k⟩:=h;refine⟨rfl,λhr=>?_⟩;obtain⟨wt2,zen⟩:∃wt2:WX,wt2=λσ c dx m=>∃(d:Addr)(i kk:Nat),c=(aq.A2,true)/\dx=some d/\m d=some (.xd [("kind",.int kk)])/\σ.length=6/\σ[3]?=some (some (.int i))/\JG step fin s0 (fl 10 t)=.error (i,kk)/\(∀b o,H b=some o->b∉X->(∀φ,o≠.ext φ)->m b=some o):=⟨_,rfl⟩
  obtain⟨wt1,TZ⟩:∃wt1:WX,wt1=λσ c dx m=>∃(d p:Addr)(xs:List V)(kk:Nat),c=(aq.A2,true)/\dx=some d/\m d=some (.xd [("kind",.int kk)])/\σ.length=6/\σ[2]?=some (some (.ref p))/\m p=some (.lst xs)/\JG step fin s0 (fl 10 t)=.error (xs.length-1,kk)/\1<=xs.length/\(∀b o,H b=some o->b∉X->(∀φ,o≠.ext φ)->m b=some o):=⟨_,rfl⟩
  refine⟨_,(T0 (FC 2 T.p9.S (MC T.uD (rR T) hr (F0 (pv 0) (F0 (XF T.lR) Z0))))
   (T0 (t8 O1.po rfl (YN rfl T.ID (F0 (QN tY (pv 2) ES (FS (rK AG O2))) Z0)) (gL rfl (n9 (wE 3 T.p9.S) (n9 (wE 4 T.p9.S) qH))) (X0 (Xh (Wt:=wt2) rfl rfl (λpn xe tk2=>(X0 (n6 (MD (pv 1) hC zbH zem hr.mo zbI .nil tk2.passes (F0 (pv 4) Z0))))) (Kv (i:=5) O1 rfl rfl T.p9.S.nd rfl rfl rfl T.C9.m (λea pn xe zgO=>(X0 (NT (K:=Kq) rfl zgO rfl (cO (T.B9.k0 T.M6) (IE T) (hr.mark).mo rfl T.B9.m T.M6.b zgO (F0 (pv 3) (F0 (eO (K:=Kq) rfl (pv 5) rfl) Z0))) (pv 5)))) (Wh O1)))))
   (X0 (Xh (Wt:=wt1) rfl rfl (λpn xe tk1=>(X0 (n6 (MD (pv 1) hC RZ Ng hr.mo SZ .nil tk1.passes (F0 (P7 (Zx (K:=Kq) rfl) (pv 2) (rK AG O2) (λ_ _=>rfl)) Z0))))) (Kv (i:=5) O1 rfl rfl T.p9.S.nd rfl rfl rfl T.C9.m (λea pn xe zbJ=>(X0 (NT (K:=Kq) rfl zbJ rfl (cO (T.B9.k0 T.M6) (IE T) (hr.mark).mo rfl T.B9.m T.M6.b zbJ (F0 (X4 EC (NA (AW (K:=Kq) rfl) rfl T.wB Bx (F0 (pv 2) Z0)) O2) (F0 (eO (K:=Kq) rfl (pv 5) rfl) Z0))) (pv 5)))) (Wh O1)))))),?_⟩
  refine⟨_,rfl,l,t,10,rfl,hS,(by lia),λH1 p as s1 np fr hp rows=>?_⟩;have zgP:=OT 10 t;rw[<-zgP]at rows;unfold parts at rows;have tln:=Qx 10 t;generalize hz:fl 10 t=z at *;obtain⟨JE,Y7⟩:=z;dsimp only at rows k TZ zen tln;obtain⟨ri,x,li,y,eas,eli,hx⟩:=Paired.last rows (by simp);obtain⟨e1,e2⟩:=List.append_inj' eli rfl;obtain rfl:Y7=y:=by simpa using e2
  subst e1 eas;have zcD:Rows H1 ri JE:=Rows.init (by have q:=J1 rows;simpa using q) rows;have lri:ri.length=JE.length:=J1 zcD;have R1:=keep _ _ _ _ _ R0 s1;have hX1:∀b,H b=none->b∉X:=λb e m=>hX b m e;refine⟨_,rfl,_,rfl,_,rfl,p,_,rfl,SqL.of hp,λsl nsl=>?_⟩;rw[U0,L3,RD,Sx];have s2:Same H1 (upd H1 sl (.lst (ri.map V.ref))):=(Same.refl _).new nsl;have hsl:upd H1 sl (.lst (ri.map V.ref)) sl=some (.lst (ri.map V.ref)):=C0;have zjs:sl∉X:=hX1 sl (s1.free nsl);generalize upd H1 sl (.lst (ri.map V.ref))=H2 at s2 hsl;have R2:=keep _ _ _ _ _ R1 s2;have npX:p∉X:=hX1 p np;have Vz:∀{H':Hp},(∀b o,H2 b=some o->b∉X->H' b=some o)->∀b o,H b=some o->b∉X->H' b=some o:=λf b o e n=>f b o (s2 b o (s1 b o e)) n;have zgQ:∀q∈ri++[x],q∉X:=λq hq=>hX1 q (fr q hq);have zgR:∀{H6:Hp}{ea d Tb:Addr}{i kk:Nat},H6 ea=some (xO aq.A2 true (some d) (.ref Tb) ea)->(∀b o,H b=some o->b∉X->(∀φ,o≠.ext φ)->iD H6 b=some o)->JG step fin s0 (JE,Y7)=.error (i,kk)->
    ∀xn,H6 xn=none->∀(d' q':Addr)(H7:Hp),upd H6 xn (xO aq.V4 true none .none xn) d'=none->upd H6 xn (xO aq.V4 true none .none xn) q'=none->d'≠xn->H7 d'=some (.xd (wfF q' (.int i) (.int kk)))->H7 q'=some (.lst [])->
     (∀b,b≠xn->b≠d'->b≠q'->H7 b=upd H6 xn (xO aq.V4 true none .none xn) b)->E (aq.V4,false) (some d') (iD H7)/\H7 ea=H6 ea/\ea≠xn:=by
   intro H6 ea d Tb i kk l1 sm er xn hxn d' q' H7 nd nq dxn e2 e3 kp;rw[er]at k;have q1:ea≠xn:=C1 l1 hxn;have off:∀{c:Addr}{o:HO},H6 c=some o->c≠d'/\c≠q':=λ{c}{o} e=>by
    have cx:c≠xn:=C1 e hxn;constructor
    .intro z;rw[<-z,N0 cx,e]at nd;cases nd
    .intro z;rw[<-z,N0 cx,e]at nq;cases nq
   refine⟨k false d' q' _ (λb o e n m=>?_) (ZD e2 λφ q=>nomatch q) (ZD e3 λφ q=>nomatch q),?_,q1⟩
   .have e6:=sG (sm b o e n m);have q1:b≠xn:=C1 e6 hxn;refine ZD ?_ m;rw[kp b q1 (off e6).1 (off e6).2,N0 q1];exact e6
   .rw[kp ea q1 (off l1).1 (off l1).2,N0 q1]
  refine⟨sl,_,rfl,SqL.of hsl,ZL (K:=Kq) (a:=sl) (xs:=ri.map V.ref) (λi σ H'=>E5 λ(v3 v4 v5:Option V)(X':List Addr)(s:S)=>A5 (σ=[some (.ref l),some (.ref r),some (.ref p),v3,v4,v5]) (Rd H' X' r s) (∀x∈X',x∈X\/H2 x=none) (∀b o,H2 b=some o->b∉X->H' b=some o) (PR step (JE.drop i) i s=PR step JE 0 s0))
   ⟨none,none,none,X,s0,rfl,R2,λx hx=>.inl hx,λb o e _=>e,rfl⟩
   (by rintro i σ H' _ ⟨_,_,_,_,_,_,_,_,f,_⟩;exact SqL.of (f _ _ hsl zjs)) ?_ ?_⟩
  .rintro i y σ H' tp hi ⟨v3,v4,v5,X',s,rfl,R3,hX',f,run⟩ ntp;obtain⟨q,hq,rfl⟩:=U8 hi;obtain⟨line,TM,hql⟩:=Paired.get zcD hq;have lll:line.length<=10000:=by
    have m:=(NX 10 t).2 line (by rw[<-zgP];exact B6 _ (M1 TM))
    lia
   have il:i<JE.length:=(P0.mp TM).1;have ed:JE.drop i=line::JE.drop (i+1):=by
    rw[W6 il];congr 1;rw[K0 il]at TM;exact M0 TM
   rw[ed,PR]at run;refine⟨tp,_,rfl,.inl (.inl C0),rfl,_,_,rfl,_,_,rfl,rfl,?_⟩;have zgT:Same H' (upd H' tp (.tup [.int i,.ref q])):=(Same.refl _).new ntp;have R5:=keep _ _ _ _ _ R3 zgT;have f5:∀b o,H2 b=some o->b∉X->upd H' tp (.tup [.int i,.ref q]) b=some o:=λb o e n=>zgT _ _ (f b o e n);have qX:q∉X:=zgQ q (B6 _ (M1 hq));have hq2:=s2 _ _ hql;have Vs:=f5 _ _ hq2 qX;have qX':q∉X':=λm=>(hX' q m).elim qX λe=>by
    rw[hq2]at e;cases e
   have fresh:∀z,upd H' tp (.tup [.int i,.ref q]) z=none->z∈X\/H2 z=none:=λz e=>by
    by_cases m:z∈X
    .exact .inl m
    .refine .inr ?_;cases e2:H2 z with
     |none=>rfl
     |some o=>
      rw[f5 z o e2 m]at e;cases e
   obtain⟨dx,fs,ob,lk,_⟩:=obj _ _ _ _ R5;refine⟨⟨_,rfl,r,dx,fs,rfl,ob,lk,_,rfl,r,q,X',s,line,rfl,R5,Vs,qX',lll,?_⟩,?_⟩
   .cases ht:step s line with
    |error e=>
     rw[ht]at run;intro d H6 sm ek;rw[zen];refine⟨d,i,e,rfl,rfl,ek,rfl,rfl,?_,λb o e n m=>sm b o (Vz f5 b o e n) m⟩;unfold JG;rw[<-run]
    |ok s'=>
     rw[ht]at run;intro H6 X6 f6 R6 hX6;exact⟨_,_,_,X6,s',rfl,R6,λz hz=>(hX6 z hz).elim (hX' z) (fresh z),λb o e n=>f6 b o (f5 b o e n) λm=>(hX' b m).elim n (λz=>by rw[e]at z;cases z),run⟩
   .intro ea C' fr' Rs σ' H6 live wt;rw[zen]at wt;obtain⟨d,i',kk,ec,rfl,ed',ls,Nt,zeq,sm⟩:=wt;obtain⟨rfl,rfl⟩:=WB ec;have ed2:=sG ed';obtain⟨Tb,hT,l1,l2⟩:=live;refine⟨true,T.HE,?_⟩;have g3:(σ'.set 5 (some (.ref ea)))[3]?=some (some (.int i')):=by
     rw[V8 (by decide)];exact Nt
    have g5:(σ'.set 5 (some (.ref ea)))[5]?=some (some (.ref ea)):=Q6 (by lia);refine⟨_,g3,_,g5,ea,_,true,d,.ref Tb,_,_,rfl,l1,ed2,T.C9.D,T.dF,rfl,(by show 2<=1000;decide),λxn hxn=>?_⟩;refine⟨xn,_,_,true,.none,rfl,C0,λd' q' H7 nd nq dxn e1 e2 e3 kp=>?_⟩;obtain⟨w1,w2,w3⟩:=zgR l1 sm zeq xn hxn d' q' H7 nd nq dxn e2 e3 kp;exact⟨rfl,_,g5,xn,_,some d',aq.A2,some d,.ref Tb,rfl,rfl,N2 w3,e1,w2.trans l1,T.B9.E,T.C9.E,w1⟩
  .rintro σ H' ⟨v3,v4,v5,X',s,rfl,R3,hX',f,run⟩;rw[B0,lri,rC,PR]at run;have rd:JG step fin s0 (JE,Y7)=match fin s Y7 with
     |some k=>.error (JE.length,k)
     |none=>.ok s:=by
    unfold JG;rw[<-run]<;>rfl
   have hp':=f _ _ (s2 _ _ hp) npX;have Pt:=f _ _ (s2 _ _ hx) (zgQ x (by simp));have rll:Y7.length<=10000:=by
    lia
   obtain⟨dx,fs,ob,_,lk⟩:=obj _ _ _ _ R3;refine⟨⟨_,rfl,r,dx,fs,rfl,ob,lk,_,rfl,_,rfl,p,_,_,.ref x,rfl,rfl,SqL.of hp',(by rw[U0];exact SN _ _),r,x,X',s,Y7,rfl,R3,Pt,rll,?_⟩,?_⟩
   .cases ht:fin s Y7 with
    |some e=>
     rw[ht]at rd;intro d H6 sm ek;rw[TZ];refine⟨d,p,_,e,rfl,rfl,ek,rfl,rfl,sm _ _ hp' (λφ q=>nomatch q),?_,by simp,λb o e n m=>sm b o (Vz f b o e n) m⟩;rw[rd,B0,T1,lri];rfl
    |none=>
     rw[ht]at rd;rw[rd]at k;intro H6 s6;refine k H6 X' (λb o e n=>s6 b o (Vz f b o e n)) (keep _ _ _ _ _ R3 s6) λz hz=>(hX' z hz).imp_right λe=>s1.free (s2.free e)
   .intro ea C' fr' Rs σ' H6 live wt;rw[TZ]at wt;obtain⟨d,p',xs,kk,ec,rfl,ed',ls,s2',hp6,zeq,x1,sm⟩:=wt;obtain⟨rfl,rfl⟩:=WB ec;have ed2:=sG ed';have hp7:=sG hp6;obtain⟨Tb,hT,l1,l2⟩:=live;refine⟨true,T.HE,?_⟩;have g2:(σ'.set 5 (some (.ref ea)))[2]?=some (some (.ref p')):=by
     rw[V8 (by decide)];exact s2'
    have g5:(σ'.set 5 (some (.ref ea)))[5]?=some (some (.ref ea)):=Q6 (by lia);refine⟨_,g2,p',xs,rfl,.inl (SqL.of hp7),_,_,rfl,rfl,_,g5,ea,_,true,d,.ref Tb,_,_,rfl,l1,ed2,T.C9.D,T.dF,rfl,(by show 2<=1000;decide),λxn hxn=>?_⟩;have ex:V.int ((xs.length-1:Nat):Int)=(λi j=>V.int (i-j)) (xs.length:Int) 1:=V6 V.int (show((xs.length-1:Nat):Int)=(xs.length:Int)-1 by lia);refine⟨xn,.int ((xs.length-1:Nat):Int),_,true,.none,(by rw[ex]),C0,λd' q' H7 nd nq dxn e1 e2 e3 kp=>?_⟩;obtain⟨w1,w2,w3⟩:=zgR l1 sm zeq xn hxn d' q' H7 nd nq dxn e2 e3 kp;exact⟨rfl,_,g5,xn,_,some d',aq.A2,some d,.ref Tb,rfl,rfl,N2 w3,e1,w2.trans l1,T.B9.E,T.C9.E,w1⟩
inductive Ay(K:Frag)(CW CO CF:Addr)(vs:List V)(H:Hp)(Q:VK)(E:XK):Prop
 |mk (l:Addr) (t:Bytes):vs=[.ref l]->SqL K H l (iB t)->t.length<=6000->(match ZF (fl 10 t)with
 |.error e=>Yx CF E H e.1 e.2
 |.ok x=>∀(H':Hp)(p:Addr),Same H H'->Gk CW CO H' p x.1 x.2->Q (.ref p) H')->Ay K CW CO CF vs H Q E
theorem WR.obj{CR:Addr}(H:Hp) (X:List Addr) (r:Addr) (s:WS) (h:WR CR CO H X r s):∃dx fs,H r=some (.ins CR dx fs)/\fs.lookup ("take": Str)=none/\fs.lookup ("take_rest": Str)=none:=by
 obtain⟨dx,pl,ph,po,jM,as,CS,rfl,U⟩:=h;exact⟨dx,_,U.ob,rfl,rfl⟩
theorem WR.keep{CR:Addr}(H H':Hp) (X:List Addr) (r:Addr) (s:WS) (h:WR CR CO H X r s) (k:Same H H'):WR CR CO H' X r s:=by
 obtain⟨dx,pl,ph,po,jM,as,CS,rfl,U⟩:=h;exact⟨dx,pl,ph,po,jM,as,CS,rfl,U.keep k⟩
theorem zZ(T:vA Kq k9 aq):Fo Pq wq bq true T.vF 14 (Ay Kq aq.SA aq.U3 aq.V4):=by
 have iK:EA Pq wq Kq k9 bq (MR Pq wq) true 13 aq.iG aq.jG ["text","reader"] (QS Kq (WR aq.F5 aq.U3) QQ Yv aq.V4):=
  NM T T.Q4.c T.f9.M T.j8.M T.f9.b T.j8.b (BN T) (lJ T) (by decide) (by decide) WR.obj WR.keep
 refine T.vF.F.kk T.vF.S λH vs Q E h=>?_;obtain⟨l,t,rfl,hS,hl,k⟩:=h;refine⟨rfl,λhr=>?_⟩;refine⟨_,(T0 (FC 1 T.vF.S (Ia (T.Q4.k0 T.J8) (gK T) hr.mo rfl T.Q4.m T.J8.b .nil O1.passes))
  (T0 (n6 (MC T.p9 iK hr (F0 (pv 0) (F0 (pv 1) Z0))))
  (X0 (Q3 (kM (T.dA.k0 T.vB) (FQ T) hr.mo rfl T.dA.m T.vB.b .nil O1.passes (F0 (U2 (pv 1) rfl) (F0 (U2 (pv 1) rfl) Z0))))))),?_⟩
 refine λr dx nr Uz ndr=>⟨r,dx,rfl,C0,λH1 X f1 W0 fr=>⟨rfl,?_⟩⟩
 have s1:Same H H1:=λb o e=>f1 b o (by rw[N0 (C1 e nr),N0 (C1 e Uz)];exact e) (C1 e nr);have nX:∀x∈X,H x=none:=λx hx=>by
  have e:=fr x hx;by_cases q:x=r
  .grind
  .rw[N0 q]at e;by_cases q2:x=dx
   .grind
   .rw[N0 q2]at e;exact e
 have Wz:∀{b:Addr}{o:HO},H b=some o->b∉X:=λe m=>by
  grind
 refine⟨_,rfl,_,rfl,l,r,X,_,t,rfl,s1.seq hS,hl,W0,W0.has,?_⟩;rw[zaR];cases hb:ZF (fl 10 t)with
 |error e=>
  rw[hb]at k;exact λfr d q H' m e1 e2=>k fr d q H' (λb o e n=>m b o (s1 b o e) (Wz e) n) e1 e2
 |ok x=>
  rw[hb]at k;intro H2 X2 f2 W2 hX2;have s2:Same H H2:=λb o e=>f2 b o (s1 b o e) (Wz e);obtain⟨Yk,pl,ph,po,jM,as,CS,rfl,U⟩:=W2;have e6:x.1.length=6:=by
   have z:x.1.length<=6:=U.h6;unfold ZF at hb;cases hr:NI (fl 10 t).1 0 [] []with
   |error k=>grind
   |ok y=>
    rw[hr]at hb;dsimp only at hb;by_cases q:y.1.length<6\/(fl 10 t).2≠[]
    .grind
    .rw[D0 q]at hb;obtain rfl:=Z2 hb
     lia
  have zjv:jM.length=x.1.length:=J1 U.hv;obtain⟨v0,v1,v2,v3,v4,v5,rfl⟩:∃v0 v1 v2 v3 v4 v5,jM=[v0,v1,v2,v3,v4,v5]:=by
   exact ln6 (P:=λl=>∃v0 v1 v2 v3 v4 v5,l=[v0,v1,v2,v3,v4,v5]) (λ_ _ _ _ _ _=>⟨_,_,_,_,_,_,rfl⟩) jM (zjv.trans e6)
  refine⟨_,rfl,r,_,Yk,_,_,rfl,U.ob,T.Q4.c,T.k8,rfl,_,rfl,r,_,Yk,_,_,rfl,U.ob,T.Q4.c,T.aA,rfl,λxw dw nx ndw dxx=>⟨xw,dw,ph,po,v0,v1,v2,v3,v4,v5,rfl,C0,?_,λH7 e7 kp=>⟨rfl,?_⟩⟩⟩
  .rw[N0 (C1 U.hd nx),N0 (C1 U.hd ndw)];exact U.hd
  have s7:Same H2 H7:=λb o e=>by
   have q1:b≠xw:=C1 e nx;have q2:b≠dw:=C1 e ndw;rw[kp b q1,N0 q1,N0 q2];exact e
  have U7:=U.keep s7;exact k H7 xw (s2.trans s7) ⟨dw,po,v0,v1,v2,v3,v4,v5,as,e7,U7.hv,U7.op,U7.os⟩
structure UX(K:Frag)(CR C:Addr):Prop where
 x:exmOne K (.ref C) (.ref CR)=some true
 D:FY K C
 nn:M3 K C "number"
 nt:M3 K C "told"
def sR(K:Frag)(CR:Addr)(N:Nat)(due:List Int):WX:=λσ c dx m=>σ.length=N/\∃(d q:Addr)(F:List (Str×V))(n:Int)(ns:List Int),dx=some d/\UX K CR c.1/\m d=some (.xd F)/\F.lookup ("number": Str)=some (.int n)/\F.lookup ("told": Str)=some (.ref q)/\m q=some (.lst (ns.map V.int))/\ns.length<=1000/\due=n::(ns.length:Int)::(ns++[0])
theorem sR.none{K:Frag}{CR:Addr}{N:Nat}{m:Hp}{n:Int}(hσ:σ.length=N) (ro:UX K CR C) (e:m d=some (.xd (rfF n q))) (e2:m q=some (.lst [])) (h:due=[n,0,0]):sR K CR N due σ (C,fr) (some d) m:=
 ⟨hσ,d,q,_,n,[],rfl,ro,e,rfl,rfl,e2,by decide,h⟩
theorem sR.text{K:Frag}{CR:Addr}{N:Nat}{m:Hp}{i k:V}(hσ:σ.length=N) (ro:UX K CR C) (e:m d=some (.xd (wfF q i k))) (e2:m q=some (.lst [])) (h:due=[-6,0,0]):sR K CR N due σ (C,fr) (some d) m:=
 ⟨hσ,d,q,_,-6,[],rfl,ro,e,rfl,rfl,e2,by decide,h⟩
def long(b:Bytes):Bool:=decide (4096<b.length)
inductive Ze(K:Frag)(CT:Addr)(vs:List V)(H:Hp)(Q:VK)(E:XK):Prop
 |mk (l:Addr) (as:List Addr) (bs:List Bytes):vs=[.ref l]->H l=some (.lst (as.map V.ref))->Paired (λx b=>SqL K H x (iB b)) as bs->(if bs.any long=true then Ox CT (-1) E H else Q .non H)->Ze K CT vs H Q E
theorem vV(T:vA Kq k9 aq):Fo Pq wq bq true T.UC 4 (Ze Kq aq.vC):=by
 refine T.UC.F.kk T.UC.S λH vs Q E h=>?_;obtain⟨l,as,bs,rfl,hl,pr,k⟩:=h;refine⟨rfl,λhr=>?_⟩;refine⟨_,(X0 (t8 O1.po rfl (W7 (pv 0)) (wE 1 T.UC.S) (X0 (c7 (W3 MQ (NS T.wB (pv 1)) (XF T.rZ) (V3 _)) (X0 (zT O1 rfl (Lq (T.dJ.k0 T.T9) (AM T) hr.mo rfl T.dJ.m T.T9.b O1))) U4)))),?_⟩;have lab:as.length=bs.length:=J1 pr;refine⟨_,rfl,l,rfl,⟨_,SqL.of hl⟩,LA (K:=Kq) (a:=l) (xs:=as.map V.ref) (λi σ H'=>∃(v:Option V),A3 (σ=[some (.ref l),v]) (H'=H) ((bs.take i).any long=false))
  ⟨none,rfl,rfl,rfl⟩ (by rintro i σ H' _ ⟨_,_,e,_⟩;exact by rw[e];exact SqL.of hl) ?_ ?_⟩
 .rintro i y σ H' hi ⟨v,rfl,rfl,no⟩;obtain⟨q,hq,rfl⟩:=U8 hi;obtain⟨b,hb,sq⟩:=Paired.get pr hq;refine⟨_,rfl,q,_,rfl,.inl sq,_,_,rfl,rfl,_,rfl,?_⟩;rw[FB];by_cases z:4096<b.length
  .rw[F1 (show(4096:Int)<(b.length:Int) by lia)];rw[J0 (RE.mpr ⟨b,M1 hb,F1 z⟩)]at k;exact C7 (Dk T.dJ.E k)
  .rw[Y0 (show ¬(4096:Int)<(b.length:Int) by lia)];refine a8 ⟨_,rfl,rfl,?_⟩;rw[T3 hb,List.any_append,no];show(decide (4096<b.length)||false)=false;rw[Y0 z];rfl
 .rintro σ H' ⟨v,rfl,rfl,no⟩;rw[B0,lab,Y1]at no;rw[D0 (by rw[no];decide)]at k;exact k
theorem wV{i k:Int}(ha:i5 ta σ H (.int i)) (hb:i5 tb σ H (.int j)) (hc:i5 tc σ H (.int k)) :
  i5 (HP (OV λi j=>.bl (decide (i<=j))) (OV λi j=>.bl (decide (i<j))) ta tb tc) σ H (.bl (decide (i<=j)&&decide (j<k))):=λR h=>by
 refine ha _ (hb _ ⟨_,_,rfl,rfl,_,rfl,?_⟩);by_cases q:i<=j
 .rw[F1 q]at h ⊢;exact C7 (hc _ ⟨_,_,rfl,rfl,by simpa using h⟩)
 .rw[Y0 q]at h ⊢;exact a8 (by simpa using h)
def Hs(h:List HV):Prop:=∀(n:Nat)(x:HV),h[n]?=some x->∃line,YF n line=.ok x
theorem Is{o o':List Opening}(g:Hs h) (e:zH h o line=.ok (h',o')):Hs h':=by
 unfold zH at e;by_cases q:h.length<6
 .rw[J0 q]at e;cases hb:YF h.length line with
  |error k=>grind
  |ok v=>
   rw[hb]at e;obtain⟨rfl,rfl⟩:=WB (Z2 e);intro n x hx;by_cases hn:n<h.length
   .rw[w8 hn]at hx;exact g n x hx
   .have z:=(P0.mp hx).1;simp at z;obtain rfl:n=h.length:=by lia
    rw[G6 (j1 _),nO]at hx;obtain rfl:v=x:=M0 hx;exact⟨line,hb⟩
 .rw[D0 q]at e;cases hb:IM line (SC h 1) (SC h 2) o with
  |error k=>grind
  |ok v=>
   grind
theorem Af:∀{JE:List Bytes}{i:Nat}{h:List HV}{o:List Opening}{x:List HV×List Opening},NI JE i h o=.ok x->Hs h->Hs x.1
 |[],i,h,o,x,e,g=>by
  obtain rfl:=Z2 e;exact g
 |l::r,i,h,o,x,e,g=>by
  rw[NI]at e;cases ht:zH h o l with
  |error k=>grind
  |ok z=>
   rw[ht]at e;exact Af (x:=x) e (Is (h':=z.1) (o':=z.2) g ht)
theorem Js{z:List Bytes×Bytes}{x:List HV×List Opening}(e:ZF z=.ok x):Hs x.1:=by
 unfold ZF at e;cases hr:NI z.1 0 [] []with
 |error k=>grind
 |ok y=>
  rw[hr]at e;dsimp only at e;by_cases q:y.1.length<6\/z.2≠[]
  .grind
  .rw[D0 q]at e;obtain rfl:=Z2 e;exact Af hr λn x h=>by simp at h
theorem dM{x:HV}(h0:n≠0) (e:YF n line=.ok x):∃m,x=.num m/\(n=1->m<=32)/\(n=2->m<=8):=by
 unfold YF at e;generalize K4 (ascii (GY n)) line=r at e
 match r,e with
 |none,e=>cases e
 |some [],e=>cases e
 |some (_::_::_),e=>cases e
 |some [z],e=>
  dsimp only at e;unfold EF at e;rw[D0 h0]at e;have sz:∀{most b:Nat},EE z most=.ok b->b<=most:=λ{most b} q=>by
   unfold EE at q;cases hn:readNumber z with
   |none=>grind
   |some k=>
    rw[hn]at q;dsimp only at q;by_cases w:k<1\/most<k
    .grind
    .rw[D0 w]at q;grind
  by_cases h1:n=1
  .rw[J0 h1]at e;cases q:EE z 32 with
   |error k=>rw[q]at e;cases e
   |ok b=>rw[q]at e;exact⟨b,(Z2 e).symm,λ_=>sz q,λw=>by lia⟩
  .rw[D0 h1]at e;by_cases h2:n=2
   .rw[J0 h2]at e;cases q:EE z 8 with
    |error k=>rw[q]at e;cases e
    |ok b=>rw[q]at e;exact⟨b,(Z2 e).symm,λw=>by lia,λ_=>sz q⟩
   .rw[D0 h2]at e;cases q:xL z with
    |none=>grind
    |some b=>rw[q]at e;exact⟨b,(Z2 e).symm,λw=>by lia,λw=>by lia⟩
structure NF(CW CO:Addr)(H:Hp)(p:Addr)(dx op:Addr)(v0:V)(as:List Addr)(w:Wall):Prop where
 at_:H p=some (.ins CW dx (wlF v0 (.int w.long) (.int w.high) (.int w.left) (.int w.right) (.int w.reveal) (.ref op)))
 op:H op=some (.lst (as.map V.ref))
 os:Ft CO H as w.opens
 l32:w.long<=32
 h8:w.high<=8
 o8:w.opens.length<=1000
theorem NF.same{op:Addr}{v0:V}(s:Same H H') (W:NF CW CO H p dx op v0 as w):NF CW CO H' p dx op v0 as w:=⟨s _ _ W.at_,s _ _ W.op,Ft.same s W.os,W.l32,W.h8,W.o8⟩
theorem Gk.is(W:Gk CW CO H p h os)(g:Hs h)(o8:os.length<=1000):∃dx op v0 as,NF CW CO H p dx op v0 as (ED h os):=by
 obtain⟨dx,op,v0,v1,v2,v3,v4,v5,as,e,hv,ho,hos⟩:=W;cases hv with
 |cons a0 t0=>cases t0 with
  |cons a1 t1=>cases t1 with
   |cons a2 t2=>cases t2 with
    |cons a3 t3=>cases t3 with
     |cons a4 t4=>cases t4 with
      |cons a5 t5=>
       obtain⟨l1,e1⟩:=g 1 _ rfl;obtain⟨m1,rfl,b1,_⟩:=dM (by decide) e1;obtain⟨l2,e2⟩:=g 2 _ rfl;obtain⟨m2,rfl,_,b2⟩:=dM (by decide) e2;obtain⟨l3,e3⟩:=g 3 _ rfl;obtain⟨m3,rfl,_,_⟩:=dM (by decide) e3;obtain⟨l4,e4⟩:=g 4 _ rfl;obtain⟨m4,rfl,_,_⟩:=dM (by decide) e4;obtain⟨l5,e5⟩:=g 5 _ rfl;obtain⟨m5,rfl,_,_⟩:=dM (by decide) e5;obtain rfl:v1=.int m1:=a1;obtain rfl:v2=.int m2:=a2;obtain rfl:v3=.int m3:=a3;obtain rfl:v4=.int m4:=a4;obtain rfl:v5=.int m5:=a5;exact⟨dx,op,v0,as,e,ho,hos,b1 rfl,b2 rfl,o8⟩
inductive Bf(C:Addr)(vs:List V)(H:Hp)(Q:VK)(E':XK):Prop
 |mk (p:Addr) (o:Opening) (x y:Nat):vs=[.ref p,.int x,.int y]->eP C H p o->Q (.bl (o.has x y)) H->Bf C vs H Q E'
inductive Cf(CW CO:Addr)(vs:List V)(H:Hp)(Q:VK)(E':XK):Prop
 |mk (p dx op:Addr) (v0:V) (as:List Addr) (w:Wall) (x y:Nat):vs=[.ref p,.int x,.int y]->NF CW CO H p dx op v0 as w->(∀H':Hp,Same H H'->Q (.bl (w.isOpen x y)) H')->Cf CW CO vs H Q E'
inductive tR(CW CO:Addr)(vs:List V)(H:Hp)(Q:VK)(E':XK):Prop
 |mk (p dx op:Addr) (v0:V) (as:List Addr) (w:Wall) (y:Nat):vs=[.ref p,.int y]->NF CW CO H p dx op v0 as w->(∀(H':Hp)(q:Addr)(ts:List Addr),Same H H'->H q=none->H' q=some (.lst (ts.map V.ref))->NB H' ts ((w.stretches y).map pI)->Q (.ref q) H')->tR CW CO vs H Q E'
theorem NB.same{l:List (List Int)}(s:Same H H') (r:NB H as l):NB H' as l:=Paired.mapP r λ_ _ h=>s _ _ h
theorem NB.upd{H:Hp}{z:Addr}{xs ys:List V}{as:List Addr}{l:List (List Int)}(r:NB H as l) (h:H z=some (.lst xs)):NB (upd H z (.lst ys)) as l:=Paired.mapP r λa ms e=>by
 rw[N0 (jF e h (by intro q;cases q))];exact e
theorem kP(T:vA Kq k9 aq):Mo k9 Pq wq bq true T.YA 1 (Bf aq.U3):=by
 refine T.YA.F.kk T.YA.S λH vs Q E h=>?_;obtain⟨p,o,x,y,rfl,⟨dx,hp⟩,k⟩:=h;refine⟨rfl,λhr=>?_⟩;refine⟨_,(X0 (Q3 (DP (uI NC Ml (U2 (pv 0) rfl) (pv 1) (X4 AB (U2 (pv 0) rfl) (U2 (pv 0) rfl))) (fL (uI NC Ml (U2 (pv 0) rfl) (pv 2) (X4 AB (U2 (pv 0) rfl) (U2 (pv 0) rfl))))))),?_⟩;have fld:∀(σ:L2.St) ,σ=[some (.ref p),some (.int x),some (.int y)]->i5 (KH Kq (aG 0) "x") σ H (.int o.x)/\i5 (KH Kq (aG 0) "y") σ H (.int o.y)/\i5 (KH Kq (aG 0) "wide") σ H (.int o.w)/\i5 (KH Kq (aG 0) "high") σ H (.int o.h):=by
  rintro σ rfl;exact⟨GB rfl hp T.o4.c T.eC rfl,GB rfl hp T.o4.c T.fC rfl,GB rfl hp T.o4.c T.dC rfl,GB rfl hp T.o4.c T.cC rfl⟩
 obtain⟨f1,f2,f3,f4⟩:=fld [some (.ref p),some (.int x),some (.int y)] rfl;refine fP (wV f1 (DQ rfl) (eK f1 f3)) (wV f2 (DQ rfl) (eK f2 f4)) _ ?_;have e:((decide ((o.x:Int)<=(x:Int))&&decide ((x:Int)<(o.x:Int)+(o.w:Int)))&&(decide ((o.y:Int)<=(y:Int))&&decide ((y:Int)<(o.y:Int)+(o.h:Int))))=o.has x y:=by
  unfold Opening.has;rw[d3];simp only[E1,O0]
  lia
 rw[e];exact k
theorem zK(T:vA Kq k9 aq):Mo k9 Pq wq bq true T.i8 2 (Cf aq.SA aq.U3):=by
 refine T.i8.F.kk T.i8.S λH vs Q E h=>?_;obtain⟨p,dx,op,v0,as,wl,x,y,rfl,W,k⟩:=h;refine⟨rfl,λhr=>?_⟩;have zl:=BM;refine⟨_,(X0 (Q3 (NA (Tu rfl) rfl T.zb7 Ax (F0 (GC O1 rfl rfl (own:=[("opening",3)]) rfl T.i8.S.nd (W7 (U2 (pv 0) rfl)) (bW ["self","place","course","opening"] (X3 PL) [("opening",3)]) (λtk=>(wE 3 T.i8.S)) (λtk=>Y9) (λtk=>(MD (pv 3) T.o4.c T.YA.M (kP T) hr.mo T.YA.b .nil tk.passes (F0 (pv 1) (F0 (pv 2) Z0))))) Z0)))),?_⟩;refine⟨_,rfl,p,_,dx,_,_,rfl,W.at_,T.dA.c,T.wK,rfl,op,rfl,⟨_,SqL.of W.op⟩,λD2 hD2=>?_⟩;have s6:∀ys,Same H (upd H D2 (.lst ys)):=λys=>(Same.refl _).new hD2;refine dG (K:=Kq) (a:=op) (xs:=as.map V.ref) (λi H'=>H'=upd H D2 (.lst ((wl.opens.take i).map λu=>V.bl (u.has x y)))) rfl (λi H' _ e=>by rw[e];exact SqL.of (s6 _ _ _ W.op)) ?_ ?_
 .rintro i v H' hi rfl;obtain⟨f,hfi,rfl⟩:=U8 hi;obtain⟨u,hu,df,hf⟩:=Paired.get W.os hfi;have hf':=s6 ((wl.opens.take i).map λu=>V.bl (u.has x y)) _ _ hf;refine⟨rfl,_,rfl,f,df,_,rfl,hf',rfl,_,rfl,_,rfl,f,u,x,y,rfl,⟨df,hf'⟩,?_⟩;have lo:=W.o8;refine⟨_,C0,(by rw[B0,Z1];lia),?_⟩;rw[Y4,T3 hu,U0];rfl
 .rintro H6 rfl;rw[B0,J1 W.os,Y1];refine⟨D2,wl.opens.map λu=>u.has x y,rfl,SqL.of (by rw[C0,B3];rfl),?_⟩;rw[<-Gi];exact k _ (s6 _)
theorem sS(T:vA Kq k9 aq):Fo Pq wq bq true T.Y8 3 (tR aq.SA aq.U3):=by
 refine T.Y8.F.kk T.Y8.S λH vs Q E h=>?_;obtain⟨p,dx,op,v0,as,wl,y,rfl,W,k⟩:=h;refine⟨rfl,λhr=>?_⟩;have zl:=BM;have l32:=W.l32;refine⟨_,(T0 (FC 2 T.Y8.S (d6 Z0))
  (T0 (FC 3 T.Y8.S O2)
  (T0 (t8 O1.po rfl (sI rfl T.lG (F0 (X4 AB (U2 (pv 0) rfl) O2) Z0)) (wE 4 T.Y8.S) (X0 (c7 (PW.pt (VS (W3 AC (pv 4) (U2 (pv 0) rfl) (V3 _)) (UM (cD (MD (pv 0) T.dA.c T.i8.M (zK T) hr.mo T.i8.b .nil O1.passes (F0 (pv 4) (F0 (pv 1) Z0))))))) (T0 (c7 (W3 MQ (pv 4) (pv 3) (V3 _)) (X0 (n6 (BD j2 j3 o3 K9 (pv 2) (F0 (LD (F0 (pv 3) (F0 (X4 EC (pv 4) (pv 3)) Z0))) Z0)))) U4)
  (X0 (FC 3 T.Y8.S (X4 AB (pv 4) O2)))) U4)))
  (X0 (Q3 (pv 2)))))),?_⟩
 refine⟨D1 _,λq nq=>?_⟩;have s1:Same H (upd H q (.lst [])):=(Same.refl _).new nq;have BK:upd H q (.lst []) q=some (.lst []):=C0;generalize upd H q (.lst [])=H1 at s1 BK;have W1:=W.same s1;refine⟨_,rfl,p,_,dx,_,_,rfl,W1.at_,T.dA.c,T.WC,rfl,_,_,rfl,rfl,_,rfl,by lia,by lia,?_⟩;have en:((wl.long:Int)+1).toNat=wl.long+1:=by lia
 rw[en];refine tI (lo:=0) (n:=wl.long+1) (λi σ H'=>E4 λ(v:Option V)(f:Nat)(ts:List Addr)(acc:List (Nat×Nat))=>A7 (σ=[some (.ref p),some (.int y),some (.ref q),some (.int f),v]) (Same H H') (H' q=some (.lst (ts.map V.ref))) (NB H' ts (acc.map pI)) (f<=i) (acc.length<=i) (if i<=wl.long then acc++stretchesFrom wl y (wl.long-i) i (Ct f i)=wl.stretches y else acc=wl.stretches y))
  ⟨none,0,[],[],rfl,s1,BK,.nil,j1 _,j1 _,by rw[J0 (D1 _)];rfl⟩ ?_ ?_
 .rintro i σ H' hi ⟨v,f,ts,acc,rfl,s2,hq2,tt,fi,al,inv⟩;rw[J0 (by lia)]at inv;have W2:=W.same s2;have lts:=J1 tt;rw[B0]at lts;dsimp only[pH];have ei:(0:Int)+(i:Int)=(i:Int):=lP _;rw[ei];dsimp only[qK,IR,QV];refine tV (x:=decide (i=wl.long)) (y:=wl.isOpen i y) (λH5=>Same H' H5) (λR r=>?_) (λ_ H5 s5 R r=>?_) λH5 s5=>?_
  .refine⟨_,rfl,_,rfl,p,_,dx,_,_,rfl,W2.at_,T.dA.c,T.WC,rfl,rfl,_,rfl,?_⟩;have e:decide (V.int i=V.int wl.long)=decide (i=wl.long):=S3.mpr ⟨λz=>by have:=V.int.inj z;lia,λz=>by rw[z]⟩;rw[e];exact r _ (Same.refl _)
  .have W5:=W2.same s5;exact⟨_,rfl,p,dx,_,rfl,W5.at_,rfl,_,rfl,_,rfl,p,dx,op,v0,as,wl,i,y,rfl,W5,λH6 s6=>⟨_,rfl,r _ (s5.trans s6)⟩⟩
  .have s25:=s2.trans s5;have Vs:=s5 _ _ hq2;have t5:=NB.same s5 tt;by_cases c:i=wl.long\/wl.isOpen i y=true
   .rw[show(decide (i=wl.long)||wl.isOpen i y)=true by rw[Y3,O0];exact c];refine C7 ?_;have DS:acc++(if f<i then[(f,i-f)]else[])++(if i+1<=wl.long then stretchesFrom wl y (wl.long-(i+1)) (i+1) (Ct (i+1) (i+1))else[])=wl.stretches y:=by
     by_cases hl:i<wl.long
     .have ho:wl.isOpen i y=true:=by
       rcases c with z|z
       .lia
       .exact z
      rw[show wl.long-i=(wl.long-(i+1))+1 by lia,cU ho]at inv;rw[J0 (show i+1<=wl.long by lia),b9];exact inv
     .rw[D0 (show ¬i+1<=wl.long by lia),D3];rw[show wl.long-i=0 by lia,JY]at inv;exact inv
    refine⟨_,rfl,_,rfl,_,_,rfl,rfl,_,rfl,?_⟩;by_cases hf:f<i
    .rw[F1 (show(f:Int)<(i:Int) by lia)];rw[J0 hf]at DS;refine C7 ⟨_,rfl,.inl ⟨rfl,_,SqL.of Vs⟩,_,rfl,_,rfl,_,rfl,_,_,rfl,rfl,(by show 2<=sizeLine;decide),λt nt=>?_⟩;refine⟨q,_,_,rfl,rfl,(by rw[N0 (C1 Vs nt)];exact Vs),(by rw[B0];lia),?_⟩;refine⟨_,rfl,_,_,rfl,rfl,?_⟩;have eif:(i:Int)-(f:Int)=((i-f:Nat):Int):=by lia
     refine⟨some (.int i),i+1,ts++[t],acc++[(f,i-f)],?_,(s25.new nt).set nq,?_,?_,j1 _,by simp;lia,?_⟩
     .show[some (V.ref p),some (V.int y),some (V.ref q),some (V.int ((i:Int)+1)),some (V.int i)]=_;rw[show(i:Int)+1=((i+1:Nat):Int) by lia]
     .rw[C0,U0 (f:=V.ref)];rfl
     .rw[U0 (f:=pI)];have t6:NB (upd H5 t (.tup [.int f,.int ((i:Int)-(f:Int))])) ts (acc.map pI):=NB.same ((Same.refl _).new nt) t5;have hq6:upd H5 t (.tup [.int f,.int ((i:Int)-(f:Int))]) q=some (.lst (ts.map V.ref)):=by rw[N0 (C1 Vs nt)];exact Vs
      refine B4 (NB.upd t6 hq6) ?_;rw[N0 (N2 (C1 Vs nt)),C0];show some (HO.tup [V.int f,V.int ((i:Int)-(f:Int))])=_;rw[eif];rfl
     .by_cases hl:i+1<=wl.long
      .rw[J0 hl]at DS ⊢;exact DS
      .rw[D0 hl]at DS ⊢;rw[D3]at DS;exact DS
    .rw[Y0 (show ¬(f:Int)<(i:Int) by lia)];rw[D0 hf,D3]at DS;refine a8 ⟨_,rfl,_,_,rfl,rfl,?_⟩;refine⟨some (.int i),i+1,ts,acc,?_,s25,Vs,t5,j1 _,by lia,?_⟩
     .show[some (V.ref p),some (V.int y),some (V.ref q),some (V.int ((i:Int)+1)),some (V.int i)]=_;rw[show(i:Int)+1=((i+1:Nat):Int) by lia]
     .by_cases hl:i+1<=wl.long
      .rw[J0 hl]at DS ⊢;exact DS
      .rw[D0 hl]at DS ⊢;rw[D3]at DS;exact DS
   .rw[show(decide (i=wl.long)||wl.isOpen i y)=false by
     rw[S4];intro z;rw[Y3,O0]at z;exact c z]
    have ho:wl.isOpen i y=false:=by
     cases z:wl.isOpen i y with
     |false=>rfl
     |true=>exact absurd (.inr z) c
    refine a8 ⟨some (.int i),f,ts,acc,rfl,s25,Vs,t5,by lia,by lia,?_⟩;have hl:i+1<=wl.long:=by
     have:i≠wl.long:=λz=>c (.inl z)
     lia
    rw[J0 hl];rw[show wl.long-i=(wl.long-(i+1))+1 by lia,dU fi ho]at inv;exact inv
 .rintro σ H' ⟨v,f,ts,acc,rfl,s2,hq2,tt,fi,al,inv⟩;rw[D0 (by lia)]at inv;rw[inv]at tt;exact⟨_,rfl,k H' q ts s2 nq hq2 tt⟩
def L7(H:Hp):List Addr->List (List (Nat×Nat))->Prop:=Paired λr l=>∃ts:List Addr,H r=some (.lst (ts.map V.ref))/\NB H ts (l.map pI)
theorem L7.same{rs:List Addr}{l:List (List (Nat×Nat))}(s:Same H H') (r:L7 H rs l):L7 H' rs l:=Paired.mapP r λ_ _ ⟨ts,h,t⟩=>⟨ts,s _ _ h,NB.same s t⟩
theorem L7.drop:∀{rs:List Addr}{l:List (List (Nat×Nat))}(n:Nat),L7 H rs l->L7 H (rs.drop n) (l.drop n)
 |_,_,0,r=>r
 |_,_,_+1,.nil=>.nil
 |_,_,n+1,.cons _ t=>L7.drop n t
theorem L7.upd{H:Hp}{z:Addr}{xs ys:List V}(hz:H z=some (.lst xs)):∀{rs:List Addr}{l:List (List (Nat×Nat))},L7 H rs l->z∉rs->L7 (upd H z (.lst ys)) rs l
 |_,_,.nil,_=>.nil
 |_,_,.cons ⟨ts,h1,h2⟩ t,n=>.cons ⟨ts,by rw[N0 (λq=>n (by simp[q]))];exact h1,NB.upd h2 hz⟩ (L7.upd hz t λq=>n (by simp[q]))
inductive VX(K:Frag)(vs:List V)(H:Hp)(Q:VK)(E':XK):Prop
 |mk (s r:Addr) (st:Nat×Nat) (rs:List Addr) (l:List (List (Nat×Nat))):vs=[.ref s,.ref r]->H s=some (.tup ((pI st).map V.int))->H r=some (.lst (rs.map V.ref))->L7 H rs l->Q (.int (((l.takeWhile λx=>x.contains st).length:Nat):Int)) H->VX K vs H Q E'
def pnF(p:Part):List (Str×V):=[("place",.int p.x),("course",.int p.y),("length",.int p.long),("courses",.int p.high)]
def Hk(C:Addr)(H:Hp)(q:Addr)(p:Part):Prop:=∃dx,H q=some (.ins C dx (pnF p))
theorem Hk.same{p:Part}(s:Same H H') (h:Hk C H q p):Hk C H' q p:=let ⟨dx,e⟩:=h;⟨dx,s _ _ e⟩
abbrev Tn(C:Addr)(H:Hp):List Addr->List Part->Prop:=Paired (Hk C H)
theorem Tn.same{l:List Part}(s:Same H H') (r:Tn C H as l):Tn C H' as l:=Paired.mapP r λ_ _ h=>h.same s
theorem Tn.upd{z:Addr}(hz:H z=some (.lst xs)) {l:List Part}(r:Tn C H as l):Tn C (L2.upd H z (.lst ys)) as l:=
 Paired.mapP r λq o ⟨dq,e⟩=>⟨dq,by rw[N0 (jF e hz (by intro z;cases z))];exact e⟩
inductive XX(C:Addr)(vs:List V)(H:Hp)(Q:VK)(E':XK):Prop
 |mk (p dx:Addr) (v0 v1 v2 v3:V):vs=[.ref p,v0,v1,v2,v3]->H p=some (.ins C dx [])->(∀H':Hp,H' p=some (.ins C dx [("place",v0),("course",v1),("length",v2),("courses",v3)])->(∀b,b≠p->H' b=H b)->Q .non H')->XX C vs H Q E'
inductive Df(CP CW CO:Addr)(vs:List V)(H:Hp)(Q:VK)(E':XK):Prop
 |mk (p dx op:Addr) (v0:V) (as:List Addr) (w:Wall):vs=[.ref p]->NF CW CO H p dx op v0 as w->(∀(H':Hp)(q:Addr)(ts:List Addr),Same H H'->H q=none->H' q=some (.lst (ts.map V.ref))->Tn CP H' ts w.parts->Q (.ref q) H')->Df CP CW CO vs H Q E'
theorem By{l:List V}(h:n<=l.length):vM l (some (n:Int)) none=l.drop n:=by
 unfold vM;have e:HT.sIx l.length 0 (some (n:Int))=n:=by
  show(if (n:Int)<0 then((n:Int)+(l.length:Int)).toNat else min (n:Int).toNat l.length)=n;rw[D0 (by lia)];simp
  lia
 rw[e];show(l.drop n).take (l.length-n)=_;rw[show l.length-n=(l.drop n).length by rw[pC],Y1]
theorem tS(T:vA Kq k9 aq):Fo Pq wq bq true T.XA 1 (VX Kq):=by
 refine T.XA.F.kk T.XA.S λH vs Q E h=>?_;obtain⟨s,r,st,rs,l,rfl,hs,oK,rows,k⟩:=h;refine⟨rfl,λhr=>?_⟩;refine⟨_,(T0 (FC 2 T.XA.S O2)
  (T0 (KN O1.po (PW.pt (US (W3 Ml (pv 2) (NS T.wB (pv 1)) (V3 _)) (JN (W3 (Fi hr.units) (pv 0) (P7 B7 (pv 1) (pv 2) (λ_ _=>rfl)) rfl)))) (X0 (psa 2 T.XA.S O2 mY)))
  (X0 (Q3 (pv 2))))),?_⟩
 have lrs:rs.length=l.length:=J1 rows;refine LN (λσ H'=>∃(n:Nat),A4 (σ=[some (.ref s),some (.ref r),some (.int n)]) (H'=H) (n<=l.length) (∀j y,j<n->l[j]?=some y->y.contains st=true)) (λσ _=>match σ with
  |[_,_,some (.int n)]=>l.length-n.toNat
  |_=>0) ⟨0,rfl,rfl,D1 _,λj y h=>absurd h (by lia)⟩ ?_ ?_
 .rintro σ H' ⟨n,rfl,rfl,hn,all⟩;by_cases DC:n<l.length
  .have hl:l[n]?=some l[n]:=K0 DC;obtain⟨q,hq,ts,Rt,tt⟩:=Paired.getR rows hl;refine tZ (x:=true) (y:=l[n].contains st) (λR z=>⟨_,rfl,_,rfl,r,_,rfl,.inl (SqL.of oK),_,_,rfl,rfl,_,rfl,?_⟩) (λ_ R z=>⟨_,rfl,_,rfl,_,rfl,r,_,_,.ref q,rfl,rfl,SqL.of oK,X5 (by rw[P1,hq];rfl),s,q,pI st,ts,_,rfl,rfl,hs,SqL.of Rt,tt,_,rfl,?_⟩) ?_
   .rw[F1 (show(n:Int)<(((rs.map V.ref).length:Nat):Int) by rw[B0,lrs];lia)];exact z
   .rw[D0 (by decide),WQ];exact z
   .rw[TC];cases hc:l[n].contains st with
    |true=>
     refine C7 ⟨_,rfl,_,_,rfl,rfl,?_⟩;refine⟨⟨n+1,?_,rfl,DC,λj y hj hy=>?_⟩,?_⟩
     .show[some (V.ref s),some (V.ref r),some (V.int ((n:Int)+1))]=_;rw[show(n:Int)+1=((n+1:Nat):Int) by lia]
     .by_cases e:j=n
      .subst e;rw[hl]at hy;obtain rfl:=M0 hy;exact hc
      .exact all j y (by lia) hy
     .show l.length-((n:Int)+1).toNat<l.length-(n:Int).toNat
      lia
    |false=>
     refine a8 ⟨_,rfl,?_⟩;have e:=Km (p:=λx=>x.contains st) hl all;rw[D0 (by rw[hc];decide)]at e;rw[e]at k;exact k
  .have e:n=l.length:=by lia
   subst e;refine tZ (x:=false) (y:=false) (λR z=>⟨_,rfl,_,rfl,r,_,rfl,.inl (SqL.of oK),_,_,rfl,rfl,_,rfl,?_⟩) (λz=>nomatch z) ?_
   .rw[Y0 (show ¬(l.length:Int)<(((rs.map V.ref).length:Nat):Int) by rw[B0,lrs];lia)];exact z
   .refine a8 ⟨_,rfl,?_⟩;rw[Cw all]at k;exact k
 .intro σ H' R R' m h;obtain⟨v,e,u,e2,p1,ys,e3,hq,i,j,e4,e5,c,e6,z⟩:=h;refine⟨v,e,u,e2,p1,ys,e3,hq,i,j,e4,e5,c,e6,?_⟩;cases c with
  |false=>exact m _ _ z
  |true=>
   obtain⟨v1,q1,v2,q2,v3,q3,p2,xs,i2,v4,q4,q5,q6,q7,s2,p3,ns,as3,Ot,q8,q9,q10,q11,q12,c2,q13,z⟩:=z;exact⟨v1,q1,v2,q2,v3,q3,p2,xs,i2,v4,q4,q5,q6,q7,s2,p3,ns,as3,Ot,q8,q9,q10,q11,q12,c2,q13,m _ _ z⟩
theorem mP(T:vA Kq k9 aq):Mo k9 Pq wq bq true T.ZA 1 (XX aq.JB):=by
 refine T.ZA.F.kk T.ZA.S λH vs Q E h=>?_;obtain⟨p,dx,v0,v1,v2,v3,rfl,hp,k⟩:=h;refine⟨rfl,λhr=>?_⟩;refine⟨_,(T0 (D6 (pv 0) (pv 1) rfl)
  (T0 (D6 (pv 0) (pv 2) rfl)
  (T0 (D6 (pv 0) (pv 3) rfl)
  (X0 (D6 (pv 0) (pv 4) rfl))))),?_⟩
 refine⟨_,rfl,_,rfl,p,_,dx,_,rfl,hp,T.C8.c,T.zB,(by show 0<1000;decide),?_⟩;refine⟨_,rfl,_,rfl,p,_,dx,_,rfl,C0,T.C8.c,T.V9,(by show 1<1000;decide),?_⟩;rw[Y4];refine⟨_,rfl,_,rfl,p,_,dx,_,rfl,C0,T.C8.c,T.gC,(by show 2<1000;decide),?_⟩;rw[Y4];refine⟨_,rfl,_,rfl,p,_,dx,_,rfl,C0,T.C8.c,T.xK,(by show 3<1000;decide),?_⟩;rw[Y4];exact k _ C0 λb hb=>N0 hb
theorem AZ(T:vA Kq k9 aq):Fo Pq wq bq true T.G9 4 (Df aq.JB aq.SA aq.U3):=by
 refine T.G9.F.kk T.G9.S λH vs Q E h=>?_;obtain⟨p,dx,op,v0,as,wl,rfl,W,k⟩:=h;refine⟨rfl,λhr=>?_⟩;have zl:=BM;have h8:=W.h8;have l32:=W.l32;refine⟨_,(T0 (LI (i:=1) O1 rfl rfl (own:=[("course",2)]) rfl T.G9.S.nd rfl rfl rfl (sI rfl T.lG (F0 (U2 (pv 0) rfl) Z0)) (bW ["wall","rows","course","panels","row","stretch"] (X3 iR) [("course",2)]) (λtk=>(wE 2 T.G9.S)) (λtk=>Y9) (λtk=>(pcg T.Y8 (sS T) hr.mo tk.passes (F0 (pv 0) (F0 (pv 2) Z0)))))
  (T0 (FC 3 T.G9.S (d6 Z0))
  (T0 (t8 O1.po rfl (YN rfl T.ID (F0 (pv 1) Z0)) (gL rfl (n9 (wE 2 T.G9.S) (n9 (wE 4 T.G9.S) qH))) (X0 (t8 O1.po rfl (W7 (pv 4)) (wE 5 T.G9.S) (X0 (c7 (PW.pt (VS (W3 AC (pv 2) O2 (V3 _)) (UM (W3 (YV hr.units) (pv 5) (P7 B7 (pv 1) (X4 EC (pv 2) O2) (λ_ _=>rfl)) rfl)))) (X0 (n6 (BD j2 j3 o3 K9 (pv 3) (F0 (kM (T.C8.k0 T.ZA) (mP T) hr.mo rfl T.C8.m T.ZA.b .nil O1.passes (F0 (P7 eD (pv 5) O2 (λ_ _=>rfl)) (F0 (pv 2) (F0 (P7 eD (pv 5) O2 (λ_ _=>rfl)) (F0 (MC T.XA (tS T) hr (F0 (pv 5) (F0 (QN tY (pv 1) (FS (pv 2)) ES) Z0))) Z0))))) Z0)))) U4)))))
  (X0 (Q3 (pv 3)))))),?_⟩
 refine⟨_,rfl,p,_,dx,_,_,rfl,W.at_,T.dA.c,T.fI,rfl,_,rfl,by lia,by lia,λrl nrl=>?_⟩;rw[show((wl.high:Int)).toNat=wl.high by lia];refine oT (lo:=0) (n:=wl.high) (λi H'=>∃(rs:List Addr),A4 (Same H H') (H' rl=some (.lst (rs.map V.ref))) (L7 H' rs ((List.range i).map wl.stretches)) (rl∉rs)) ⟨[],(Same.refl _).new nrl,C0,.nil,by simp⟩ ?_ ?_
 .rintro i H' hi ⟨rs,s1,hrl,rows,nr⟩;rw[show(0:Int)+(i:Int)=(i:Int)from lP _];refine⟨rfl,_,rfl,_,rfl,p,dx,op,v0,as,wl,i,rfl,W.same s1,λH2 q ts s2 nq hq tt=>?_⟩;have lrs:=J1 rows;rw[B0,o6]at lrs;have qrl:rl≠q:=C1 hrl nq;refine⟨_,s2 _ _ hrl,(by rw[B0];lia),rs++[q],(s1.trans s2).set nrl,?_,?_,?_⟩
  .rw[C0,U0];rfl
  .rw[eN,U0];exact B4 (L7.upd (s2 _ _ hrl) (L7.same s2 rows) nr) ⟨ts,by rw[N0 (N2 qrl)];exact hq,NB.upd tt (s2 _ _ hrl)⟩
  .simp only[F2,Q1,DJ];exact⟨nr,qrl⟩
 .rintro H2 ⟨rs,s2,hrl,rows,nr⟩;have rows:L7 H2 rs (VQ wl):=rows;have lrs:=J1 rows;have lrw:(VQ wl).length=wl.high:=by unfold VQ;rw[B0,o6]
  refine⟨D1 _,λpl npl=>?_⟩;have s3:Same H2 (upd H2 pl (.lst [])):=(Same.refl _).new npl;have IH:upd H2 pl (.lst []) pl=some (.lst []):=C0;generalize upd H2 pl (.lst [])=H3 at s3 IH;refine⟨_,rfl,rl,_,rfl,SqL.of (s3 _ _ hrl),ZL (K:=Kq) (a:=rl) (xs:=rs.map V.ref) (λc σ H'=>E4 λ(v2 v4 v5:Option V)(ts:List Addr)=>A4 (σ=[some (.ref p),some (.ref rl),v2,some (.ref pl),v4,v5]) (Same H2 H') (H' pl=some (.lst (ts.map V.ref))) (Tn aq.JB H' ts (AH wl c)))
   ⟨none,none,none,[],rfl,s3,IH,.nil⟩ (by rintro c σ H' _ ⟨_,_,_,_,_,s4,_⟩;exact SqL.of (s4 _ _ hrl)) ?_ ?_⟩
  .rintro c v σ H' tp hi ⟨v2,v4,v5,ts,rfl,s4,zbK,tt⟩ ntp;obtain⟨r,hr2,rfl⟩:=U8 hi;have cl:c<wl.high:=by
    have:=(P0.mp hr2).1
    lia
   obtain⟨l,hl,us,hus,tus⟩:=Paired.get rows hr2;obtain rfl:wl.stretches c=l:=by
    rw[oX cl]at hl;exact M0 hl
   refine⟨tp,_,rfl,.inl (.inl C0),rfl,_,_,rfl,_,_,rfl,rfl,?_⟩;have s5:Same H2 (upd H' tp (.tup [.int c,.ref r])):=s4.new ntp;have zgU:upd H' tp (.tup [.int c,.ref r]) pl=some (.lst (ts.map V.ref)):=by rw[N0 (C1 zbK ntp)];exact zbK
   have tt5:Tn aq.JB (upd H' tp (.tup [.int c,.ref r])) ts (AH wl c):=Tn.same ((Same.refl _).new ntp) tt;generalize upd H' tp (.tup [.int c,.ref r])=H5 at s5 zgU tt5;have lus:=J1 tus;rw[B0]at lus;refine⟨_,rfl,r,rfl,⟨_,SqL.of (s5 _ _ hus)⟩,LA (K:=Kq) (a:=r) (xs:=us.map V.ref) (λj σ H'=>E2 λ(v5:Option V)(ts:List Addr)=>A4 (σ=[some (.ref p),some (.ref rl),some (.int c),some (.ref pl),some (.ref r),v5]) (Same H2 H') (H' pl=some (.lst (ts.map V.ref))) (Tn aq.JB H' ts (AH wl c++gG wl c ((wl.stretches c).take j))))
    ⟨_,ts,rfl,s5,zgU,by simpa[gG]using tt5⟩ (by rintro j σ H' _ ⟨_,_,_,s6,_⟩;exact SqL.of (s6 _ _ hus)) ?_ ?_⟩
   .rintro j v σ H6 hj ⟨v5,ts,rfl,s6,Xz,tt6⟩;obtain⟨u,hu,rfl⟩:=U8 hj;obtain⟨si,hsi,hu6⟩:=Paired.get tus hu;rw[P1]at hsi;obtain⟨st,RM,rfl⟩:∃st,(wl.stretches c)[j]?=some st/\si=pI st:=by
     cases e:(wl.stretches c)[j]? with
     |none=>rw[e]at hsi;cases hsi
     |some st=>rw[e]at hsi;exact⟨st,rfl,(M0 hsi).symm⟩
    have hs6:=s6 _ _ hu6;have zgX:=s6 _ _ hrl;have zcH:=L7.same s6 rows;have znA:ts.length<=500:=by
     have z:=J1 tt6;rw[T1]at z;have z1:=AL wl c;have z2:=UQ wl c ((wl.stretches c).take j);have z3:=JM wl c;rw[Z1]at z2;have z4:c*(wl.long+1)<=8*33:=iC (by lia) (by lia)
     lia
    dsimp only[pH,qK,IR,QV];refine zf1 (x:=decide (c=0)) (y:=!(wl.stretches (c-1)).contains st) (λR z=>⟨_,rfl,rfl,_,rfl,?_⟩) (λhc R z=>?_) ?_
    .have e:decide (V.int c=V.int 0)=decide (c=0):=S3.mpr ⟨λq=>by have:=V.int.inj q;lia,λq=>by rw[q];rfl⟩;rw[e];exact z
    .have c0:c≠0:=K6 hc;obtain⟨r1,hr1,t1,ht1,tt1⟩:=Paired.getR zcH (oX (w:=wl) (y:=c-1) (by lia));refine⟨_,rfl,_,rfl,_,rfl,_,_,rfl,rfl,rl,_,_,.ref r1,rfl,rfl,SqL.of zgX,vT (j:=c-1) (by lia) (by rw[P1,hr1];rfl),u,r1,pI st,t1,_,rfl,rfl,hs6,SqL.of ht1,tt1,_,rfl,?_⟩;rw[J0 rfl,WQ];exact z
    .have ec:(decide (c=0)||!(wl.stretches (c-1)).contains st)=!(decide (0<c)&&(wl.stretches (c-1)).contains st):=by
      by_cases q:c=0
      .subst q;simp
      .rw[Y0 q,F1 (show 0<c by lia)];simp
     rw[ec];have snoc:=LY wl c ((wl.stretches c).take j) st;rw[<-T3 RM]at snoc;cases hb:(decide (0<c)&&(wl.stretches (c-1)).contains st)with
     |true=>
      rw[J0 hb,D3]at snoc;refine a8 ⟨_,ts,rfl,s6,Xz,?_⟩;rw[snoc];exact tt6
     |false=>
      rw[D0 (by rw[hb];decide)]at snoc;refine C7 ⟨_,rfl,.inl ⟨rfl,_,SqL.of Xz⟩,_,rfl,u,_,_,_,rfl,rfl,.inl (.inl hs6),X5 (j:=0) rfl,_,rfl,_,rfl,u,_,_,_,rfl,rfl,.inl (.inl hs6),X5 (j:=1) rfl,_,rfl,_,rfl,_,rfl,_,rfl,rl,_,rfl,SqL.of zgX,λsl nsl=>?_⟩;rw[By (by rw[B0];lia),<-List.map_drop];have s7:Same H6 (upd H6 sl (.lst ((rs.drop c).map V.ref))):=(Same.refl _).new nsl;have zgY:upd H6 sl (.lst ((rs.drop c).map V.ref)) sl=some (.lst ((rs.drop c).map V.ref)):=C0;generalize upd H6 sl (.lst ((rs.drop c).map V.ref))=H7 at s7 zgY;refine⟨u,sl,st,rs.drop c,(VQ wl).drop c,rfl,s7 _ _ hs6,zgY,L7.drop c (L7.same s7 zcH),λt dt nt ndt ndd=>⟨t,dt,_,_,_,_,rfl,C0,λH8 e8 kp=>⟨rfl,?_⟩⟩⟩;rw[zdw wl st c (by lia)]at e8;have s8:Same H7 H8:=λb o e=>by
       have q1:b≠t:=C1 e nt;have q2:b≠dt:=C1 e ndt;rw[kp b q1,N0 q1,N0 q2];exact e
      have zes:=s8 _ _ (s7 _ _ Xz);refine⟨pl,_,_,rfl,rfl,zes,(by rw[B0];lia),?_⟩;refine⟨_,ts++[t],rfl,((s6.trans s7).trans s8).set npl,?_,?_⟩
      .rw[C0,U0];rfl
      .rw[snoc,<-b9];refine B4 (Tn.upd zes (Tn.same s8 (Tn.same s7 tt6))) ⟨dt,?_⟩;rw[N0 (jF e8 zes (by intro z;cases z)),e8];rfl
   .rintro σ H6 ⟨v5,ts,rfl,s6,Xz,tt6⟩;rw[B0,lus,Y1,<-qO]at tt6;exact⟨_,_,_,ts,rfl,s6,Xz,tt6⟩
  .rintro σ H' ⟨v2,v4,v5,ts,rfl,s4,zbK,tt⟩;rw[B0,lrs,lrw]at tt;exact⟨_,rfl,k H' pl ts (s2.trans s4) (s2.free npl) zbK tt⟩
theorem xV{X:Cx}{K:Frag}(hK:X.K=K):vJ X (compareOp .In) (rIn K false):=by
 subst hK;exact Pp
theorem Ks{X:Cx}{K:Frag}(hK:X.K=K):MtR X "list.index" (Mh K):=by
 subst hK;exact Su
theorem zd0{X:Cx}{K:Frag}{o:Expr}{to:TE}{t:TA}{name:Str}{yE QF:Pos}{T id:String}{r:V->List V->Hp->VK->Prop}(hK:X.K=K) (pa:PlainAttrs T) (slot:Slot T name id) (hty:typeOf (.builtin id)=pure (.type "method_descriptor")) (hm:MtR X id r) (ho:PE X o to) (ha:PA X (e::es) t)
 (Jg:attributeBase o name X.env (eval o X.env)=eval o X.env:=by rfl)
 (zee:((backTo QF (starEach (e::es) X.env)).all (λx=>!x.1)&&(backToKw QF (keywordEach [] X.env)).all (λx=>x.1.isSome)
 && decide ((e::es).length+([]:List Keyword).length+(if ([]:List Keyword).isEmpty then 0 else 1)<30))=true:=by rfl)
 (TM:(yE.endLine==QF.line)=true:=by rfl) (hs:starEach (e::es) X.env=(false,eval e X.env)::starEach es X.env:=by rfl) (Wk:(backTo QF (starEach es X.env)).any (·.1)=false:=by rfl) :
   PE X (.Call (.Attribute o name yE) (e::es) [] QF) (tBM K T r to t):=by
  subst hK;exact BD pa slot hty hm ho ha Jg zee TM hs Wk
theorem zbg{X:Cx}{K:Frag}(hK:X.K=K):IxR X (zc8 K):=by
 subst hK;exact eD
def rI(r:Bd.Row):List Int:=r.map λp=>((p.rank:Nat):Int)
def JD:Bytes:=ascii "SHTBC"
theorem Ef(n:Int)(ms:List Int):inV (.int n) (ms.map V.int)=ms.contains n:=by
 unfold inV
 induction ms with
 |nil=>rfl
 |cons m r ih=>
  rw[L3,T8,ih,jD];congr 1;show(m==n)=(n==m);rw[d3,O4,O4];exact eq_comm
theorem GQ(ms:List Int):(ms.map V.int).all DI=true:=by
 rw[Q7];intro v hv;obtain⟨n,_,rfl⟩:=S2.mp hv;rfl
theorem YX(c:UInt8):match Bd.pieceOf c with
  |none=>(jB JD).contains (c.toNat:Int)=false
  |some p=>(jB JD).contains (c.toNat:Int)=true/\(jB JD)[p.rank]?=some (c.toNat:Int)/\∀m,m<p.rank->(jB JD)[m]?≠some (c.toNat:Int):=by
 have e:∀d:UInt8,(d.toNat:Int)=(c.toNat:Int)↔d=c:=λd=>⟨λh=>DF.mp (by lia),λh=>by rw[h]⟩
 have l:jB JD=[83,72,84,66,67]:=by decide
 have f:∀p:Piece,p.letter=match p with
   |.S=>83
   |.H=>72
   |.T=>84
   |.B=>66
   |.C=>67:=λp=>by cases p<;>decide
 unfold Bd.pieceOf Bd.PIECES;rw[l];simp only[iA,f,List.find?_nil];have z:∀(d:UInt8)(n:Int),(d.toNat:Int)=n->(c.toNat:Int)≠n->(d==c)=false:=λd n h1 h2=>by
  rw[c6];intro q;rw[q]at h1;exact h2 h1
 by_cases h0:c=83
 .subst h0;exact⟨by decide,by decide,by decide⟩
 by_cases h1:c=72
 .subst h1;exact⟨by decide,by decide,by decide⟩
 by_cases h2:c=84
 .subst h2;exact⟨by decide,by decide,by decide⟩
 by_cases h3:c=66
 .subst h3;exact⟨by decide,by decide,by decide⟩
 by_cases h4:c=67
 .subst h4;exact⟨by decide,by decide,by decide⟩
 rw[show((83:UInt8)==c)=false from c6.mpr (N2 h0),show((72:UInt8)==c)=false from c6.mpr (N2 h1),show((84:UInt8)==c)=false from c6.mpr (N2 h2),show((66:UInt8)==c)=false from c6.mpr (N2 h3),show((67:UInt8)==c)=false from c6.mpr (N2 h4)];dsimp only;rw[S4];intro q;rw[EB]at q;simp only[S1,aB,cM]at q;have g:∀d:UInt8,c≠d->(c.toNat:Int)≠(d.toNat:Int):=λd h q=>h ((e d).mp q.symm).symm;have g0:=g 83 h0;have g1:=g 72 h1;have g2:=g 84 h2;have g3:=g 66 h3;have g4:=g 67 h4;rcases q with q|q|q|q|q
 .exact g0 q
 .exact g1 q
 .exact g2 q
 .exact g3 q
 .exact g4 q
inductive zcd(K:Frag)(C:Addr)(vs:List V)(H:Hp)(Q:VK)(E:XK):Prop
 |mk (l:Addr) (x:Bytes):vs=[.ref l]->SqL K H l (iB x)->x.length<=10000->(match XV x with
 |.error k=>LB C E H k
 |.ok _=>∀H':Hp,Same H H'->Q (.ref l) H')->zcd K C vs H Q E
inductive zce(K:Frag)(C:Addr)(vs:List V)(H:Hp)(Q:VK)(E:XK):Prop
 |mk (l:Addr) (x:Bytes) (wF most:Nat):vs=[.ref l,.int wF,.int most]->SqL K H l (iB x)->x.length<=10000->(match wM x wF most with
 |.error k=>LB C E H k
 |.ok n=>∀H':Hp,Same H H'->Q (.int n) H')->zce K C vs H Q E
inductive Ff(K:Frag)(C:Addr)(vs:List V)(H:Hp)(Q:VK)(E:XK):Prop
 |mk (l:Addr) (x:Bytes):vs=[.ref l]->SqL K H l (iB x)->x.length<=10000->(match readRow x with
 |none=>LB C E H 3
 |some r=>∀(H':Hp)(p:Addr),Same H H'->H p=none->H' p=some (.tup ((rI r).map V.int))->Q (.ref p) H')->Ff K C vs H Q E
inductive Vn(K:Frag)(C:Addr)(vs:List V)(H:Hp)(Q:VK)(E:XK):Prop
 |mk (l:Addr) (x:Bytes):vs=[.ref l]->SqL K H l (iB x)->x.length<=10000->(match dN x with
 |.error k=>LB C E H k
 |.ok r=>∀(H':Hp)(p:Addr),Same H H'->H p=none->H' p=some (.tup ((rI r).map V.int))->Q (.ref p) H')->Vn K C vs H Q E
inductive zcf(K:Frag)(C:Addr)(vs:List V)(H:Hp)(Q:VK)(E:XK):Prop
 |mk (l:Addr) (x:Bytes):vs=[.ref l]->SqL K H l (iB x)->x.length<=10000->(match Ub x with
 |.error k=>LB C E H k
 |.ok r=>∀(H':Hp)(p:Addr),Same H H'->H p=none->H' p=some (.tup ((rI r).map V.int))->Q (.ref p) H')->zcf K C vs H Q E
theorem zbh(x:Bytes):((x.map λc=>decide ((65:Int)<=((c.toNat:Nat):Int))&&decide (((c.toNat:Nat):Int)<=90)).all id)=x.all isBig:=by
 rw[TD];refine V6 (λf=>x.all f) (funext λc=>?_);unfold isBig;show(decide ((65:Int)<=(c.toNat:Int))&&decide ((c.toNat:Int)<=90))=_;rw[d3];simp only[E1,O0]
 lia
theorem BZ(c:UInt8)(x:Bytes):readRow (c::x)=(Bd.pieceOf c).bind λp=>(readRow x).map λr=>p::r:=by
 unfold readRow;rw[W8];cases Bd.pieceOf c with
 |none=>rfl
 |some p=>
  cases List.mapM Bd.pieceOf x with
  |none=>rfl
  |some r=>rfl
theorem uR(x:Bytes):match readRow x with
  |none=>(x.all λc=>(jB JD).contains ((c.toNat:Nat):Int))=false
  |some r=>(x.all λc=>(jB JD).contains ((c.toNat:Nat):Int))=true/\r.length=x.length/\∀(i:Nat)(c:UInt8)(p:Piece),x[i]?=some c->r[i]?=some p->Bd.pieceOf c=some p:=by
 induction x with
 |nil=>exact⟨rfl,rfl,λi c p h=>by simp at h⟩
 |cons c x ih=>
  rw[BZ];have q:=YX c;cases hp:Bd.pieceOf c with
  |none=>
   rw[hp]at q;show((c::x).all _)=false;rw[S8,q,QB]
  |some p=>
   rw[hp]at q;cases hr:readRow x with
   |none=>
    rw[hr]at ih;show((c::x).all _)=false;rw[S8,ih,Bool.and_false]
   |some r=>
    rw[hr]at ih;refine⟨?_,?_,λi d p' h1 h2=>?_⟩
    .rw[S8,q.1,ih.1];rfl
    .rw[N1,N1,ih.2.1]
    .cases i with
     |zero=>
      obtain rfl:=M0 h1;obtain rfl:=M0 h2;exact hp
     |succ i=>exact ih.2.2 i d p' h1 h2
theorem eM(T:vA Kq k9 aq):Fo Pq wq bq true T.zA 3 (zcd Kq aq.A2):=by
 refine T.zA.F.kk T.zA.S λH vs Q E h=>?_;obtain⟨l,x,rfl,hS,hl,k⟩:=h;refine⟨rfl,λhr=>?_⟩;unfold XV at k;refine⟨_,(T0 (c7 (PW.pt (VS (W3 (Nh hr.units) (pv 0) (d6 Z0) (V3 _)) (UM (yG (cD (NA (mT rfl) rfl T.Oe xU (F0 (GC O1 rfl rfl (own:=[("byte",1)]) rfl T.zA.S.nd (W7 (pv 0)) (bW ["field","byte"] (X3 LM) [("byte",1)]) (λtk=>(wE 1 T.zA.S)) (λtk=>Y9) (λtk=>(uI NC NC (XF T.qS) (pv 1) (XF T.jV)))) Z0))))))) (X0 (pV T O1 hr.mo (XF T.K7))) U4)
  (X0 (Q3 (pv 0)))),?_⟩
 refine⟨_,rfl,D1 _,λp1 n1=>?_⟩;have s1:Same H (upd H p1 (.lst [])):=(Same.refl _).new n1;have QZ:=s1.seq hS;have e1:SqL Kq (upd H p1 (.lst [])) p1 (iB []):=SqL.of C0;generalize upd H p1 (.lst [])=H1 at s1 QZ e1;refine⟨_,_,yK QZ,yK e1,oA _,oA _,_,rfl,?_⟩;rw[CQ];by_cases h0:x=[]
 .rw[F1 h0];rw[J0 (.inl h0)]at k;exact C7 (C7 (N4 T (k.same s1)))
 .rw[Y0 h0];refine a8 ?_;refine⟨_,rfl,l,rfl,⟨_,QZ⟩,λDl hD=>Ek (inB 65 90) QZ (by rw[FB];lia) hD (λv hv H' R q=>?_) (λx H' R R' m q=>m _ _ q) ?_⟩
  .obtain⟨n,rfl⟩:=vZ hv;exact⟨rfl,rfl,bM (λR r=>r) (λR r=>⟨_,rfl,r⟩) (λR r=>r) q⟩
  rw[uZ];refine⟨Dl,_,rfl,SqL.of C0,_,rfl,?_⟩;rw[zbh];have s2:Same H (upd H1 Dl (.lst ((x.map λc=>decide ((65:Int)<=((c.toNat:Nat):Int))&&decide (((c.toNat:Nat):Int)<=90)).map V.bl))):=s1.new hD;generalize upd H1 Dl (.lst ((x.map λc=>decide ((65:Int)<=((c.toNat:Nat):Int))&&decide (((c.toNat:Nat):Int)<=90)).map V.bl))=H2 at s2;cases h2:x.all isBig with
  |false=>
   rw[J0 (.inr h2)]at k;exact C7 (N4 T (k.same s2))
  |true=>
   rw[D0 (by rintro(z|z);exact h0 z;rw[h2]at z;cases z)]at k;exact a8 ⟨_,rfl,k _ s2⟩
theorem mJ(T:vA Kq k9 aq):Fo Pq wq bq true T.sB 5 (zce Kq aq.A2):=by
 refine T.sB.F.kk T.sB.S λH vs Q E h=>?_;obtain⟨l,x,m0,m,rfl,hS,hl,k⟩:=h;refine⟨rfl,λhr=>?_⟩;unfold wM at k;refine⟨_,(T0 (c7 (W3 Kl (NS T.wB (pv 0)) O2 (V3 _)) (X0 (pV T O1 hr.mo (XF T.K7))) U4)
  (X0 (Q3 (MC T.O8 (qE T) hr (F0 (pv 0) (F0 (pv 1) (F0 (pv 2) Z0))))))),?_⟩
 refine⟨_,rfl,l,_,rfl,.inl hS,rfl,_,rfl,?_⟩;rw[FB];by_cases h1:x.length≠1
 .rw[J0 h1]at k;rw[show(!decide (V.int x.length=V.int 1))=true by
   rw[Y0]
   .rfl
   .intro z;have z':=V.int.inj z
    lia]
  exact C7 (N4 T k)
 .rw[D0 h1]at k;rw[show(!decide (V.int x.length=V.int 1))=false by
   rw[F1]
   .rfl
   .rw[show x.length=1 by lia];rfl]
  exact a8 ⟨_,rfl,_,rfl,_,rfl,l,x,m0,m,rfl,hS,hl,k⟩
theorem nP(T:vA Kq k9 aq):Fo Pq wq bq true T.F9 3 (Ff Kq aq.A2):=by
 refine T.F9.F.kk T.F9.S λH vs Q E h=>?_;obtain⟨l,x,rfl,hS,hl,k⟩:=h;refine⟨rfl,λhr=>?_⟩;have zl:=BM;refine⟨_,(T0 (FC 1 T.F9.S (MC T.ZB (aM T) hr (F0 (HB (v:=.str "SHTBC") rfl T.GX ⟨_,rfl⟩) Z0)))
  (T0 (c7 (yG (cD (NA (mT rfl) rfl T.Oe xU (F0 (GC O1 rfl rfl (own:=[("byte",2)]) rfl T.F9.S.nd (W7 (pv 0)) (bW ["field","letters","byte"] (X3 KL) [("byte",2)]) (λtk=>(wE 2 T.F9.S)) (λtk=>Y9) (λtk=>(FA (xV (K:=Kq) rfl) (pv 2) (pv 1) rfl))) Z0)))) (X0 (pV T O1 hr.mo (XF T.ZG))) U4)
  (X0 (Q3 (Op UV rfl T.zbe Ex (F0 (GC O1 rfl rfl (own:=[("byte",2)]) rfl T.F9.S.nd (W7 (pv 0)) (bW ["field","letters","byte"] (X3 KL) [("byte",2)]) (λtk=>(wE 2 T.F9.S)) (λtk=>Y9) (λtk=>(zd0 (K:=Kq) rfl j2 EI PySem.F.type_list_index (Ks (K:=Kq) rfl) (pv 1) (F0 (pv 2) Z0)))) Z0)))))),?_⟩
 refine⟨"SHTBC",rfl,(by decide),λH1 pl s1 npl IH=>?_⟩;have ez:(("SHTBC": Str).cps.toList.map λn=>V.int ((n:Nat):Int))=(jB JD).map V.int:=by decide
 rw[ez]at IH;have QZ:=s1.seq hS;have ra:=uR x;refine⟨_,rfl,l,rfl,⟨_,QZ⟩,λDl hD=>?_⟩;refine dG (K:=Kq) (a:=l) (xs:=iB x) (λi H'=>H'=upd H1 Dl (.lst (((x.take i).map λc=>(jB JD).contains ((c.toNat:Nat):Int)).map V.bl))) rfl
  (λi H' _ e=>by rw[e];exact((Same.refl _).new hD).seq QZ) ?_ ?_
 .rintro i v H' hi rfl;obtain⟨c,hc,rfl⟩:=sZ hi;have il:=(P0.mp hc).1;have zbL:upd H1 Dl (.lst (((x.take i).map λc=>(jB JD).contains ((c.toNat:Nat):Int)).map V.bl)) pl=some (.lst ((jB JD).map V.int)):=by rw[N0 (C1 IH hD)];exact IH
  refine⟨rfl,_,rfl,_,rfl,pl,_,rfl,.inl (SqL.of zbL),rfl,GQ _,?_⟩;rw[D0 (by decide),Ef];refine⟨_,C0,(by rw[B0,B0,Z1];lia),?_⟩;rw[Y4,T3 hc,U0,U0];rfl
 .rintro H2 rfl;rw[FB,Y1];refine⟨Dl,x.map λc=>(jB JD).contains ((c.toNat:Nat):Int),rfl,SqL.of C0,_,rfl,?_⟩;rw[TD];have s2:Same H1 (upd H1 Dl (.lst ((x.map λc=>(jB JD).contains ((c.toNat:Nat):Int)).map V.bl))):=(Same.refl _).new hD;generalize upd H1 Dl (.lst ((x.map λc=>(jB JD).contains ((c.toNat:Nat):Int)).map V.bl))=H2 at s2;have iH:=s1.trans s2;cases oK:readRow x with
  |none=>
   rw[oK]at k ra;rw[show(x.all (id ∘ λc=>(jB JD).contains ((c.toNat:Nat):Int)))=false from ra];exact C7 (N4 T (k.same iH))
  |some r=>
   rw[oK]at k ra;rw[show(x.all (id ∘ λc=>(jB JD).contains ((c.toNat:Nat):Int)))=true from ra.1];refine a8 ?_;have zbL:=s2 _ _ IH;have hS2:=s2.seq QZ;refine⟨_,rfl,l,rfl,⟨_,hS2⟩,λD2 hD2=>?_⟩;refine dG (K:=Kq) (a:=l) (xs:=iB x) (λi H'=>H'=upd H2 D2 (.lst ((rI (r.take i)).map V.int))) rfl
    (λi H' _ e=>by rw[e];exact((Same.refl _).new hD2).seq hS2) ?_ ?_
   .rintro i v H' hi rfl;obtain⟨c,hc,rfl⟩:=sZ hi;have il:=(P0.mp hc).1;have rl:=ra.2.1;have er:r[i]?=some (r[i]'(by lia)):=K0 (by lia);have ep:=ra.2.2 i c _ hc er;have q:=YX c;rw[ep]at q;have zgZ:upd H2 D2 (.lst ((rI (r.take i)).map V.int)) pl=some (.lst ((jB JD).map V.int)):=by rw[N0 (C1 zbL hD2)];exact zbL
    refine⟨rfl,_,rfl,.inl ⟨rfl,_,SqL.of zgZ⟩,_,rfl,pl,(jB JD).map V.int,.int c.toNat,(r[i]'(by lia)).rank,.int c.toNat,rfl,rfl,SqL.of zgZ,rfl,GQ _,?_,?_,?_,?_⟩
    .rw[P1,q.2.1];rfl
    .show((c.toNat:Int)==(c.toNat:Int))=true;exact qC _
    .intro m z' hm Gz;rw[P1]at Gz;have ml:m<(jB JD).length:=by
      have:=(P0.mp q.2.1).1
      lia
     rw[K0 ml]at Gz;obtain rfl:=M0 Gz;show((jB JD)[m]==(c.toNat:Int))=false;rw[c6];intro e;exact q.2.2 m hm (by rw[K0 ml,e])
    .refine⟨_,C0,(by unfold rI;rw[B0,B0,Z1];lia),?_⟩;rw[Y4,T3 er];unfold rI;rw[U0,U0];rfl
   .rintro H3 rfl;rw[FB,<-ra.2.1,Y1];refine⟨D2,_,rfl,.inl ⟨SqL.of C0,λq nq=>?_⟩⟩;have s3:Same H2 (upd H2 D2 (.lst ((rI r).map V.int))):=(Same.refl _).new hD2;exact k _ q ((iH.trans s3).new nq) ((iH.trans s3).free nq) C0
theorem vR:∀(r:Bd.Row),inOrder r=true↔∀n p q,r[n]?=some p->r[n+1]?=some q->p.rank<q.rank
 |[]=>by
  refine⟨λ_ n p q h=>by simp at h,λ_=>rfl⟩
 |[x]=>by
  refine⟨λ_ n p q _ h=>by simp at h,λ_=>rfl⟩
 |x::y::r=>by
  have ih:=vR (y::r);rw[inOrder,E1,O0,ih];constructor
  .rintro⟨h1,h2⟩ n p q hp hq;cases n with
   |zero=>
    obtain rfl:=M0 hp;obtain rfl:=M0 hq;exact h1
   |succ n=>exact h2 n p q hp hq
  .intro h;exact⟨h 0 x y rfl rfl,λn p q hp hq=>h (n+1) p q hp hq⟩
theorem HQ{p:Piece}(h:r[i]?=some p):((rI r).map V.int)[i]?=some (.int p.rank):=by
 unfold rI;rw[P1,P1,h];rfl
theorem W9(r:Bd.Row):((rI r).map V.int).length=r.length:=by
 unfold rI;rw[B0,B0]
theorem readRow_len{x:Bytes}(h:readRow x=some r):r.length=x.length:=by
 have q:=uR x;rw[h]at q;exact q.2.1
def brF(tk lap most:Nat)(mk pp:Addr):List (Str×V):=[("taken",.int tk),("lap",.int lap),("most",.int most),("makes",.ref mk),("patterns",.ref pp)]
structure Wn(K:Frag)(CB:Addr)(H:Hp)(r dx mk pp:Addr)(ps:List Addr)(s:BS):Prop where
 ob:H r=some (.ins CB dx (brF s.1 s.2.lap s.2.most mk pp))
 mks:eA K H mk ((rI s.2.makes).map V.int)
 pt:H pp=some (.lst (ps.map V.ref))
 ps:NB H ps (s.2.courses.map rI)
 rp:r≠pp
 c8:s.2.courses.length<=8
 b1:s.2.lap<=3
 b2:s.2.most<=2
def BR(K:Frag)(CB:Addr)(H:Hp)(X:List Addr)(r:Addr)(s:BS):Prop:=∃(dx mk pp:Addr)(ps:List Addr),X=[r,pp]/\Wn K CB H r dx mk pp ps s
theorem Wn.keep{K:Frag}{r:Addr}{s:BS}(U:Wn K CB H r dx mk pp ps s) (k:Same H H'):Wn K CB H' r dx mk pp ps s:=⟨k _ _ U.ob,k.tup U.mks,k _ _ U.pt,NB.same k U.ps,U.rp,U.c8,U.b1,U.b2⟩
theorem BR.keep{K:Frag}(H H':Hp) (X:List Addr) (r:Addr) (s:BS) (h:BR K CB H X r s) (k:Same H H'):BR K CB H' X r s:=by
 obtain⟨dx,mk,pp,ps,rfl,U⟩:=h;exact⟨dx,mk,pp,ps,rfl,U.keep k⟩
theorem BR.obj{K:Frag}(H:Hp) (X:List Addr) (r:Addr) (s:BS) (h:BR K CB H X r s):∃dx fs,H r=some (.ins CB dx fs)/\fs.lookup ("take": Str)=none/\fs.lookup ("take_rest": Str)=none:=by
 obtain⟨dx,mk,pp,ps,rfl,U⟩:=h;exact⟨dx,_,U.ob,rfl,rfl⟩
theorem BR.has{K:Frag}{r:Addr}{s:BS}(h:BR K CB H X r s):∀x∈X,H x≠none:=by
 obtain⟨dx,mk,pp,ps,rfl,U⟩:=h;intro x hx e;simp only[S1,aB,cM]at hx;rcases hx with rfl|rfl
 .rw[U.ob]at e;cases e
 .rw[U.pt]at e;cases e
inductive Gf(K:Frag)(CB:Addr)(vs:List V)(H:Hp)(Q:VK)(E':XK):Prop
 |mk (r dx:Addr):vs=[.ref r]->H r=some (.ins CB dx [])->(∀(H':Hp)(X:List Addr),(∀b o,H b=some o->b≠r->H' b=some o)->BR K CB H' X r (0,FE)->(∀x∈X,x=r\/H x=none)->Q .non H')->Gf K CB vs H Q E'
inductive oP(K:Frag)(CB CL:Addr)(vs:List V)(H:Hp)(Q:VK)(E:XK):Prop
 |mk (r l dx mk pp:Addr) (ps:List Addr) (s:BS) (x:Bytes):vs=[.ref r,.ref l]->Wn K CB H r dx mk pp ps s->SqL K H l (iB x)->x.length<=10000->(match Ub x with
 |.error k=>LB CL E H k
 |.ok p=>if 8<=s.2.courses.length then LB CL E H 4 else ∀(H':Hp)(q:Addr),(∀b o,H b=some o->b≠pp->H' b=some o)->Wn K CB H' r dx mk pp (ps++[q]) (s.1,{s.2 with courses:=s.2.courses++[p]})->Q .non H')->oP K CB CL vs H Q E
theorem Hf(T:vA Kq k9 aq):Fo Pq wq bq true T.cF 4 (Vn Kq aq.A2):=by
 refine T.cF.F.kk T.cF.S λH vs Q E h=>?_;obtain⟨l,x,rfl,hS,hl,k⟩:=h;refine⟨rfl,λhr=>?_⟩;have zl:=BM;unfold dN at k;refine⟨_,(T0 (FC 1 T.cF.S (MC T.F9 (nP T) hr (F0 (MC T.zA (eM T) hr (F0 (pv 0) Z0)) Z0)))
  (T0 (t8 O1.po rfl (GP rfl T.lG (F0 O2 (F0 (NS T.wB (pv 1)) Z0))) (wE 2 T.cF.S) (X0 (c7 (W3 NC (P7 eD (pv 1) (pv 2) (λ_ _=>rfl)) (P7 eD (pv 1) (X4 EC (pv 2) O2) (λ_ _=>rfl)) (V3 _)) (X0 (pV T O1 hr.mo (XF T.ZG))) U4)))
  (X0 (Q3 (pv 1))))),?_⟩
 refine⟨_,rfl,l,x,rfl,hS,hl,?_⟩;cases hc:XV x with
 |error e=>
  rw[hc]at k;exact k
 |ok y=>
  rw[hc]at k;obtain rfl:x=y:=by
   unfold XV at hc;by_cases q:x=[]\/x.all isBig=false
   .rw[J0 q]at hc;cases hc
   .rw[D0 q]at hc;exact Z2 hc
  dsimp only at k;intro H1 s1;refine⟨l,x,rfl,s1.seq hS,hl,?_⟩;unfold lettersOf at k;cases oK:readRow x with
  |none=>
   rw[oK]at k;exact k.same s1
  |some r=>
   rw[oK,F4]at k;dsimp only;intro H2 p s2 np hp;have iH:=s1.trans s2;have rl:=readRow_len oK;have io:=vR r;refine⟨_,rfl,p,_,rfl,.inr (.inl (.inl hp)),1,_,rfl,⟨by decide,by decide,?_,?_⟩,?_⟩
   .rw[W9];lia
   .rw[W9];lia
   rw[W9];refine tI (lo:=1) (n:=((r.length:Int)-1).toNat) (λi σ H'=>∃(v:Option V),A3 (σ=[some (.ref l),some (.ref p),v]) (H'=H2) (∀n u v,n<i->r[n]?=some u->r[n+1]?=some v->u.rank<v.rank)) ⟨none,rfl,rfl,λn u v h=>absurd h (by lia)⟩ ?_ ?_
   .rintro i σ H' hi ⟨v,rfl,rfl,all⟩;have i1:i+1<r.length:=by lia
    have e0:r[i]?=some (r[i]'(by lia)):=K0 _;have e1:r[i+1]?=some (r[i+1]'i1):=K0 _;refine⟨_,rfl,_,rfl,p,_,_,_,rfl,rfl,.inl (.inl hp),vT (j:=i+1) (by lia) (HQ e1),_,rfl,_,rfl,_,_,rfl,rfl,p,_,_,_,rfl,rfl,.inl (.inl hp),vT (j:=i) (by show(1:Int)+(i:Int)-1=_;lia) (HQ e0),_,_,rfl,rfl,_,rfl,?_⟩;by_cases q:(r[i]'(by lia)).rank<(r[i+1]'i1).rank
    .rw[Y0 (show ¬(((r[i+1]'i1).rank:Nat):Int)<=(((r[i]'(by lia)).rank:Nat):Int) by lia)];refine a8 ⟨_,rfl,rfl,λn u v hn hu hv=>?_⟩;by_cases e:n=i
     .subst e;rw[e0]at hu;rw[e1]at hv;obtain rfl:=M0 hu;obtain rfl:=M0 hv;exact q
     .exact all n u v (by lia) hu hv
    .rw[F1 (show(((r[i+1]'i1).rank:Nat):Int)<=(((r[i]'(by lia)).rank:Nat):Int) by lia)];have no:¬inOrder r=true:=λz=>q (io.mp z i _ _ e0 e1);rw[D0 no]at k;exact C7 (N4 T (k.same iH))
   .rintro σ H' ⟨v,rfl,rfl,all⟩;have yes:inOrder r=true:=io.mpr λn u v hu hv=>all n u v (by have:=(P0.mp hv).1;lia) hu hv;rw[J0 yes]at k;exact⟨_,rfl,k _ p iH (s1.free np) hp⟩
theorem BW(T:vA Kq k9 aq):Fo Pq wq bq true T.mB 4 (zcf Kq aq.A2):=by
 refine T.mB.F.kk T.mB.S λH vs Q E h=>?_;obtain⟨l,x,rfl,hS,hl,k⟩:=h;refine⟨rfl,λhr=>?_⟩;have zl:=BM;unfold Ub at k;refine⟨_,(T0 (c7 (W3 MQ (NS T.wB (MC T.zA (eM T) hr (F0 (pv 0) Z0))) (XF T.nV) (V3 _)) (X0 (pV T O1 hr.mo (XF T.bD))) U4)
  (T0 (FC 1 T.mB.S (MC T.F9 (nP T) hr (F0 (pv 0) Z0)))
  (T0 (c7 (yG (cD (NA (mT rfl) rfl T.Oe xU (F0 (GC O1 rfl rfl (own:=[("piece",2)]) rfl T.mB.S.nd (FP (pv 1)) (bW ["field","pieces","piece"] (X3 EO) [("piece",2)]) (λtk=>(wE 2 T.mB.S)) (λtk=>Y9) (λtk=>(FA (xV (K:=Kq) rfl) (pv 2) (LD (F0 (XF T.qZ) (F0 (XF T.Je) Z0))) rfl))) Z0)))) (X0 (pV T O1 hr.mo (XF T.ZG))) U4)
  (X0 (Q3 (pv 1)))))),?_⟩
 refine⟨_,rfl,l,x,rfl,hS,hl,?_⟩;cases hc:XV x with
 |error e=>
  rw[hc]at k;exact k
 |ok y=>
  rw[hc]at k;obtain rfl:x=y:=by
   unfold XV at hc;by_cases q:x=[]\/x.all isBig=false
   .rw[J0 q]at hc;cases hc
   .rw[D0 q]at hc;exact Z2 hc
  dsimp only at k;intro H1 s1;refine⟨l,_,rfl,.inl (s1.seq hS),_,_,rfl,rfl,_,rfl,?_⟩;rw[FB];by_cases q8:8<x.length
  .rw[J0 q8]at k;rw[F1 (show(8:Int)<(x.length:Int) by lia)];exact C7 (N4 T (k.same s1))
  rw[D0 q8]at k;rw[Y0 (show ¬(8:Int)<(x.length:Int) by lia)];refine a8 ⟨_,rfl,l,x,rfl,s1.seq hS,hl,?_⟩;unfold lettersOf at k;cases oK:readRow x with
  |none=>
   rw[oK]at k;exact k.same s1
  |some r=>
   rw[oK,F4]at k;dsimp only;intro H2 p s2 np hp;have iH:=s1.trans s2;have rl:=readRow_len oK;refine⟨_,rfl,p,rfl,⟨_,.inl (.inl hp)⟩,λD hD=>yY (K:=Kq) (a:=p) (xs:=(rI r).map V.int) (λi H'=>Same H2 H'/\H' D=some (.lst (((r.take i).map λu=>!u.isCut).map V.bl))) ⟨(Same.refl _).new hD,C0⟩ (by rintro i H' _ ⟨s,_⟩;exact .inl (.inl (s _ _ hp))) ?_ ?_⟩
   .rintro i v H' hi ⟨s3,hD3⟩;have il:i<r.length:=by
     have:=(P0.mp hi).1;rw[W9]at this;exact this
    have e0:r[i]?=some r[i]:=K0 il;rw[HQ e0]at hi;obtain rfl:=M0 hi;refine⟨rfl,_,rfl,(by show 2<=sizeLine;decide),λt nt=>?_⟩;have Sz:upd H' t (.tup [.int 0,.int 1]) D=some (.lst (((r.take i).map λu=>!u.isCut).map V.bl)):=by rw[N0 (C1 hD3 nt)];exact hD3
    refine⟨t,([0,1]:List Int).map V.int,rfl,.inr (.inl (.inl C0)),rfl,GQ _,?_⟩;rw[D0 (by decide),Ef];have ec:([0,1]:List Int).contains (((r[i].rank:Nat):Int))=!r[i].isCut:=by
     cases r[i]<;>decide
    rw[ec];refine⟨_,Sz,(by rw[B0,B0,Z1];lia),(s3.new nt).set hD,?_⟩;rw[C0,T3 e0,U0,U0];rfl
   .rintro H3 ⟨s3,hD3⟩;rw[W9,Y1]at hD3;refine⟨D,r.map λu=>!u.isCut,rfl,SqL.of hD3,_,rfl,?_⟩;rw[TD];have s13:=iH.trans s3;cases ha:r.all (id ∘ λu=>!u.isCut)with
    |false=>
     rw[D0 (λz=>by have z':(r.all λ(p:Piece)=>!p.isCut)=true:=z;rw[show(r.all λ(p:Piece)=>!p.isCut)=false from ha]at z';cases z')]at k;exact C7 (N4 T (k.same s13))
    |true=>
     rw[J0 (show(r.all λ(p:Piece)=>!p.isCut)=true from ha)]at k;exact a8 ⟨_,rfl,k _ p s13 (s1.free np) (s3 _ _ hp)⟩
theorem Ik(tk lap most:Nat)(mk pp:Addr):CG "taken" (.int ((tk:Int)+1)) (brF tk lap most mk pp)=brF (tk+1) lap most mk pp:=by
 show[(("taken": Str),V.int ((tk:Int)+1)),("lap",.int lap),("most",.int most),("makes",.ref mk),("patterns",.ref pp)]=[(("taken": Str),V.int (((tk+1:Nat):Nat):Int)),("lap",.int lap),("most",.int most),("makes",.ref mk),("patterns",.ref pp)];rw[show(tk:Int)+1=((tk+1:Nat):Int) by lia]
theorem pP(T:vA Kq k9 aq){D:eL}{r:Addr}{tk most:Nat}(hσ:σ[0]?=some (some (.ref r))) (ob:H r=some (.ins aq.P4 dx (brF tk lap most mk pp)))
 (k:D.nx σ (upd H r (.ins aq.P4 dx (brF (tk+1) lap most mk pp)))):Pl Kq (aG 0) (tC (.int 1)) zc4 "taken" D σ H:=by
  refine⟨_,hσ,r,_,dx,_,_,rfl,ob,T.N3.c,T.Q8,rfl,_,_,rfl,rfl,dx,_,ob,(by show 5<1000;decide),?_⟩;rw[Ik];exact k
theorem jK(T:vA Kq k9 aq):Mo k9 Pq wq bq true T.F8 1 (Gf Kq aq.P4):=by
 refine T.F8.F.kk T.F8.S λH vs Q E h=>?_;obtain⟨r,dx,rfl,hp,k⟩:=h;refine⟨rfl,λhr=>?_⟩;refine⟨_,(T0 (D6 (pv 0) O2 rfl)
  (T0 (D6 (pv 0) O2 rfl)
  (T0 (D6 (pv 0) O2 rfl)
  (T0 (D6 (pv 0) (LD Z0) rfl)
  (X0 (D6 (pv 0) (d6 Z0) rfl)))))),?_⟩
 refine⟨_,rfl,r,_,dx,_,rfl,hp,T.N3.c,T.Q8,(by show 0<1000;decide),?_⟩;refine⟨_,rfl,r,_,dx,_,rfl,C0,T.N3.c,T.eF,(by show 1<1000;decide),?_⟩;rw[Y4];refine⟨_,rfl,r,_,dx,_,rfl,C0,T.N3.c,T.KB,(by show 2<1000;decide),?_⟩;rw[Y4];refine⟨D1 _,λmk nmk=>?_⟩;have rm:r≠mk:=C1 C0 nmk;have zjz:H mk=none:=by
  rw[N0 (N2 rm)]at nmk;exact nmk
 refine⟨_,rfl,r,_,dx,_,rfl,by rw[N0 rm];exact C0,T.N3.c,T.wD,(by show 3<1000;decide),?_⟩;refine⟨D1 _,λpp npp=>?_⟩;have rp:r≠pp:=C1 C0 npp;rw[N0 (N2 rp)]at npp;have mp:mk≠pp:=λe=>by
  rw[<-e,C0]at npp;cases npp
 rw[N0 (N2 mp),N0 (N2 rp)]at npp;refine⟨_,rfl,r,_,dx,_,rfl,by rw[N0 rp];exact C0,T.N3.c,T.K8,(by show 4<1000;decide),?_⟩;refine k _ [r,pp] (λb o e br=>?_) ⟨dx,mk,pp,[],rfl,?_,.inl (.inl ?_),?_,.nil,rp,by decide,by decide,by decide⟩ ?_
 .rw[N0 br,N0 (C1 e npp),N0 br,N0 (C1 e zjz),N0 br];exact e
 .rw[C0];rfl
 .rw[N0 (N2 rm),N0 mp,N0 (N2 rm),C0];rfl
 .rw[N0 (N2 rp),C0];rfl
 .intro x hx;simp only[S1,aB,cM]at hx;rcases hx with rfl|rfl
  .exact .inl rfl
  .exact .inr npp
theorem mH(T:vA Kq k9 aq):Mo k9 Pq wq bq true T.b6 5 (oP Kq aq.P4 aq.A2):=by
 refine T.b6.F.kk T.b6.S λH vs Q E h=>?_;obtain⟨r,l,dx,mk,pp,ps,s,x,rfl,U,hS,hl,k⟩:=h;refine⟨rfl,λhr=>?_⟩;have zl:=BM;have lp:=J1 U.ps;rw[B0]at lp;have c8:=U.c8;refine⟨_,(T0 (FC 2 T.b6.S (MC T.mB (BW T) hr (F0 (pv 1) Z0)))
  (T0 (c7 (W3 AC (NS T.wB (U2 (pv 0) rfl)) (XF T.mV) (V3 _)) (X0 (pV T O1 hr.mo (XF T.fV))) U4)
  (X0 (n6 (BD j2 j3 o3 K9 (U2 (pv 0) rfl) (F0 (pv 2) Z0)))))),?_⟩
 refine⟨_,rfl,l,x,rfl,hS,hl,?_⟩;cases hp:Ub x with
 |error e=>
  rw[hp]at k;exact k
 |ok p=>
  rw[hp]at k;dsimp only at k ⊢;intro H1 q s1 nq hq;have U1:=U.keep s1;refine⟨_,rfl,r,_,dx,_,_,rfl,U1.ob,T.N3.c,T.K8,rfl,pp,_,rfl,.inl (SqL.of U1.pt),rfl,_,rfl,?_⟩;rw[B0,lp];by_cases q8:8<=s.2.courses.length
  .rw[J0 q8]at k;rw[F1 (show V.int s.2.courses.length=V.int 8 by rw[show s.2.courses.length=8 by lia];rfl)];exact C7 (N4 T (k.same s1))
  .rw[D0 q8]at k;rw[Y0 (show ¬V.int s.2.courses.length=V.int 8 from λz=>q8 (by have:=V.int.inj z;lia))];refine a8 ⟨_,rfl,r,_,dx,_,_,rfl,U1.ob,T.N3.c,T.K8,rfl,.inl ⟨rfl,_,SqL.of U1.pt⟩,_,rfl,pp,_,_,rfl,rfl,U1.pt,(by rw[B0];lia),?_⟩;refine k _ q (λb o e n=>by rw[N0 n];exact s1 b o e) ⟨?_,?_,?_,?_,U.rp,?_,U.b1,U.b2⟩
   .rw[N0 U.rp];exact U1.ob
   .rcases U1.mks with(h|⟨o,h⟩)|h
    .exact .inl (.inl (by rw[N0 (jF h U1.pt (by intro z;cases z))];exact h))
    .exact .inl (.inr ⟨o,by rw[N0 (jF h U1.pt (by intro z;cases z))];exact h⟩)
    .exact .inr h
   .rw[C0,U0];rfl
   .dsimp only;rw[U0];exact B4 (NB.upd U1.ps U1.pt) (by rw[N0 (jF hq U1.pt (by intro z;cases z))];exact hq)
   .show(s.2.courses++[p]).length<=8;simp
    lia
theorem nJ(T:vA Kq k9 aq):Mo k9 Pq wq bq true T.g8 3 (jP (BR Kq aq.P4) oO aq.A2):=by
 refine T.g8.F.kk T.g8.S λH vs Q E h=>?_;obtain⟨r,l,X,s,line,rfl,⟨dx,mk,pp,ps,rfl,U⟩,hL,hl,k⟩:=h;refine⟨rfl,λhr=>?_⟩;have lp:=J1 U.ps;rw[B0]at lp;refine⟨_,(X0 (c7 (PW.pt (VS (W3 (Oh hr.units) (pv 1) (d6 Z0) (V3 _)) (UM (W3 (Ew hr.units0) (U2 (pv 0) rfl) (d6 Z0) (V3 _))))) (X0 (pV T O1 hr.mo (XF T.K7))) U4)),?_⟩;unfold oO at k;dsimp only[pH,qK,IR,QV]at k ⊢;refine tV (x:=!decide (line=[])) (y:=s.2.courses.isEmpty) (λH6=>Same H H6) (λR r'=>?_) (λ_ H6 s6 R r'=>?_) λH6 s6=>?_
 .refine⟨_,rfl,D1 _,λp1 n1=>?_⟩;have s1:Same H (upd H p1 (.lst [])):=(Same.refl _).new n1;refine⟨_,_,yK (SqL.of (s1 _ _ hL)),yK (b:=[]) (SqL.of C0),oA _,oA _,_,rfl,?_⟩;rw[CQ];exact r' _ s1
 .have U6:=U.keep s6;refine⟨_,rfl,r,_,dx,_,_,rfl,U6.ob,T.N3.c,T.K8,rfl,D1 _,λq nq=>⟨pp,q,ps.map V.ref,rfl,rfl,SqL.of (by rw[N0 (C1 U6.pt nq)];exact U6.pt),SqL.of C0,_,rfl,?_⟩⟩;have ei:(ps.map V.ref).isEmpty=s.2.courses.isEmpty:=by
   cases ps with
   |nil=>cases h:s.2.courses with
    |nil=>rfl
    |cons _ _=>rw[h]at lp;cases lp
   |cons _ _=>cases h:s.2.courses with
    |nil=>rw[h]at lp;cases lp
    |cons _ _=>rfl
  rw[ei];exact r' _ (s6.new nq)
 .by_cases q:line≠[]\/s.2.courses=[]
  .rw[J0 q]at k;rw[show(!decide (line=[])||s.2.courses.isEmpty)=true by
    rw[Y3,P3,K5,List.isEmpty_iff];exact q]
   exact C7 (N4 T (k.same s6))
  .rw[D0 q]at k;rw[show(!decide (line=[])||s.2.courses.isEmpty)=false by
    rw[S4];intro z;rw[Y3,P3,K5,List.isEmpty_iff]at z;exact q z]
   exact a8 (k _ s6)
theorem CZ{r:Addr}{fs Az:List (Str×V)}{o:HO}(hr:H r=some (.ins C dx fs)) (hq:H q=some o) (n:∀C d f,o≠.ins C d f):upd H r (.ins C dx Az) q=some o:=by
 rw[N0 (λz=>by rw[z,hr]at hq;exact n _ _ _ (M0 hq).symm)];exact hq
theorem Wn.set{K:Frag}{r mk':Addr}{s s':BS}(U:Wn K CB H r dx mk pp ps s) (hm:eA K H mk' ((rI s'.2.makes).map V.int)) (hc:s'.2.courses=s.2.courses) (b1:s'.2.lap<=3) (b2:s'.2.most<=2) :
  Wn K CB (upd H r (.ins CB dx (brF s'.1 s'.2.lap s'.2.most mk' pp))) r dx mk' pp ps s':=by
 have tp:∀{q:Addr}{xs:List V},H q=some (.tup xs)->upd H r (.ins CB dx (brF s'.1 s'.2.lap s'.2.most mk' pp)) q=some (.tup xs):=λe=>CZ U.ob e λ_ _ _ z=>nomatch z;refine⟨C0,?_,CZ U.ob U.pt (λ_ _ _ z=>nomatch z),?_,U.rp,(by rw[hc];exact U.c8),b1,b2⟩
 .rcases hm with(h|⟨o,h⟩)|h
  .exact .inl (.inl (tp h))
  .exact .inl (.inr ⟨o,CZ U.ob h (λ_ _ _ z=>nomatch z)⟩)
  .exact .inr h
 .rw[hc];exact Paired.mapP U.ps λq ms e=>tp e
theorem Cy{x:Bytes}{lo hi:Nat}(h:wM x lo hi=.ok n):n<=hi:=by
 unfold wM at h;by_cases q:x.length≠1
 .rw[J0 q]at h;cases h
 .rw[D0 q]at h;unfold JJ at h;cases hn:readNumber x with
  |none=>rw[hn]at h;cases h
  |some m=>
   rw[hn]at h;dsimp only at h;by_cases z:m<lo\/hi<m
   .rw[J0 z]at h;cases h
   .rw[D0 z]at h;obtain rfl:=Z2 h
    lia
def bdF(lap most:Nat)(mk pp:Addr):List (Str×V):=[("lap",.int lap),("most",.int most),("makes",.ref mk),("patterns",.ref pp)]
structure lI(K:Frag)(C:Addr)(H:Hp)(p dx mk pp:Addr)(ps:List Addr)(b:Bond):Prop where
 ob:H p=some (.ins C dx (bdF b.lap b.most mk pp))
 mks:eA K H mk ((rI b.makes).map V.int)
 pt:H pp=some (.lst (ps.map V.ref))
 ps:NB H ps (b.courses.map rI)
 c8:b.courses.length<=8
 b1:b.lap<=3
 b2:b.most<=2
def zd1(K:Frag)(C:Addr)(H:Hp)(p:Addr)(b:Bond):Prop:=∃(dx mk pp:Addr)(ps:List Addr),lI K C H p dx mk pp ps b
theorem lI.same{K:Frag}(k:Same H H') (U:lI K C H p dx mk pp ps b):lI K C H' p dx mk pp ps b:=⟨k _ _ U.ob,k.tup U.mks,k _ _ U.pt,NB.same k U.ps,U.c8,U.b1,U.b2⟩
inductive yV(C:Addr)(vs:List V)(H:Hp)(Q:VK)(E':XK):Prop
 |mk (p dx:Addr) (v0 v1 v2 v3:V):vs=[.ref p,v0,v1,v2,v3]->H p=some (.ins C dx [])->(∀H':Hp,H' p=some (.ins C dx [("lap",v0),("most",v1),("makes",v2),("patterns",v3)])->(∀b,b≠p->H' b=H b)->Q .non H')->yV C vs H Q E'
inductive zV(K:Frag)(C CF:Addr)(vs:List V)(H:Hp)(Q:VK)(E:XK):Prop
 |mk (l:Addr) (t:Bytes):vs=[.ref l]->SqL K H l (iB t)->t.length<=6000->(match oR t with
 |.error e=>Yx CF E H e.1 e.2
 |.ok s=>∀(H':Hp)(p:Addr),Same H H'->zd1 K C H' p s.2->Q (.ref p) H')->zV K C CF vs H Q E
theorem CN(T:vA Kq k9 aq):Mo k9 Pq wq bq true T.xA 6 (iP (BR Kq aq.P4) CA aq.A2):=by
 refine T.xA.F.kk T.xA.S λH vs Q E h=>?_;obtain⟨r,l,X,s,line,rfl,⟨dx,mk,pp,ps,rfl,U⟩,hL,nl,hl,k⟩:=h;refine⟨rfl,λhr=>?_⟩;have zl:=BM;have nl1:l≠r:=λz=>nl (by simp[z]);refine⟨_,(T0 (c7 (W3 AC (U2 (pv 0) rfl) O2 (V3 _)) (X0 (n6 (MC T.bF (sV T) hr (F0 (MC T.j7 (pA T) hr (F0 SS (F0 (pv 1) Z0))) Z0)))) (X0 (c7 (W3 AC (U2 (pv 0) rfl) O2 (V3 _)) (X0 (D6 (pv 0) (MC T.sB (mJ T) hr (F0 (MC T.j7 (pA T) hr (F0 SS (F0 (pv 1) Z0))) (F0 O2 (F0 (XF T.Zj) Z0)))) rfl)) (X0 (c7 (W3 AC (U2 (pv 0) rfl) O2 (V3 _)) (X0 (D6 (pv 0) (MC T.sB (mJ T) hr (F0 (MC T.j7 (pA T) hr (F0 SS (F0 (pv 1) Z0))) (F0 O2 (F0 (XF T.Le) Z0)))) rfl)) (X0 (c7 (PW.pt (US (W3 AC (U2 (pv 0) rfl) O2 (V3 _)) (JN (W3 MQ (U2 (pv 0) rfl) O2 (V3 _))))) (X0 (D6 (pv 0) (MC T.cF (Hf T) hr (F0 (MC T.j7 (pA T) hr (F0 SS (F0 (pv 1) Z0))) Z0)) rfl)) (X0 (n6 (MD (pv 0) T.N3.c T.b6.M (mH T) hr.mo T.b6.b .nil O1.passes (F0 (MC T.j7 (pA T) hr (F0 SS (F0 (pv 1) Z0))) Z0)))))))))))
  (X0 (JP (pv 0) O2 Fh))),?_⟩
 have fin:∀{H':Hp}{mk':Addr}{ps':List Addr}{b':Bond},CA s line=.ok (s.1+1,b')->(∀b o,H b=some o->b∉[r,pp]->H' b=some o)->Wn Kq aq.P4 H' r dx mk' pp ps' (s.1,b')->
   Q .non (upd H' r (.ins aq.P4 dx (brF (s.1+1) b'.lap b'.most mk' pp))):=λ{H' mk' ps' b'} e f V=>by
  rw[e]at k;exact k _ [r,pp] (λb o z n=>by rw[N0 (λq=>n (by simp[q]))];exact f b o z n) ⟨dx,mk',pp,ps',rfl,Wn.set (s':=(s.1+1,b')) V V.mks rfl V.b1 V.b2⟩ λx hx=>.inl hx
 have Zk:∀{H':Hp}{kk:Nat},CA s line=.error kk->Same H H'->LB aq.A2 E H' kk:=λe s'=>by
  rw[e]at k;exact k.same s'
 have off:∀{H':Hp},Same H H'->∀b o,H b=some o->b∉[r,pp]->H' b=some o:=λs' b o e _=>s' b o e;have zeu:∀{H':Hp}{o':HO},Same H H'->∀b o,H b=some o->b∉[r,pp]->upd H' r o' b=some o:=λs' b o e n=>by
  rw[N0 (λq=>n (by simp[q]))];exact s' b o e
 refine⟨_,rfl,r,_,dx,_,_,rfl,U.ob,T.N3.c,T.Q8,rfl,rfl,_,rfl,?_⟩;by_cases t0:s.1=0
 .rw[F1 (show V.int s.1=V.int 0 by rw[t0];rfl)];have st:CA s line=(HN "bond" line yH).map λn=>(s.1+1,{s.2 with name:=n}):=by
   unfold CA;rw[J0 t0,t0]
  refine C7 ⟨_,rfl,"bond",l,ascii "bond",line,rfl,(by decide),(by decide),SqL.of hL,hl,?_⟩;unfold HN at st;cases ho:GK (ascii "bond") line with
  |none=>
   rw[ho]at st;exact Zk st (Same.refl _)
  |some x=>
   rw[ho]at st;dsimp only at st;intro H1 p s1 np hp Yg;refine⟨p,x,rfl,SqL.of hp,Yg,?_⟩;cases hn:yH x with
   |error e=>
    rw[hn]at st;exact Zk st s1
   |ok n=>
    rw[hn]at st;intro H2 s2;have iH:=s1.trans s2;have V:=U.keep iH;exact pP T rfl V.ob (fin (mk':=mk) (ps':=ps) (b':={s.2 with name:=n}) st (off iH) ⟨V.ob,V.mks,V.pt,V.ps,V.rp,V.c8,V.b1,V.b2⟩)
 rw[Y0 (show ¬V.int s.1=V.int 0 from λz=>t0 (by have:=V.int.inj z;lia))];refine a8 ⟨_,rfl,r,_,dx,_,_,rfl,U.ob,T.N3.c,T.Q8,rfl,rfl,_,rfl,?_⟩;by_cases t1:s.1=1
 .rw[F1 (show V.int s.1=V.int 1 by rw[t1];rfl)];have st:CA s line=(HN "lap" line λx=>wM x 1 3).map λn=>(s.1+1,{s.2 with lap:=n}):=by
   unfold CA;rw[D0 t0,J0 t1,t1]
  refine C7 ⟨_,rfl,"lap",l,ascii "lap",line,rfl,(by decide),(by decide),SqL.of hL,hl,?_⟩;unfold HN at st;cases ho:GK (ascii "lap") line with
  |none=>
   rw[ho]at st;exact Zk st (Same.refl _)
  |some x=>
   rw[ho]at st;intro H1 p s1 np hp Yg;refine⟨p,x,1,3,rfl,SqL.of hp,Yg,?_⟩;dsimp only at st;cases hn:wM x 1 3 with
   |error e=>
    rw[hn]at st;exact Zk st s1
   |ok n=>
    rw[hn]at st;intro H2 s2;have iH:=s1.trans s2;have V:=U.keep iH;have W:=Wn.set (s':=(s.1,{s.2 with lap:=n})) V V.mks rfl (Cy hn) V.b2;refine⟨_,rfl,r,_,dx,_,rfl,V.ob,T.N3.c,T.eF,(by show 5<1000;decide),?_⟩;exact pP T rfl W.ob (fin (mk':=mk) (ps':=ps) st (zeu iH) W)
 rw[Y0 (show ¬V.int s.1=V.int 1 from λz=>t1 (by have:=V.int.inj z;lia))];refine a8 ⟨_,rfl,r,_,dx,_,_,rfl,U.ob,T.N3.c,T.Q8,rfl,rfl,_,rfl,?_⟩;by_cases t2:s.1=2
 .rw[F1 (show V.int s.1=V.int 2 by rw[t2];rfl)];have st:CA s line=(HN "most" line λx=>wM x 0 2).map λn=>(s.1+1,{s.2 with most:=n}):=by
   unfold CA;rw[D0 t0,D0 t1,J0 t2,t2]
  refine C7 ⟨_,rfl,"most",l,ascii "most",line,rfl,(by decide),(by decide),SqL.of hL,hl,?_⟩;unfold HN at st;cases ho:GK (ascii "most") line with
  |none=>
   rw[ho]at st;exact Zk st (Same.refl _)
  |some x=>
   rw[ho]at st;intro H1 p s1 np hp Yg;refine⟨p,x,0,2,rfl,SqL.of hp,Yg,?_⟩;dsimp only at st;cases hn:wM x 0 2 with
   |error e=>
    rw[hn]at st;exact Zk st s1
   |ok n=>
    rw[hn]at st;intro H2 s2;have iH:=s1.trans s2;have V:=U.keep iH;have W:=Wn.set (s':=(s.1,{s.2 with most:=n})) V V.mks rfl V.b1 (Cy hn);refine⟨_,rfl,r,_,dx,_,rfl,V.ob,T.N3.c,T.KB,(by show 5<1000;decide),?_⟩;exact pP T rfl W.ob (fin (mk':=mk) (ps':=ps) st (zeu iH) W)
 rw[Y0 (show ¬V.int s.1=V.int 2 from λz=>t2 (by have:=V.int.inj z;lia))];refine a8 ?_;dsimp only[pH,qK,IR,QV];refine tZ (x:=decide (s.1=3)) (y:=decide (0<s.2.most)) (λR r'=>⟨_,rfl,r,_,dx,_,_,rfl,U.ob,T.N3.c,T.Q8,rfl,rfl,_,rfl,?_⟩) (λ_ R r'=>⟨_,rfl,r,_,dx,_,_,rfl,U.ob,T.N3.c,T.KB,rfl,_,_,rfl,rfl,_,rfl,?_⟩) ?_
 .rw[show decide (V.int s.1=V.int 3)=decide (s.1=3)from S3.mpr ⟨λq=>by have:=V.int.inj q;lia,λq=>by rw[q];rfl⟩];exact r'
 .rw[show decide ((0:Int)<(s.2.most:Int))=decide (0<s.2.most)from S3.mpr (by lia)];exact r'
 by_cases t3:s.1=3/\0<s.2.most
 .rw[show(decide (s.1=3)&&decide (0<s.2.most))=true by rw[E1,O0,O0];exact t3];have st:CA s line=(HN "makes" line dN).map λm=>(s.1+1,{s.2 with makes:=m}):=by
   unfold CA;rw[D0 t0,D0 t1,D0 t2,J0 t3,t3.1]
  refine C7 ⟨_,rfl,"makes",l,ascii "makes",line,rfl,(by decide),(by decide),SqL.of hL,hl,?_⟩;unfold HN at st;cases ho:GK (ascii "makes") line with
  |none=>
   rw[ho]at st;exact Zk st (Same.refl _)
  |some x=>
   rw[ho]at st;dsimp only at st;intro H1 p s1 np hp Yg;refine⟨p,x,rfl,SqL.of hp,Yg,?_⟩;cases hn:dN x with
   |error e=>
    rw[hn]at st;exact Zk st s1
   |ok m=>
    rw[hn]at st;intro H2 q s2 nq hq;have iH:=s1.trans s2;have V:=U.keep iH;have W:=Wn.set (mk':=q) (s':=(s.1,{s.2 with makes:=m})) V (.inl (.inl hq)) rfl V.b1 V.b2;refine⟨_,rfl,r,_,dx,_,rfl,V.ob,T.N3.c,T.wD,(by show 5<1000;decide),?_⟩;exact pP T rfl W.ob (fin (mk':=q) (ps':=ps) st (zeu iH) W)
 .rw[show(decide (s.1=3)&&decide (0<s.2.most))=false by
   rw[S4];intro z;rw[E1,O0,O0]at z;exact t3 z]
  have st:=pO (s:=s) (x:=line) (by lia) t3;refine a8 ⟨_,rfl,r,dx,_,rfl,U.ob,rfl,_,rfl,"course",l,ascii "course",line,rfl,(by decide),(by decide),SqL.of hL,hl,?_⟩;unfold HN at st;cases ho:GK (ascii "course") line with
  |none=>
   rw[ho]at st;exact Zk st (Same.refl _)
  |some x=>
   rw[ho]at st;dsimp only at st;intro H1 p s1 np hp Yg;have V:=U.keep s1;refine⟨r,p,dx,mk,pp,ps,s,x,rfl,V,SqL.of hp,Yg,?_⟩;cases hn:Ub x with
   |error e=>
    rw[hn]at st;exact Zk st s1
   |ok m=>
    rw[hn]at st;dsimp only at st ⊢;by_cases q8:8<=s.2.courses.length
    .rw[J0 q8]at st ⊢;exact Zk st s1
    .rw[D0 q8]at st ⊢;intro H2 q f2 W;exact pP T rfl W.ob (fin (mk':=mk) (ps':=ps++[q]) st (λb o e n=>f2 b o (s1 b o e) λz=>n (by simp[z])) W)
theorem IQ(T:vA Kq k9 aq):Mo k9 Pq wq bq true T.uB 1 (yV aq.tD):=by
 refine T.uB.F.kk T.uB.S λH vs Q E h=>?_;obtain⟨p,dx,v0,v1,v2,v3,rfl,hp,k⟩:=h;refine⟨rfl,λhr=>?_⟩;refine⟨_,(T0 (D6 (pv 0) (pv 1) rfl)
  (T0 (D6 (pv 0) (pv 2) rfl)
  (T0 (D6 (pv 0) (pv 3) rfl)
  (X0 (D6 (pv 0) (pv 4) rfl))))),?_⟩
 refine⟨_,rfl,_,rfl,p,_,dx,_,rfl,hp,T.nE.c,T.zN,(by show 0<1000;decide),?_⟩;refine⟨_,rfl,_,rfl,p,_,dx,_,rfl,C0,T.nE.c,T.jR,(by show 1<1000;decide),?_⟩;rw[Y4];refine⟨_,rfl,_,rfl,p,_,dx,_,rfl,C0,T.nE.c,T.VO,(by show 2<1000;decide),?_⟩;rw[Y4];refine⟨_,rfl,_,rfl,p,_,dx,_,rfl,C0,T.nE.c,T.MF,(by show 3<1000;decide),?_⟩;rw[Y4];exact k _ C0 λb hb=>N0 hb
theorem DZ(T:vA Kq k9 aq):Fo Pq wq bq true T.uF 14 (zV Kq aq.tD aq.V4):=by
 have iK:EA Pq wq Kq k9 bq (MR Pq wq) true 13 aq.iG aq.jG ["text","reader"] (QS Kq (BR Kq aq.P4) CA oO aq.V4):=
  NM T T.N3.c T.xA.M T.g8.M T.xA.b T.g8.b (CN T) (nJ T) (by decide) (by decide) BR.obj BR.keep
 refine T.uF.F.kk T.uF.S λH vs Q E h=>?_;obtain⟨l,t,rfl,hS,hl,k⟩:=h;refine⟨rfl,λhr=>?_⟩;refine⟨_,(T0 (FC 1 T.uF.S (Ia (T.N3.k0 T.F8) (jK T) hr.mo rfl T.N3.m T.F8.b .nil O1.passes))
  (T0 (n6 (MC T.p9 iK hr (F0 (pv 0) (F0 (pv 1) Z0))))
  (X0 (Q3 (kM (T.nE.k0 T.uB) (IQ T) hr.mo rfl T.nE.m T.uB.b .nil O1.passes (F0 (U2 (pv 1) rfl) (F0 (U2 (pv 1) rfl) (F0 (U2 (pv 1) rfl) (F0 (U2 (pv 1) rfl) Z0))))))))),?_⟩
 refine λr dx nr Uz ndr=>⟨r,dx,rfl,C0,λH1 X f1 W0 fr=>⟨rfl,?_⟩⟩
 have s1:Same H H1:=λb o e=>f1 b o (by rw[N0 (C1 e nr),N0 (C1 e Uz)];exact e) (C1 e nr);have nX:∀x∈X,H x=none:=λx hx=>by
  rcases fr x hx with e|e
  .rw[e];exact nr
  .by_cases q:x=r
   .rw[q];exact nr
   .rw[N0 q]at e;by_cases q2:x=dx
    .rw[q2];exact Uz
    .rw[N0 q2]at e;exact e
 have Wz:∀{b:Addr}{o:HO},H b=some o->b∉X:=λe m=>by
  rw[nX _ m]at e;cases e
 refine⟨_,rfl,_,rfl,l,r,X,_,t,rfl,s1.seq hS,hl,W0,W0.has,?_⟩;unfold oR at k;cases hb:JG CA oO (0,FE) (fl 10 t)with
 |error e=>
  rw[hb]at k;exact λfr d q H' m e1 e2=>k fr d q H' (λb o e n=>m b o (s1 b o e) (Wz e) n) e1 e2
 |ok s=>
  rw[hb]at k;intro H2 X2 f2 W2 hX2;have s2:Same H H2:=λb o e=>f2 b o (s1 b o e) (Wz e);obtain⟨Yk,mk,pp,ps,rfl,U⟩:=W2;refine⟨_,rfl,r,_,Yk,_,_,rfl,U.ob,T.N3.c,T.eF,rfl,_,rfl,r,_,Yk,_,_,rfl,U.ob,T.N3.c,T.KB,rfl,_,rfl,r,_,Yk,_,_,rfl,U.ob,T.N3.c,T.wD,rfl,_,rfl,r,_,Yk,_,_,rfl,U.ob,T.N3.c,T.K8,rfl,λxb db nx ndb dxx=>⟨xb,db,_,_,_,_,rfl,C0,λH7 e7 kp=>⟨rfl,?_⟩⟩⟩;have s7:Same H2 H7:=λb o e=>by
   have q1:b≠xb:=C1 e nx;have q2:b≠db:=C1 e ndb;rw[kp b q1,N0 q1,N0 q2];exact e
  have V:=U.keep s7;exact k H7 xb (s2.trans s7) ⟨db,mk,pp,ps,e7,V.mks,V.pt,V.ps,V.c8,V.b1,V.b2⟩
theorem qP(p:Piece):([.int 4,.int 2,.int 3,.int 2,.int 1]:List V)[p.rank]?=some (.int p.length):=by cases p<;>rfl
theorem AV(h:((rI r).map V.int)[i]?=some v):∃p,r[i]?=some p/\v=.int p.rank:=by
 unfold rI at h;rw[B3,P1]at h;cases e:r[i]? with
 |none=>rw[e]at h;cases h
 |some p=>rw[e]at h;exact⟨p,rfl,(M0 h).symm⟩
def DN(r:Bd.Row)(i:Nat):List Nat:=(List.range i).map λj=>lengthOf (r.take (j+1))
theorem Jf(r:Bd.Row)(i:Nat):DN r (i+1)=DN r i++[lengthOf (r.take (i+1))]:=by
 unfold DN;rw[jA,U0];rfl
theorem wR:∀(x:Nat)(r:Bd.Row),jointsFrom x r=(List.range (r.length-1)).map λj=>x+lengthOf (r.take (j+1))
 |x,[]=>rfl
 |x,[p]=>rfl
 |x,p::q::r=>by
  show(x+p.length)::jointsFrom (x+p.length) (q::r)=_;rw[wR (x+p.length) (q::r)];show _=(List.range (r.length+1)).map _;rw[lB,L3,B3];congr 1;refine b7 λj _=>?_;show x+p.length+lengthOf ((q::r).take (j+1))=x+(p.length+lengthOf ((q::r).take (j+1)))
  lia
theorem Ls(r:Bd.Row):jointsOf r=DN r (r.length-1):=by
 unfold jointsOf DN;rw[wR];refine b7 λj _=>?_
 lia
theorem ZX(l:List Nat)(x:Nat):bitsOf (l++[x])=bitsOf l|||2^x:=by
 unfold bitsOf;rw[lE];rfl
theorem OM(r:Bd.Row)(p:Piece):lengthOf (r++[p])=lengthOf r+p.length:=by
 rw[Z3];rfl
theorem Kf(l:List V):vM l none (some (-1))=l.take (l.length-1):=by
 unfold vM;show(l.drop 0).take ((if (-1:Int)<0 then((-1:Int)+(l.length:Int)).toNat else min (-1:Int).toNat l.length)-0)=_;rw[J0 (by decide),zL];congr 1
 lia
inductive Lf(K:Frag)(vs:List V)(H:Hp)(Q:VK)(E':XK):Prop
 |mk (p:Addr) (r:Bd.Row):vs=[.ref p]->eA K H p ((rI r).map V.int)->lengthOf r<=1000->(∀H':Hp,Same H H'->Q (.int (bitsOf (jointsOf r))) H')->Lf K vs H Q E'
inductive Dy(vs:List V)(H:Hp)(Q:VK)(E':XK):Prop
 |mk (n lap:Nat):vs=[.int n,.int lap]->1<=lap->lap<=3->n<2^64->Q (.int (near lap n)) H->Dy vs H Q E'
inductive Xn(vs:List V)(H:Hp)(Q:VK)(E':XK):Prop
 |mk (j n lap:Nat):vs=[.int j,.int n,.int lap]->1<=lap->lap<=3->n<2^64->Q (.bl (decide (j&&&near lap n=0))) H->Xn vs H Q E'
def EN(n i:Nat):Nat:=(List.range i).foldl (λ(m d:Nat)=>m|||(n*2^d|||n/2^d)) 0
theorem xR(n i:Nat):EN n (i+1)=EN n i|||(n <<< i)|||(n >>> i):=by
 unfold EN;rw[jA,lE,SI,BC,Nat.or_assoc];rfl
theorem Jk(n:Nat):EN n 1=n:=by
 show 0|||(n*2^0|||n/2^0)=n;simp
theorem EZ(T:vA Kq k9 aq):Fo Pq wq bq true T.wA 1 (Lf Kq):=by
 refine T.wA.F.kk T.wA.S λH vs Q E h=>?_;obtain⟨p,r,rfl,oK,l1,k⟩:=h;refine⟨rfl,λhr=>?_⟩;refine⟨_,(T0 (FC 1 T.wA.S O2)
  (T0 (FC 2 T.wA.S O2)
  (T0 (t8 O1.po rfl (FP (QN zaU (pv 0) ES (FS (rK AG O2)))) (wE 3 T.wA.S) (T0 (psa 2 T.wA.S (P7 eD (HB (v:=.ref aq.lA) rfl T.iJ rfl) (pv 3) (λ_ _=>rfl)) mY)
  (X0 (FC 1 T.wA.S (X4 Ca (pv 1) (X4 aT O2 (pv 2)))))))
  (X0 (Q3 (pv 1)))))),?_⟩
 refine⟨_,rfl,1,rfl,-1,rfl,p,_,rfl,oK,λH1 q s1 hq=>?_⟩;rw[Kf,W9]at hq;have el:(((rI r).map V.int).take (r.length-1)).length=r.length-1:=by
  rw[Z1,W9]
  lia
 refine⟨q,rfl,⟨_,hq⟩,Fl (K:=Kq) (a:=q) (xs:=((rI r).map V.int).take (r.length-1)) (λi σ H'=>∃(v:Option V),σ=[some (.ref p),some (.int (bitsOf (DN r i))),some (.int (lengthOf (r.take i))),v]/\H'=H1) ⟨none,rfl,rfl⟩ (λi σ H' _ ⟨_,_,e⟩=>by rw[e];exact hq) ?_ ?_⟩
 .rintro i v σ H' hi ⟨v3,rfl,rfl⟩;have hi2:((rI r).map V.int)[i]?=some v:=by
   have il:=(P0.mp hi).1;rw[MH (by lia)]at hi;exact hi
  obtain⟨pc,hp,rfl⟩:=AV hi2;have e1:=T3 hp;have e2:lengthOf (r.take (i+1))=lengthOf (r.take i)+pc.length:=by rw[e1,OM]
  have le:lengthOf (r.take (i+1))<=lengthOf r:=by
   have z:=Z3 (r.take (i+1)) (r.drop (i+1));rw[Z9]at z
   lia
  refine⟨_,rfl,_,rfl,aq.lA,_,_,_,rfl,rfl,T.jJ _,X5 (qP pc),_,_,rfl,rfl,?_⟩;refine⟨_,rfl,_,rfl,_,_,rfl,rfl,?_,_,_,rfl,rfl,?_⟩
  .refine⟨?_,?_,by decide⟩
   .show(0:Int)<=(lengthOf (r.take i):Int)+(pc.length:Int)
    lia
   .show(lengthOf (r.take i):Int)+(pc.length:Int)<=1000000
    lia
  .refine⟨some (.int pc.rank),?_,rfl⟩;have c1:(lengthOf (r.take i):Int)+(pc.length:Int)=((lengthOf (r.take (i+1)):Nat):Int):=by rw[e2];lia
   show[some (V.ref p),some (V.int (Builtin.bitOr (bitsOf (DN r i):Int) ((1:Int)*2^((lengthOf (r.take i):Int)+(pc.length:Int)).toNat))),some (V.int ((lengthOf (r.take i):Int)+(pc.length:Int))),some (V.int pc.rank)]=_;rw[c1,show(1:Int)=((1:Nat):Int)from rfl,rO,RI,Jf,ZX,sE]
 .rintro σ H' ⟨v3,rfl,rfl⟩;refine⟨_,rfl,?_⟩;rw[el,<-Ls];exact k _ s1
theorem fM(T:vA Kq k9 aq):Fo Pq wq bq true T.D9 1 Dy:=by
 refine T.D9.F.kk T.D9.S λH vs Q E h=>?_;obtain⟨n,lap,rfl,h1,h3,hn,k⟩:=h;refine⟨rfl,λhr=>?_⟩;have zl:=BM;refine⟨_,(T0 (FC 2 T.D9.S (pv 0))
  (T0 (t8 O1.po rfl (GP rfl T.lG (F0 O2 (F0 (pv 1) Z0))) (wE 3 T.D9.S) (X0 (FC 2 T.D9.S (X4 Ca (X4 Ca (pv 2) (X4 aT (pv 0) (pv 3))) (X4 Gu (pv 0) (pv 3))))))
  (X0 (Q3 (pv 2))))),?_⟩
 refine⟨_,rfl,_,rfl,1,_,rfl,⟨by decide,by decide,by lia,by lia⟩,?_⟩;rw[show((lap:Int)-1).toNat=lap-1 by lia];refine tI (lo:=1) (n:=lap-1) (λi σ H'=>∃(v:Option V),σ=[some (.int n),some (.int lap),some (.int (EN n (i+1))),v]/\H'=H) ⟨none,by rw[Jk];rfl,rfl⟩ ?_ ?_
 .rintro i σ H' hi ⟨v,rfl,rfl⟩;have ei:(1:Int)+(i:Int)=((i+1:Nat):Int):=by lia
  rw[ei];refine⟨_,rfl,_,rfl,_,rfl,_,_,rfl,rfl,⟨by lia,by lia,by lia⟩,_,_,rfl,rfl,_,rfl,_,rfl,_,_,rfl,rfl,by show(0:Int)<=((i+1:Nat):Int);lia,_,_,rfl,rfl,some (.int ((i+1:Nat):Int)),?_,rfl⟩;show[some (V.int n),some (V.int lap),some (V.int (Builtin.bitOr (Builtin.bitOr (EN n (i+1):Int) ((n:Int)*2^(((i+1:Nat):Int)).toNat)) ((n:Int)/2^(((i+1:Nat):Int)).toNat))),_]=_;rw[rO,Lm,RI,RI,<-xR]
 .rintro σ H' ⟨v,rfl,rfl⟩;refine⟨_,rfl,?_⟩;rw[show lap-1+1=lap by lia];exact k
theorem BV(T:vA Kq k9 aq):Fo Pq wq bq true T.gF 2 Xn:=by
 refine T.gF.F.kk T.gF.S λH vs Q E h=>?_;obtain⟨j,n,lap,rfl,h1,h3,hn,k⟩:=h;refine⟨rfl,λhr=>?_⟩;refine⟨_,(X0 (Q3 (FA AC (X4 nY (pv 0) (MC T.D9 (fM T) hr (F0 (pv 1) (F0 (pv 2) Z0)))) O2 (V3 _)))),?_⟩;refine⟨_,rfl,_,rfl,_,rfl,n,lap,rfl,h1,h3,hn,_,_,rfl,rfl,rfl,?_⟩;show Q (V.bl (decide (V.int (Builtin.bitAnd (j:Int) (near lap n:Int))=V.int 0))) H;rw[eU];rw[show decide (V.int ((j&&&near lap n:Nat):Int)=V.int 0)=decide (j&&&near lap n=0)from S3.mpr ⟨λq=>by have:=V.int.inj q;lia,λq=>by rw[q];rfl⟩];exact k
def zbi(w:Wall)(p:Part):Nat:=if p.x=0 then w.left else w.reveal
def zbj(w:Wall)(p:Part):Nat:=if p.x+p.long=w.long then w.right else w.reveal
inductive Ey(CP CW CO:Addr)(vs:List V)(H:Hp)(Q:VK)(E':XK):Prop
 |mk (p dx op q:Addr) (v0:V) (as:List Addr) (w:Wall) (pt:Part):vs=[.ref p,.ref q]->NF CW CO H p dx op v0 as w->Hk CP H q pt->(∀(H':Hp)(t:Addr),Same H H'->H' t=some (.tup [.int (zbi w pt),.int (zbj w pt)])->Q (.ref t) H')->Ey CP CW CO vs H Q E'
inductive aY(vs:List V)(H:Hp)(Q:VK)(E':XK):Prop
 |mk (p:Piece) (k e:Nat):vs=[.int p.rank,.int k,.int e]->e<=2->Q (.bl (endIs e k (some p))) H->aY vs H Q E'
inductive bY(K:Frag)(vs:List V)(H:Hp)(Q:VK)(E':XK):Prop
 |mk (r t:Addr) (pG:Bd.Row) (k el er:Nat):vs=[.ref r,.int k,.ref t]->eA K H r ((rI pG).map V.int)->pG≠[]->H t=some (.tup [.int el,.int er])->el<=2->er<=2->Q (.bl (endIs el k pG.head?&&endIs er k pG.getLast?)) H->bY K vs H Q E'
inductive Mf(CW CO:Addr)(vs:List V)(H:Hp)(Q:VK)(E':XK):Prop
 |mk (p dx op:Addr) (v0:V) (as:List Addr) (w:Wall) (x y:Nat):vs=[.ref p,.int x,.int y]->NF CW CO H p dx op v0 as w->(∀H':Hp,Same H H'->Q (.bl (decide (x=0)||w.isOpen (x-1) y)) H')->Mf CW CO vs H Q E'
def uM(w:Wall)(p:Part)(x:Nat):Bool:=(decide (p.x<=x)&&decide (x<=p.x+p.long))&&!(decide (x=0)||w.isOpen (x-1) (p.y-1))
def mG(w:Wall)(p:Part)(l:List (Nat×Nat)):List Nat:=(l.filter λz=>uM w p z.1).map λz=>z.1-p.x
def FZ(w:Wall)(p:Part)(l:List (List (Nat×Nat))):Nat:=if p.y=0 then 0 else bitsOf (mG w p (l.getD (p.y-1) []))
inductive Yn(CP CW CO:Addr)(vs:List V)(H:Hp)(Q:VK)(E':XK):Prop
 |mk (p dx op q c:Addr) (v0:V) (as cs:List Addr) (w:Wall) (pt:Part) (l:List (List (Nat×Nat))):vs=[.ref p,.ref q,.ref c]->NF CW CO H p dx op v0 as w->Hk CP H q pt->H c=some (.lst (cs.map V.ref))->L7 H cs l->pt.y<=l.length->pt.long<=1000->(∀H':Hp,Same H H'->Q (.int (FZ w pt l)) H')->Yn CP CW CO vs H Q E'
theorem zd2(p:Piece)(k e:Nat)(he:e<=2):endIs e k (some p)=(decide (e=0)||decide (p.rank=(k+e-1)%2)):=by
 unfold endIs;have e3:e=0\/e=1\/e=2:=by lia
 rcases e3 with rfl|rfl|rfl
 .rfl
 .rw[D0 (by decide)];rcases aH k with h|h
  .rw[h,show k+1-1=k by lia,h];cases p<;>decide
  .rw[h,show k+1-1=k by lia,h];cases p<;>decide
 .rw[D0 (by decide)];rcases aH k with h|h
  .rw[h,show(k+2-1)%2=1 by lia];cases p<;>decide
  .rw[h,show(k+2-1)%2=0 by lia];cases p<;>decide
theorem zbk(h:xs[xs.length-1]?=some v):At xs (-1)=some v:=by
 have l:=(P0.mp h).1;have e:xs=xs.take (xs.length-1)++[v]:=by
  have z:=T3 h;rw[show xs.length-1+1=xs.length by lia,Y1]at z;exact z
 rw[e];exact SN _ _
theorem zch{tA:TT}{c:Bool}(hA:Re tA σ H c) (ha:c=true->i5 ta σ H v) (hb:c=false->i5 tb σ H v):i5 (tIf tA ta tb) σ H v:=λR r=>by
 refine hA _ ?_;cases c with
 |true=>exact C7 (ha rfl R r)
 |false=>exact a8 (hb rfl R r)
theorem Kk{i k:Int}(ha:i5 ta σ H (.int i)) (hb:i5 tb σ H (.int j)) (hc:i5 tc σ H (.int k)) :
  i5 (HP (OV λi j=>.bl (decide (i<=j))) (OV λi j=>.bl (decide (i<=j))) ta tb tc) σ H (.bl (decide (i<=j)&&decide (j<=k))):=λR h=>bM ha hb hc h
theorem Lk(T:vA Kq k9 aq):Fo Pq wq bq true T.uG 1 (Ey aq.JB aq.SA aq.U3):=by
 refine T.uG.F.kk T.uG.S λH vs Q E h=>?_;obtain⟨p,dx,op,q,v0,as,wl,pt,rfl,W,⟨dq,hq⟩,k⟩:=h;refine⟨rfl,λhr=>?_⟩;refine⟨_,(T0 (FC 2 T.uG.S (Aa (W3 AC (U2 (pv 1) rfl) O2 (V3 _)) (U2 (pv 0) rfl) (U2 (pv 0) rfl)))
  (T0 (FC 3 T.uG.S (Aa (W3 AC (X4 AB (U2 (pv 1) rfl) (U2 (pv 1) rfl)) (U2 (pv 0) rfl) (V3 _)) (U2 (pv 0) rfl) (U2 (pv 0) rfl)))
  (X0 (Q3 (LD (F0 (pv 2) (F0 (pv 3) Z0))))))),?_⟩
 refine zch (c:=decide (pt.x=0)) (v:=.int (zbi wl pt)) ?_ (λz R r=>?_) (λz R r=>?_) _ ?_
 .intro R r;refine⟨_,rfl,q,_,dq,_,_,rfl,hq,T.C8.c,T.zB,rfl,rfl,_,rfl,?_⟩;rw[show decide (V.int pt.x=V.int 0)=decide (pt.x=0)from S3.mpr ⟨λz=>by have:=V.int.inj z;lia,λz=>by rw[z];rfl⟩];exact r
 .unfold zbi at r;rw[J0 (d5 z)]at r;exact⟨_,rfl,p,_,dx,_,_,rfl,W.at_,T.dA.c,T.kR,rfl,r⟩
 .unfold zbi at r;rw[D0 (K6 z)]at r;exact⟨_,rfl,p,_,dx,_,_,rfl,W.at_,T.dA.c,T.iI,rfl,r⟩
 dsimp only[pH,IR,qK,Zt];refine zch (c:=decide (pt.x+pt.long=wl.long)) (v:=.int (zbj wl pt)) ?_ (λz R r=>?_) (λz R r=>?_) _ ?_
 .intro R r;refine⟨_,rfl,q,_,dq,_,_,rfl,hq,T.C8.c,T.zB,rfl,_,rfl,q,_,dq,_,_,rfl,hq,T.C8.c,T.gC,rfl,_,_,rfl,rfl,_,rfl,p,_,dx,_,_,rfl,W.at_,T.dA.c,T.WC,rfl,rfl,_,rfl,?_⟩;show R (decide (V.int ((pt.x:Int)+(pt.long:Int))=V.int wl.long)) H;rw[show decide (V.int ((pt.x:Int)+(pt.long:Int))=V.int wl.long)=decide (pt.x+pt.long=wl.long)from S3.mpr ⟨λz=>by have:=V.int.inj z;lia,λz=>by rw[<-z];rfl⟩];exact r
 .unfold zbj at r;rw[J0 (d5 z)]at r;exact⟨_,rfl,p,_,dx,_,_,rfl,W.at_,T.dA.c,T.WO,rfl,r⟩
 .unfold zbj at r;rw[D0 (K6 z)]at r;exact⟨_,rfl,p,_,dx,_,_,rfl,W.at_,T.dA.c,T.iI,rfl,r⟩
 exact⟨_,rfl,_,rfl,by show 2<=sizeLine;decide,λt nt=>k _ t ((Same.refl _).new nt) C0⟩
theorem yR(T:vA Kq k9 aq):Fo Pq wq bq true T.XG 1 aY:=by
 refine T.XG.F.kk T.XG.S λH vs Q E h=>?_;obtain⟨p,n,e,rfl,he,k⟩:=h;refine⟨rfl,λhr=>?_⟩;refine⟨_,(X0 (Q3 (El (FA AC (pv 2) (XF T.zdT) (V3 _)) (fL (FA AC (pv 0) (X4 Dh (X4 EC (X4 AB (pv 1) (pv 2)) O2) O2) (V3 _)))))),?_⟩;refine Tx (x:=decide (e=0)) (y:=decide (p.rank=(n+e-1)%2)) (λR r=>⟨_,rfl,rfl,?_⟩) (λh0 R r=>⟨_,rfl,_,rfl,_,rfl,_,_,rfl,rfl,_,_,rfl,rfl,_,_,rfl,rfl,(by show(0:Int)<2;decide),rfl,?_⟩) ?_
 .rw[show decide (V.int e=V.int 0)=decide (e=0)from S3.mpr ⟨λz=>by have:=V.int.inj z;lia,λz=>by rw[z];rfl⟩];exact r
 .have e0:e≠0:=K6 h0;show R (V.bl (decide (V.int p.rank=V.int (((n:Int)+(e:Int)-1)%2)))) H;rw[show decide (V.int p.rank=V.int (((n:Int)+(e:Int)-1)%2))=decide (p.rank=(n+e-1)%2)from S3.mpr ⟨λz=>by have:=V.int.inj z;lia,λz=>by rw[show(((n:Int)+(e:Int)-1)%2)=(((n+e-1)%2:Nat):Int) by lia,z]⟩];exact r
 .rw[<-zd2 p n e he];exact k
theorem Nf(T:vA Kq k9 aq):Fo Pq wq bq true T.cK 2 (bY Kq):=by
 refine T.cK.F.kk T.cK.S λH vs Q E h=>?_;obtain⟨r,t,pG,n,el,er,rfl,oK,bL,ht,h1,h2,k⟩:=h;refine⟨rfl,λhr=>?_⟩;refine⟨_,(X0 (Q3 (DP (MC T.XG (yR T) hr (F0 (P7 eD (pv 0) O2 (λ_ _=>rfl)) (F0 (pv 1) (F0 (P7 eD (pv 2) O2 (λ_ _=>rfl)) Z0)))) (fL (MC T.XG (yR T) hr (F0 (P7 eD (pv 0) (rK AG O2) (λ_ _=>rfl)) (F0 (pv 1) (F0 (P7 eD (pv 2) O2 (λ_ _=>rfl)) Z0)))))))),?_⟩;have rp:0<pG.length:=D5.mpr bL;have e0:pG[0]?=some pG[0]:=K0 rp;have e1:pG[pG.length-1]?=some (pG[pG.length-1]'(by lia)):=K0 (by lia);have q0:pG.head?=some pG[0]:=by rw[List.head?_eq_getElem?,e0]
 have q1:pG.getLast?=some (pG[pG.length-1]'(by lia)):=by rw[List.getLast?_eq_getElem?,e1]
 rw[q0,q1]at k;refine Ln (x:=endIs el n (some pG[0])) (y:=endIs er n (some (pG[pG.length-1]'(by lia)))) (λR z=>?_) (λ_ R z=>?_) k
 .exact⟨_,rfl,r,_,_,_,rfl,rfl,oK,X5 (j:=0) (HQ e0),_,rfl,_,rfl,t,_,_,_,rfl,rfl,.inl (.inl ht),X5 (j:=0) rfl,pG[0],n,el,rfl,h1,z⟩
 .refine⟨_,rfl,1,rfl,r,_,_,_,rfl,rfl,oK,zbk (by rw[W9];exact HQ e1),_,rfl,_,rfl,t,_,_,_,rfl,rfl,.inl (.inl ht),X5 (j:=1) rfl,_,n,er,rfl,h2,z⟩
theorem rP(T:vA Kq k9 aq):Fo Pq wq bq true T.yC 3 (Mf aq.SA aq.U3):=by
 refine T.yC.F.kk T.yC.S λH vs Q E h=>?_;obtain⟨p,dx,op,v0,as,wl,x,y,rfl,W,k⟩:=h;refine⟨rfl,λhr=>?_⟩;refine⟨_,(X0 (Q3 (El (FA AC (pv 1) O2 (V3 _)) (fL (MD (pv 0) T.dA.c T.i8.M (zK T) hr.mo T.i8.b .nil O1.passes (F0 (X4 EC (pv 1) O2) (F0 (pv 2) Z0))))))),?_⟩;refine⟨_,rfl,rfl,_,rfl,?_⟩;rw[show decide (V.int x=V.int 0)=decide (x=0)from S3.mpr ⟨λz=>by have:=V.int.inj z;lia,λz=>by rw[z];rfl⟩];by_cases h0:x=0
 .rw[F1 h0]at k ⊢;exact C7 (k _ (Same.refl _))
 .rw[Y0 h0]at k ⊢;refine a8 ⟨_,rfl,p,dx,_,rfl,W.at_,rfl,_,rfl,_,_,rfl,rfl,_,rfl,p,dx,op,v0,as,wl,x-1,y,?_,W,λH' s'=>k H' s'⟩;rw[show((x-1:Nat):Int)=(x:Int)-1 by lia];rfl
theorem Of(T:vA Kq k9 aq):Fo Pq wq bq true T.nB 4 (Yn aq.JB aq.SA aq.U3):=by
 refine T.nB.F.kk T.nB.S λH vs Q E h=>?_;obtain⟨p,dx,op,q,c,v0,as,cs,wl,pt,l,rfl,W,⟨dq,hq⟩,hc,rows,yl,l1,k⟩:=h;refine⟨rfl,λhr=>?_⟩;refine⟨_,(T0 (FC 3 T.nB.S O2)
  (T0 (c7 (W3 AC (U2 (pv 1) rfl) O2 (V3 _)) (X0 (Q3 (pv 3))) U4)
  (T0 (t8 O1.po rfl (W7 (P7 B7 (pv 2) (X4 EC (U2 (pv 1) rfl) O2) (λ_ _=>rfl))) (gL rfl (n9 (wE 4 T.nB.S) (n9 (wE 5 T.nB.S) qH))) (T0 (FC 6 T.nB.S (uI NC NC (U2 (pv 1) rfl) (pv 4) (X4 AB (U2 (pv 1) rfl) (U2 (pv 1) rfl))))
  (X0 (c7 (PW.pt (US (cD (pv 6)) (JN (yG (cD (MC T.yC (rP T) hr (F0 (pv 0) (F0 (pv 4) (F0 (X4 EC (U2 (pv 1) rfl) O2) Z0))))))))) (X0 (FC 3 T.nB.S (X4 Ca (pv 3) (X4 aT O2 (X4 EC (pv 4) (U2 (pv 1) rfl)))))) U4))))
  (X0 (Q3 (pv 3)))))),?_⟩
 refine⟨_,rfl,q,_,dq,_,_,rfl,hq,T.C8.c,T.V9,rfl,rfl,_,rfl,?_⟩;rw[show decide (V.int pt.y=V.int 0)=decide (pt.y=0)from S3.mpr ⟨λz=>by have:=V.int.inj z;lia,λz=>by rw[z];rfl⟩];unfold FZ at k;by_cases y0:pt.y=0
 .rw[J0 y0]at k;rw[F1 y0];exact C7 ⟨_,rfl,k _ (Same.refl _)⟩
 rw[D0 y0]at k;rw[Y0 y0];refine a8 ?_;have yl2:pt.y-1<l.length:=by lia
 have el:l[pt.y-1]?=some l[pt.y-1]:=K0 yl2;have ed:l.getD (pt.y-1) []=l[pt.y-1]:=by rw[Q2,el];rfl
 rw[ed]at k;generalize l[pt.y-1]=pG at el k;obtain⟨r,hr1,ts,Rt,tt⟩:=Paired.getR rows el;have lts:=J1 tt;rw[B0]at lts;refine⟨_,rfl,_,rfl,q,_,dq,_,_,rfl,hq,T.C8.c,T.V9,rfl,_,_,rfl,rfl,c,_,_,.ref r,rfl,rfl,SqL.of hc,vT (j:=pt.y-1) (by lia) (by rw[P1,hr1];rfl),r,rfl,⟨_,SqL.of Rt⟩,?_⟩;refine LA (K:=Kq) (a:=r) (xs:=ts.map V.ref) (λi σ H'=>E3 λ(v4 v5 v6:Option V)=>σ=[some (.ref p),some (.ref q),some (.ref c),some (.int ((bitsOf (mG wl pt (pG.take i)):Nat):Int)),v4,v5,v6]/\Same H H') ⟨none,none,none,rfl,Same.refl _⟩ (λi σ H' _ ⟨_,_,_,_,s⟩=>SqL.of (s _ _ Rt)) ?_ ?_
 .rintro i v σ H' hi ⟨v4,v5,v6,rfl,s1⟩;obtain⟨u,hu,rfl⟩:=U8 hi;obtain⟨zi,Yz,hu6⟩:=Paired.get tt hu;rw[P1]at Yz;obtain⟨z,hz,rfl⟩:∃z,pG[i]?=some z/\zi=pI z:=by
   cases e:pG[i]? with
   |none=>rw[e]at Yz;cases Yz
   |some z=>rw[e]at Yz;exact⟨z,rfl,(M0 Yz).symm⟩
  have hu1:=s1 _ _ hu6;have BK:=s1 _ _ hq;have W1:=W.same s1;refine⟨u,_,rfl,.inl (.inl hu1),rfl,_,_,rfl,_,_,rfl,rfl,?_⟩;have snoc:mG wl pt (pG.take (i+1))=mG wl pt (pG.take i)++if uM wl pt z.1=true then[z.1-pt.x]else[]:=by
   unfold mG;rw[T3 hz,M8,U0];congr 1;cases hb:uM wl pt z.1 with
   |true=>rw[J0 rfl,Y5,J0 hb];rfl
   |false=>rw[D0 (by decide),Y5,D0 (by rw[hb];decide)];rfl
  have fp:i5 (KH Kq (aG 1) "place") [some (.ref p),some (.ref q),some (.ref c),some (.int ((bitsOf (mG wl pt (pG.take i)):Nat):Int)),some (.int z.1),some (.int z.2),v6] H' (.int pt.x):=GB rfl BK T.C8.c T.zB rfl;have fl:i5 (KH Kq (aG 1) "length") [some (.ref p),some (.ref q),some (.ref c),some (.int ((bitsOf (mG wl pt (pG.take i)):Nat):Int)),some (.int z.1),some (.int z.2),v6] H' (.int pt.long):=GB rfl BK T.C8.c T.gC rfl;refine Kk fp (DQ rfl) (eK fp fl) _ ?_;have ew:(decide ((pt.x:Int)<=(z.1:Int))&&decide ((z.1:Int)<=(pt.x:Int)+(pt.long:Int)))=(decide (pt.x<=z.1)&&decide (z.1<=pt.x+pt.long)):=by
   rw[d3];simp only[E1,O0]
   lia
  rw[ew];dsimp only[pH,qK,IR,QV];generalize Ig:(decide (pt.x<=z.1)&&decide (z.1<=pt.x+pt.long))=wi;refine Qn (x:=wi) (y:=!(decide (z.1=0)||wl.isOpen (z.1-1) (pt.y-1))) (λH5=>Same H' H5) (λR r'=>⟨_,rfl,_,rfl,r' _ (Same.refl _)⟩) (λ_ H5 s5 R r'=>?_) λH5 s5=>?_
  .have W5:=W1.same s5;refine⟨_,rfl,_,rfl,_,rfl,q,_,dq,_,_,rfl,s5 _ _ BK,T.C8.c,T.V9,rfl,_,_,rfl,rfl,p,dx,op,v0,as,wl,z.1,pt.y-1,?_,W5,λH6 s6=>⟨_,rfl,r' _ (s5.trans s6)⟩⟩;rw[show((pt.y-1:Nat):Int)=(pt.y:Int)-1 by lia];rfl
  .have s15:=s1.trans s5;have eo:(wi&&!(decide (z.1=0)||wl.isOpen (z.1-1) (pt.y-1)))=uM wl pt z.1:=by rw[<-Ig];rfl
   rw[eo];cases hb:uM wl pt z.1 with
   |false=>
    rw[hb,D0 (by decide),D3]at snoc;refine a8 ⟨some (.int z.1),some (.int z.2),some (.bl wi),?_,s15⟩;rw[snoc];rfl
   |true=>
    rw[hb,J0 rfl]at snoc;have hin:pt.x<=z.1/\z.1<=pt.x+pt.long:=by
     rw[hb,E1]at eo;have e1:=eo.1;rw[<-Ig,E1,O0,O0]at e1;exact e1
    refine C7 ⟨_,rfl,_,rfl,_,rfl,q,_,dq,_,_,rfl,s5 _ _ BK,T.C8.c,T.zB,rfl,_,_,rfl,rfl,_,_,rfl,rfl,?_,_,_,rfl,rfl,?_⟩
    .refine⟨?_,?_,by decide⟩
     .show(0:Int)<=(z.1:Int)-(pt.x:Int)
      lia
     .show(z.1:Int)-(pt.x:Int)<=1000000
      lia
    .refine⟨some (.int z.1),some (.int z.2),some (.bl wi),?_,s15⟩;show[some (V.ref p),some (V.ref q),some (V.ref c),some (V.int (Builtin.bitOr ((bitsOf (mG wl pt (pG.take i)):Nat):Int) ((1:Int)*2^((z.1:Int)-(pt.x:Int)).toNat))),some (V.int z.1),some (V.int z.2),some (V.bl wi)]=_;rw[show(z.1:Int)-(pt.x:Int)=((z.1-pt.x:Nat):Int) by lia,show(1:Int)=((1:Nat):Int)from rfl,rO,RI,snoc,ZX,sE]
 .rintro σ H' ⟨v4,v5,v6,rfl,s1⟩;refine⟨_,rfl,?_⟩;rw[B0,lts,Y1];exact k _ s1
theorem Fy{o:Obj}{tb:TS}{D:eL}(Pv:Nat->L2.St->Hp->Prop) (h0:Pv 0 σ H) (hl:∀i σ H,i<=kvs.length->Pv i σ H->H d=some (.frz o (.dK kvs)))
 (hs:∀i k v σ H,kvs[i]?=some (k,v)->Pv i σ H->g (kV k) σ H λσ2 H2=>tb {D with nx:=Pv (i+1),ct:=Pv (i+1),bk:=D.nx} σ2 H2) (hd:∀σ H,Pv kvs.length σ H->D.nx σ H) :
   ∃W:Nat->Nat->L2.St->Hp->Prop,(∃m,W 0 m σ H)/\∀i m σ H,W i m σ H->
    ((Itk d o kvs).stop i H/\D.nx σ H)\/((Itk d o kvs).go i H/\∃N:L2.St->Hp->Prop,(∀σ' H',N σ' H'->∃m',m'<m/\W (i+1) m' σ' H')/\∀x H',(Itk d o kvs).yld i H x H'->g x σ H' λσ2 H2=>tb {D with nx:=N,ct:=N,bk:=D.nx} σ2 H2):=by
  refine⟨λi m σ H=>m=kvs.length-i/\i<=kvs.length/\Pv i σ H,⟨kvs.length,by simp,D1 _,h0⟩,?_⟩;rintro i m σ H ⟨rfl,hi,p⟩;have q:=hl i σ H hi p;by_cases DC:i<kvs.length
  .refine .inr ⟨⟨q,DC⟩,Pv (i+1),λσ' H' p'=>⟨kvs.length-(i+1),by lia,rfl,DC,p'⟩,λx H' y=>?_⟩;obtain⟨e,k,v,y,ex⟩:=y;subst e;subst ex;exact hs i k v σ _ y p
  .have e:i=kvs.length:=by lia
   subst e;exact .inl ⟨⟨q,j1 _⟩,hd σ H p⟩
theorem zbl{o:Obj}{D:Addr}(Pv:Nat->Hp->Prop) (h0:Pv 0 (upd H1 D (.lst []))) (hl:∀i H,i<=kvs.length->Pv i H->H d=some (.frz o (.dK kvs)))
 (hs:∀i k v H,kvs[i]?=some (k,v)->Pv i H->g (kV k) (Z7 σ vs) H λσ2 H2=>Z7 σ2 vs=Z7 σ vs/\tt σ2 H2 λb H3=>
 if b=true then te σ2 H3 λy H4=>∃acc,H4 D=some (.lst acc)/\acc.length<sizeLine/\Pv (i+1) (upd H4 D (.lst (acc++[y])))else Pv (i+1) H3) (hd:∀H,Pv kvs.length H->Qd H) :
   ∃W:Nat->Nat->Hp->Prop,(∃m,W 0 m (upd H1 D (.lst [])))/\∀i m H,W i m H->
    ((Itk d o kvs).stop i H/\Qd H)\/((Itk d o kvs).go i H/\∃Nx:Hp->Prop,(∀H',Nx H'->∃m',m'<m/\W (i+1) m' H')/\∀x H',(Itk d o kvs).yld i H x H'->g x (Z7 σ vs) H' λσ2 H2=>Z7 σ2 vs=Z7 σ vs/\tt σ2 H2 λb H3=>
      if b=true then te σ2 H3 λy H4=>∃acc,H4 D=some (.lst acc)/\acc.length<sizeLine/\Nx (upd H4 D (.lst (acc++[y])))else Nx H3):=by
  refine⟨λi m H=>m=kvs.length-i/\i<=kvs.length/\Pv i H,⟨kvs.length,by simp,D1 _,h0⟩,?_⟩;rintro i m H ⟨rfl,hi,p⟩;have q:=hl i H hi p;by_cases DC:i<kvs.length
  .refine .inr ⟨⟨q,DC⟩,Pv (i+1),λH' p'=>⟨kvs.length-(i+1),by lia,rfl,DC,p'⟩,λx H' y=>?_⟩;obtain⟨e,k,v,y,ex⟩:=y;subst e;subst ex;exact hs i k v _ y p
  .have e:i=kvs.length:=by lia
   subst e;exact .inl ⟨⟨q,j1 _⟩,hd H p⟩
inductive Zn(K:Frag)(vs:List V)(H:Hp)(Q:VK)(E':XK):Prop
 |mk (p:Addr) (r:Bd.Row):vs=[.ref p]->eA K H p ((rI r).map V.int)->r.length<=1000->(∀H':Hp,Same H H'->Q (.int (lengthOf r)) H')->Zn K vs H Q E'
inductive Ao(K:Frag)(vs:List V)(H:Hp)(Q:VK)(E':XK):Prop
 |mk (l:Addr) (r:Bd.Row):vs=[.ref l]->eA K H l ((rI r).map V.int)->r.length<=1000->(∀H':Hp,Same H H'->Q (.int (cutsOf r)) H')->Ao K vs H Q E'
def nL(l:List Nat):List V:=l.map λn=>V.int ((n:Nat):Int)
inductive Pf(vs:List V)(H:Hp)(Q:VK)(E':XK):Prop
 |mk (n:Nat):vs=[.int n]->n<2^64->(∀(H':Hp)(q:Addr),Same H H'->H' q=some (.lst (nL (T5 n)))->Q (.ref q) H')->Pf vs H Q E'
inductive zci(vs:List V)(H:Hp)(Q:VK)(E':XK):Prop
 |mk (n:Nat):vs=[.int n]->0<n->(∀l:Nat,n.testBit l=true->(∀j<l,n.testBit j=false)->Q (.int l) H)->zci vs H Q E'
def Ms(r:Bd.Row):List Int:=r.map λp=>((p.length:Nat):Int)
theorem Rf:∀r:Bd.Row,(Ms r).sum=(lengthOf r:Int)
 |[]=>rfl
 |p::r=>by
  show(p.length:Int)+(Ms r).sum=_;rw[Rf r,C3]
  push_cast
  rfl
theorem gM(h:n≠0):Builtin.Int.intBits (n:Int)=n.log2+1:=by
 unfold Builtin.Int.intBits;rw[D0 (by simpa using h)];rfl
theorem zd3(n x:Nat):((n >>> x)&&&1=1)↔n.testBit x=true:=by
 rw[Nat.testBit];constructor
 .intro h;rw[QJ,h];rfl
 .intro h;have:(1&&&(n >>> x))≠0:=by simpa using h
  rw[QJ]at this;have l:(n >>> x)&&&1<=1:=Nat.and_le_right
  lia
theorem zbm(n:Nat)(h:0<n):Builtin.bitAnd (n:Int) (-(n:Int))=((n-(n&&&(n-1)):Nat):Int):=by
 unfold Builtin.bitAnd;rw[F1 (show(0:Int)<=(n:Int) by lia),Y0 (show ¬(0:Int)<=-(n:Int) by lia)];dsimp only;have e:(Builtin.bitNot (-(n:Int))).toNat=n-1:=by
  unfold Builtin.bitNot
  lia
 have l:n&&&(n-1)<=n:=vK;rw[e,c5]
 lia
theorem GZ(r s:Bd.Row):(rI r).map V.int++(rI s).map V.int=(rI (r++s)).map V.int:=by
 unfold rI;rw[U0,U0]
theorem sP(T:vA Kq k9 aq):Fo Pq wq bq true T.XB 1 (Zn Kq):=by
 refine T.XB.F.kk T.XB.S λH vs Q E h=>?_;obtain⟨p,r,rfl,hp,r1,k⟩:=h;refine⟨rfl,λhr=>?_⟩;have zl:=BM;refine⟨_,(X0 (Q3 (NA (zdd rfl) rfl T.zfX zdN (F0 (GC O1 rfl rfl (own:=[("piece",1)]) rfl T.XB.S.nd (FP (pv 0)) (bW ["row","piece"] (X3 eR) [("piece",1)]) (λtk=>(wE 1 T.XB.S)) (λtk=>Y9) (λtk=>(P7 (zbg (K:=Kq) rfl) (HB (v:=.ref aq.lA) rfl T.iJ rfl) (pv 1) (λ_ _=>rfl)))) Z0)))),?_⟩;refine⟨_,rfl,p,rfl,⟨_,hp⟩,λD hD=>?_⟩;refine yY (K:=Kq) (a:=p) (xs:=(rI r).map V.int) (λi H'=>H'=upd H D (.lst ((Ms (r.take i)).map V.int))) rfl (λi H' _ e=>by rw[e];exact((Same.refl _).new hD).tup hp) ?_ ?_
 .rintro i v H' hi rfl;obtain⟨pc,hpc,rfl⟩:=AV hi;have il:=(P0.mp hpc).1;have ln:(Ms (r.take i)).length<=1000:=by
   unfold Ms;rw[B0,Z1]
   lia
  refine⟨rfl,?_⟩;dsimp only[Sa];rw[J0 rfl];refine⟨_,rfl,aq.lA,_,_,_,rfl,rfl,T.jJ _,X5 (qP pc),_,C0,?_,?_⟩
  .rw[B0]
   lia
  .rw[Y4,T3 hpc];unfold Ms;rw[U0,U0];rfl
 .rintro H2 rfl;rw[W9,Y1];refine⟨D,_,rfl,SqL.of C0,?_⟩;rw[Rf];exact k _ ((Same.refl _).new hD)
theorem FN(T:vA Kq k9 aq):Fo Pq wq bq true T.GD 1 (Ao Kq):=by
 refine T.GD.F.kk T.GD.S λH vs Q E h=>?_;obtain⟨l,r,rfl,hl,r1,k⟩:=h;refine⟨rfl,λhr=>?_⟩;have zl:=BM;refine⟨_,(X0 (Q3 (NS T.wB (GC O1 rfl rfl (own:=[("piece",1)]) rfl T.GD.S.nd (FP (pv 0)) (bW ["row","piece"] (X3 DX) [("piece",1)]) (λtk=>(wE 1 T.GD.S)) (λtk=>(wY (W3 zbR (pv 1) (XF T.Ke) (V3 _)))) (λtk=>(pv 1)))))),?_⟩;refine⟨_,rfl,l,rfl,⟨_,hl⟩,λD hD=>?_⟩;refine yY (K:=Kq) (a:=l) (xs:=(rI r).map V.int) (λi H'=>H'=upd H D (.lst ((rI ((r.take i).filter Piece.isCut)).map V.int))) rfl (λi H' _ e=>by rw[e];exact((Same.refl _).new hD).tup hl) ?_ ?_
 .rintro i v H' hi rfl;obtain⟨pc,hp,rfl⟩:=AV hi;have il:=(P0.mp hp).1;refine⟨rfl,_,rfl,_,_,rfl,rfl,_,rfl,?_⟩;have ep:decide ((2:Int)<=(pc.rank:Int))=pc.isCut:=by
   unfold Piece.isCut;exact S3.mpr (by lia)
  rw[ep];have snoc:(r.take (i+1)).filter Piece.isCut=(r.take i).filter Piece.isCut++if pc.isCut=true then[pc]else[]:=by
   rw[T3 hp,M8,Y5];rfl
  cases hb:pc.isCut with
  |true=>
   rw[hb,J0 rfl]at snoc;have rl:=E8 Piece.isCut (r.take i);rw[Z1]at rl;refine C7 ⟨_,rfl,_,C0,(by rw[W9];lia),?_⟩;rw[Y4,snoc,<-GZ];rfl
  |false=>
   rw[hb,D0 (by decide),D3]at snoc;refine a8 ?_;rw[snoc]
 .rintro H2 rfl;rw[W9,Y1];refine⟨D,_,rfl,.inl (SqL.of C0),?_⟩;rw[W9];exact k _ ((Same.refl _).new hD)
theorem uP(T:vA Kq k9 aq):Fo Pq wq bq true T.YB 1 Pf:=by
 refine T.YB.F.kk T.YB.S λH vs Q E h=>?_;obtain⟨n,rfl,hn,k⟩:=h;refine⟨rfl,λhr=>?_⟩;have zl:=BM;have lb:Builtin.Int.intBits (n:Int)<=64:=by
  by_cases c:n=0
  .subst c;exact D1 _
  .rw[gM c];exact(Nat.log2_lt c).mpr hn
 have fin:∀m:Nat,m=Builtin.Int.intBits (n:Int)->(List.range m).filter (λx=>n.testBit x)=T5 n:=λm e=>by
  unfold T5;by_cases c:n=0
  .subst c;have:m=0:=e;subst this;rfl
  .rw[gM c]at e;rw[e]
 refine⟨_,(X0 (Q3 (GC O1 rfl rfl (own:=[("place",1)]) rfl T.YB.S.nd (sI rfl T.lG (F0 (Sm (pv 0)) Z0)) (bW ["places","place"] (X3 fR) [("place",1)]) (λtk=>(wE 1 T.YB.S)) (λtk=>(wY (W3 AC (X4 nY (X4 Gu (pv 0) (pv 1)) O2) O2 (V3 _)))) (λtk=>(pv 1))))),?_⟩;refine⟨_,rfl,_,rfl,_,rfl,by lia,by lia,λD hD=>?_⟩;rw[c5];refine oT (lo:=0) (n:=Builtin.Int.intBits (n:Int)) (λi H'=>H'=upd H D (.lst (nL ((List.range i).filter λx=>n.testBit x)))) rfl ?_ ?_
 .rintro i H' hi rfl;have ei:(0:Int)+(i:Int)=(i:Int):=by lia
  rw[ei];refine⟨rfl,_,rfl,_,rfl,_,_,rfl,rfl,by show(0:Int)<=(i:Int);lia,_,_,rfl,rfl,rfl,_,rfl,?_⟩;have snoc:(List.range (i+1)).filter (λx=>n.testBit x)=(List.range i).filter (λx=>n.testBit x)++if n.testBit i=true then[i]else[]:=by
   rw[jA,M8,Y5];rfl
  have et:decide (V.int (Builtin.bitAnd ((n:Int)/2^((i:Int)).toNat) 1)=V.int 1)=n.testBit i:=by
   rw[Lm,show(1:Int)=((1:Nat):Int)from rfl,eU,d3,O0,<-zd3];exact⟨λq=>by have:=V.int.inj q;lia,λq=>by rw[q]⟩
  show if (decide (V.int (Builtin.bitAnd ((n:Int)/2^((i:Int)).toNat) 1)=V.int 1))=true then _ else _
  rw[et];have fl:=E8 (λx=>n.testBit x) (List.range i);rw[o6]at fl;cases hb:n.testBit i with
  |true=>
   rw[hb,J0 rfl]at snoc;refine C7 ⟨_,rfl,_,C0,(by unfold nL;rw[B0];lia),?_⟩;rw[Y4,snoc];unfold nL;rw[U0];rfl
  |false=>
   rw[hb,D0 (by decide),D3]at snoc;refine a8 ?_;rw[snoc]
 .rintro H2 rfl;rw[fin _ rfl];exact k _ D ((Same.refl _).new hD) C0
theorem DW(T:vA Kq k9 aq):Fo Pq wq bq true T.kG 1 zci:=by
 refine T.kG.F.kk T.kG.S λH vs Q E h=>?_;obtain⟨n,rfl,h0,k⟩:=h;refine⟨rfl,λhr=>?_⟩;refine⟨_,(X0 (Q3 (X4 EC (Sm (X4 nY (pv 0) (rK AG (pv 0)))) O2))),?_⟩;obtain⟨l,g1,g2,g3⟩:=zbb h0;refine⟨_,rfl,_,rfl,_,rfl,_,_,rfl,rfl,_,rfl,_,_,rfl,rfl,?_⟩;show Q (V.int (((Builtin.Int.intBits (Builtin.bitAnd (n:Int) (-(n:Int))):Nat):Int)-1)) H;rw[zbm n h0,g3,gM (by have:=AK l;lia),Nat.log2_two_pow,show((l+1:Nat):Int)-1=(l:Int) by lia];exact k l g1 g2
def Bo(r:Bd.Row)(q:Addr)(av:V)(l:List Bd.Row):List (Str×V):=[("row",.ref q),("joints",.int (P6 r)),("above",av),("cuts",.int (cutsIn (r::l))),("pieces",.int (piecesIn (r::l)))]
def AA(K:Frag)(C:Addr)(H:Hp):List Bd.Row->V->Prop
 |[],v=>v=.non
 |r::l,v=>∃(q dx rw:Addr)(av:V),v=.ref q/\H q=some (.ins C dx (Bo r rw av l))/\eA K H rw ((rI r).map V.int)/\AA K C H l av
theorem AA.keep{K:Frag}(h1:∀b C' dx fs,H b=some (.ins C' dx fs)->C'=C->H' b=some (.ins C' dx fs)) (h2:∀b xs,eA K H b xs->eA K H' b xs):∀{l:List Bd.Row}{v:V},AA K C H l v->AA K C H' l v
 |[],_,h=>h
 |r::l,v,⟨q,dx,rw,av,e,a1,a2,a3⟩=>⟨q,dx,rw,av,e,h1 _ _ _ _ a1 rfl,h2 _ _ a2,AA.keep h1 h2 a3⟩
theorem AA.same{K:Frag}(s:Same H H') (h:AA K C H l v):AA K C H' l v:=h.keep (λb C' dx fs q _=>s _ _ q) λb xs q=>s.tup q
def bH(K:Frag)(C:Addr)(H:Hp):List Addr->List (List Bd.Row)->Prop:=Paired λp l=>AA K C H l (.ref p)
theorem bH.same{K:Frag}{ls:List (List Bd.Row)}(s:Same H H') (h:bH K C H ps ls):bH K C H' ps ls:=Paired.mapP h λ_ _ q=>q.same s
inductive Co(K:Frag)(C:Addr)(vs:List V)(H:Hp)(Q:VK)(E':XK):Prop
 |mk (p dx rw:Addr) (r:Bd.Row) (j:Nat) (av:V) (l:List Bd.Row):vs=[.ref p,.ref rw,.int j,av]->H p=some (.ins C dx [])->eA K H rw ((rI r).map V.int)->r.length<=1000->j=P6 r->AA K C H l av->(∀H':Hp,H' p=some (.ins C dx (Bo r rw av l))->(∀b o,b≠p->H b=some o->H' b=some o)->Q .non H')->Co K C vs H Q E'
def PM:List Bd.Row->List KI
 |[]=>[]
 |r::l=>[.inl (cutsIn (r::l):Int),.inl (piecesIn (r::l):Int),.inr (rI r)]
inductive Do(K:Frag)(C:Addr)(vs:List V)(H:Hp)(Q:VK)(E':XK):Prop
 |mk (p:Addr) (r:Bd.Row) (l:List Bd.Row):vs=[.ref p]->AA K C H (r::l) (.ref p)->(∀(H':Hp)(v:V),Same H H'->IC K H' (PM (r::l)) v->Q v H')->Do K C vs H Q E'
inductive Sf(K:Frag)(C:Addr)(vs:List V)(H:Hp)(Q:VK)(E':XK):Prop
 |mk (v:V) (l:List Bd.Row):vs=[v]->AA K C H l v->l.length<=1000->(∀(H':Hp)(q:Addr)(ts:List Addr),Same H H'->H q=none->H' q=some (.lst (ts.map V.ref))->Paired (λt r=>eA K H' t ((rI r).map V.int)) ts l->Q (.ref q) H')->Sf K C vs H Q E'
def rk(z:Nat×Piece):Nat×Nat:=(z.1,z.2.rank)
inductive cY(K:Frag)(vs:List V)(H:Hp)(Q:VK)(E':XK):Prop
 |mk (p:Addr) (r:Bd.Row) (x:Nat):vs=[.ref p,.int x]->eA K H p ((rI r).map V.int)->r.length<=1000->(∀(H':Hp)(q:Addr)(ts:List Addr),Same H H'->H' q=some (.lst (ts.map V.ref))->NB H' ts ((Bd.placed x r).map λz=>pI (rk z))->Q (.ref q) H')->cY K vs H Q E'
theorem Tf{p:Piece}(h:r[i]?=some p):∀x,Bd.placed x (r.take (i+1))=Bd.placed x (r.take i)++[(x+lengthOf (r.take i),p)]:=by
 induction r generalizing i with
 |nil=>simp at h
 |cons q r ih=>
  intro x;cases i with
  |zero=>
   obtain rfl:q=p:=by simpa using h
   rfl
  |succ i=>
   show(x,q)::Bd.placed (x+q.length) (r.take (i+1))=(x,q)::(Bd.placed (x+q.length) (r.take i)++_);rw[ih (by simpa using h),KA,C3,Nat.add_assoc]
theorem oJ(T:vA Kq k9 aq):Mo k9 Pq wq bq true T.j9 2 (Co Kq aq.b8):=by
 refine T.j9.F.kk T.j9.S λH vs Q E h=>?_;obtain⟨p,dx,q,r,j,av,l,rfl,hp,hq,r1,rfl,pa,k⟩:=h;refine⟨rfl,λhr=>?_⟩;refine⟨_,(T0 (D6 (pv 0) (pv 1) rfl)
  (T0 (D6 (pv 0) (pv 2) rfl)
  (T0 (D6 (pv 0) (pv 3) rfl)
  (T0 (D6 (pv 0) (MC T.GD (FN T) hr (F0 (pv 1) Z0)) rfl)
  (T0 (D6 (pv 0) (NS T.wB (pv 1)) rfl)
  (X0 (c7 (W3 Nl (pv 3) lY (V3 _)) (T0 (JP (pv 0) (U2 (pv 3) rfl) Fh)
  (X0 (JP (pv 0) (U2 (pv 3) rfl) Fh))) U4))))))),?_⟩
 have nt:∀{G:Hp}{fs Az:List (Str×V)}{xs:List V}{b:Addr},G p=some (.ins aq.b8 dx fs)->eA Kq G b xs->eA Kq (upd G p (.ins aq.b8 dx Az)) b xs:=λ{G fs Az xs b} hG z=>by
  rcases z with z|z
  .rcases z with z|⟨o,z⟩
   .exact .inl (.inl (by rw[N0 (λy=>by rw[y,hG]at z;cases z)];exact z))
   .exact .inl (.inr ⟨o,by rw[N0 (λy=>by rw[y,hG]at z;cases z)];exact z⟩)
  .exact .inr z
 refine⟨_,rfl,_,rfl,p,_,dx,_,rfl,hp,T.UA.c,T.AN,(by show 0<1000;decide),?_⟩;refine⟨_,rfl,_,rfl,p,_,dx,_,rfl,C0,T.UA.c,T.jI,(by show 1<1000;decide),?_⟩;rw[Y4];refine⟨_,rfl,_,rfl,p,_,dx,_,rfl,C0,T.UA.c,T.XO,(by show 2<1000;decide),?_⟩;rw[Y4];refine⟨_,rfl,q,r,rfl,nt hp hq,r1,λH1 s1=>?_⟩;have hp1:=s1 _ _ C0;have ot:∀b o,b≠p->H b=some o->H1 b=some o:=λb o nb e=>s1 _ _ (by rw[N0 nb];exact e);refine⟨_,rfl,p,_,dx,_,rfl,hp1,T.UA.c,T.HH,(by show 3<1000;decide),?_⟩;have BK:eA Kq H1 q ((rI r).map V.int):=s1.tup (nt hp hq);refine⟨_,rfl,q,_,rfl,.inr (nt hp1 BK),_,rfl,p,_,dx,_,rfl,C0,T.UA.c,T.iF,(by show 4<1000;decide),?_⟩;rw[Y4,W9];refine⟨_,rfl,rfl,_,rfl,?_⟩;cases l with
 |nil=>
  obtain rfl:av=.non:=pa;refine a8 ?_;refine k _ ?_ (λb o nb e=>by rw[N0 nb];exact ot b o nb e);rw[C0];unfold Bo;rw[TB,yB];rfl
 |cons s l=>
  obtain⟨q2,Yk,rw2,av2,rfl,e1,e2,e3⟩:=pa;refine C7 ?_;have n2:q2≠p:=λz=>by
   rw[z,hp]at e1;have:=V6 (λo=>match o with|some (HO.ins _ _ fs)=>fs.length|_=>0) e1;simp[Bo]at this
  have g1:=ot q2 _ n2 e1;refine⟨_,rfl,p,_,dx,_,_,rfl,C0,T.UA.c,T.HH,rfl,_,rfl,q2,_,Yk,_,_,rfl,(by rw[N0 n2];exact g1),T.UA.c,T.HH,rfl,_,_,rfl,rfl,dx,_,C0,(by show 5<1000;decide),?_⟩;rw[Y4];refine⟨_,rfl,p,_,dx,_,_,rfl,C0,T.UA.c,T.iF,rfl,_,rfl,q2,_,Yk,_,_,rfl,(by rw[N0 n2];exact g1),T.UA.c,T.iF,rfl,_,_,rfl,rfl,dx,_,C0,(by show 5<1000;decide),?_⟩;rw[Y4];refine k _ ?_ (λb o nb e=>by rw[N0 nb];exact ot b o nb e);rw[C0];congr 2
  try exact(V6 (CG "pieces" _) (putF_cuts r q (.ref q2) (s::l) _)).trans (putF_pieces r q (.ref q2) (s::l))
theorem zR(T:vA Kq k9 aq):Fo Pq wq bq true T.vD 1 (Do Kq aq.b8):=by
 refine T.vD.F.kk T.vD.S λH vs Q E h=>?_;obtain⟨p,r,l,rfl,⟨q,dx,rw,av,e,a1,a2,a3⟩,k⟩:=h;refine⟨rfl,λhr=>?_⟩;cases e;refine⟨_,(X0 (Q3 (LD (F0 (U2 (pv 0) rfl) (F0 (U2 (pv 0) rfl) (F0 (U2 (pv 0) rfl) Z0)))))),?_⟩;refine⟨_,rfl,p,_,dx,_,_,rfl,a1,T.UA.c,T.HH,rfl,_,rfl,p,_,dx,_,_,rfl,a1,T.UA.c,T.iF,rfl,_,rfl,p,_,dx,_,_,rfl,a1,T.UA.c,T.AN,rfl,(by show 3<=sizeLine;decide),λt ht=>?_⟩;have s1:=(Same.refl H).new (o:=HO.tup [.int (cutsIn (r::l)),.int (piecesIn (r::l)),.ref rw]) ht;exact k _ _ s1 ⟨t,_,rfl,.inl (.inl C0),.cons rfl (.cons rfl (.cons ⟨rw,rfl,s1.tup a2⟩ .nil))⟩
theorem Nk(T:vA Kq k9 aq):Fo Pq wq bq true T.vG 1 (Sf Kq aq.b8):=by
 refine T.vG.F.kk T.vG.S λH vs Q E h=>?_;obtain⟨v,l,rfl,pa,l1,k⟩:=h;refine⟨rfl,λhr=>?_⟩;have zl:=BM;refine⟨_,(T0 (FC 1 T.vG.S (d6 Z0))
  (T0 (KN O1.po (W3 Nl (pv 0) lY (V3 _)) (T0 (n6 (BD j2 j3 o3 K9 (pv 1) (F0 (U2 (pv 0) rfl) Z0)))
  (X0 (FC 0 T.vG.S (U2 (pv 0) rfl)))))
  (X0 (Q3 (pv 1))))),?_⟩
 refine⟨D1 _,λq nq=>?_⟩;refine LN (λσ H'=>E3 λ(i:Nat)(v:V)(ts:List Addr)=>A5 (i<=l.length) (σ=[some v,some (.ref q)]) (AA Kq aq.b8 H (l.drop i) v) (H'=upd H q (.lst (ts.map V.ref))) (Paired (λt r=>eA Kq H t ((rI r).map V.int)) ts (l.take i))) (λ_ H'=>match H' q with
  |some (.lst xs)=>l.length-xs.length
  |_=>0) ⟨0,v,[],D1 _,rfl,pa,rfl,.nil⟩ ?_ ?_
 case refine_2=>exact λσ H' R R' m ⟨v,e,e2,b,e3,z⟩=>⟨v,e,e2,b,e3,m _ _ z⟩
 rintro σ H' ⟨i,v,ts,hi,rfl,pa',rfl,pt⟩;have lts:=J1 pt;rw[Z1]at lts;have sq:Same H (upd H q (.lst (ts.map V.ref))):=(Same.refl _).new nq;refine⟨_,rfl,rfl,_,rfl,?_⟩;cases hd:l.drop i with
 |nil=>
  rw[hd]at pa';obtain rfl:v=.non:=pa';refine a8 ⟨_,rfl,?_⟩;have e:i=l.length:=by
   have z:=V6 List.length hd;rw[pC,O6]at z
   lia
  rw[e,Y1]at pt;exact k _ q ts sq nq C0 (Paired.mapP pt λ_ _ z=>sq.tup z)
 |cons r Y7=>
  rw[hd]at pa';obtain⟨p,dx,rw,av,rfl,a1,a2,a3⟩:=pa';have il:i<l.length:=by
   have z:=V6 List.length hd;rw[pC,N1]at z
   lia
  have er:l[i]?=some r:=by
   have z:=V6 List.head? hd;rw[List.head?_drop]at z;exact z
  refine C7 ?_;refine⟨_,rfl,.inl ⟨rfl,_,SqL.of C0⟩,_,rfl,p,_,dx,_,_,rfl,sq _ _ a1,T.UA.c,T.AN,rfl,q,_,_,rfl,rfl,C0,(by rw[B0];lia),?_⟩;rw[Y4];refine⟨_,rfl,p,_,dx,_,_,rfl,(by rw[N0 (C1 a1 nq)];exact a1),T.UA.c,T.XO,rfl,?_⟩;refine⟨⟨i+1,av,ts++[rw],il,rfl,?_,by rw[U0];rfl,?_⟩,?_⟩
  .have z:l.drop (i+1)=Y7:=by
    have y:=V6 List.tail hd;rw[List.tail_drop]at y;exact y
   rw[z];exact a3
  .rw[T3 er];exact B4 pt a2
  show(match upd H q (.lst (ts.map V.ref++[.ref rw])) q with
   |some (.lst xs)=>l.length-xs.length
   |_=>0)<(match upd H q (.lst (ts.map V.ref)) q with
   |some (.lst xs)=>l.length-xs.length
   |_=>0)
  rw[C0,C0];show l.length-(ts.map V.ref++[V.ref rw]).length<l.length-(ts.map V.ref).length;rw[T1,B0,D8]
  lia
theorem Uf(T:vA Kq k9 aq):Fo Pq wq bq true T.aC 1 (cY Kq):=by
 refine T.aC.F.kk T.aC.S λH vs Q E h=>?_;obtain⟨p,r,x,rfl,hp,r1,k⟩:=h;refine⟨rfl,λhr=>?_⟩;have zl:=BM;refine⟨_,(T0 (FC 2 T.aC.S (d6 Z0))
  (T0 (FC 3 T.aC.S (pv 1))
  (T0 (t8 O1.po rfl (FP (pv 0)) (wE 4 T.aC.S) (T0 (n6 (BD j2 j3 o3 K9 (pv 2) (F0 (LD (F0 (pv 3) (F0 (pv 4) Z0))) Z0)))
  (X0 (psa 3 T.aC.S (P7 eD (HB (v:=.ref aq.lA) rfl T.iJ rfl) (pv 4) (λ_ _=>rfl)) mY))))
  (X0 (Q3 (pv 2)))))),?_⟩
 refine⟨D1 _,λq nq=>?_⟩;refine⟨_,rfl,?_⟩;have s0':Same H (upd H q (.lst [])):=(Same.refl _).new nq;refine⟨_,rfl,p,rfl,⟨_,s0'.tup hp⟩,Fl (K:=Kq) (a:=p) (xs:=(rI r).map V.int) (λi σ H'=>E2 λ(v4:Option V)(ts:List Addr)=>A4 (σ=[some (.ref p),some (.int x),some (.ref q),some (.int ((x+lengthOf (r.take i):Nat):Int)),v4]) (Same H H') (H' q=some (.lst (ts.map V.ref))) (NB H' ts ((Bd.placed x (r.take i)).map λz=>pI (rk z))))
  ⟨none,[],rfl,s0',C0,.nil⟩ (by rintro i σ H' _ ⟨_,_,_,s1,_⟩;exact s1.tup hp) ?_ ?_⟩
 .rintro i v σ H' hi ⟨v4,ts,rfl,s1,BK,tt⟩;obtain⟨pc,hpc,rfl⟩:=AV hi;have il:=(P0.mp hpc).1;have lts:=J1 tt;have pl:∀(x:Nat)(r:Bd.Row),(Bd.placed x r).length=r.length:=λx r=>by
   have z:=V6 List.length (nN x r);rw[B0]at z;exact z
  rw[B0,pl,Z1]at lts;refine⟨_,rfl,.inl ⟨rfl,_,SqL.of BK⟩,_,rfl,_,rfl,(by show 2<=sizeLine;decide),λt nt=>?_⟩;have hq2:upd H' t (.tup [.int ((x+lengthOf (r.take i):Nat):Int),.int pc.rank]) q=some (.lst (ts.map V.ref)):=by rw[N0 (C1 BK nt)];exact BK
  refine⟨q,_,_,rfl,rfl,hq2,(by rw[B0];lia),?_⟩;refine⟨_,rfl,_,rfl,aq.lA,_,_,_,rfl,rfl,T.jJ _,X5 (qP pc),_,_,rfl,rfl,?_⟩;have nq':q≠t:=C1 BK nt;refine⟨some (.int pc.rank),ts++[t],?_,?_,?_,?_⟩
  .have e1:=T3 hpc;have e2:lengthOf (r.take (i+1))=lengthOf (r.take i)+pc.length:=by rw[e1,OM]
   have c1:((x+lengthOf (r.take i):Nat):Int)+(pc.length:Int)=((x+lengthOf (r.take (i+1)):Nat):Int):=by rw[e2];lia
   show[some (V.ref p),some (V.int x),some (V.ref q),some (V.int (((x+lengthOf (r.take i):Nat):Int)+(pc.length:Int))),some (V.int pc.rank)]=_;rw[c1]
  .exact(s1.new nt).set nq
  .rw[U0];exact C0
  .rw[Tf hpc,U0];refine B4 (Paired.mapP tt λt' z e=>?_) ?_
   .rw[N0 (λz=>by rw[z,BK]at e;cases e),N0 (C1 e nt)];exact e
   .rw[N0 nq'.symm,C0];rfl
 .rintro σ H' ⟨v4,ts,rfl,s1,BK,tt⟩;rw[W9,Y1]at tt;exact⟨_,rfl,k _ q ts s1 BK tt⟩
def V5(K:Frag)(H:Hp):List Addr->List Bd.Row->Prop:=Paired λt r=>eA K H t ((rI r).map V.int)
theorem V5.same{K:Frag}(s:Same H H') (h:V5 K H ts l):V5 K H' ts l:=Paired.mapP h λ_ _ q=>s.tup q
theorem V5.len{K:Frag}(h:V5 K H ts l):ts.length=l.length:=J1 h
theorem V5.app{K:Frag}{us:List Addr}(h:V5 K H ts l) (h2:V5 K H us m):V5 K H (ts++us) (l++m):=by
 induction h with
 |nil=>exact h2
 |cons a _ ih=>exact .cons a ih
theorem V5.set{K:Frag}(hq:H q=some (.lst xs)) (h:V5 K H ts l):V5 K (upd H q (.lst ys)) ts l:=Paired.mapP h λ_ _ z=>KF hq z
theorem Pk(h:b.courses≠[])(k:Nat):b.courses[k%b.courses.length]?=some (b.course k):=by
 have l:k%b.courses.length<b.courses.length:=bN _ (D5.mpr h);unfold Bond.course;rw[Q2,K0 l];rfl
inductive Eo(K:Frag)(C:Addr)(vs:List V)(H:Hp)(Q:VK)(E':XK):Prop
 |mk (p dx mk pp:Addr) (ps:List Addr) (b:Bond) (k:Nat):vs=[.ref p,.int k]->lI K C H p dx mk pp ps b->b.courses≠[]->(∀q:Addr,H q=some (.tup ((rI (b.course k)).map V.int))->Q (.ref q) H)->Eo K C vs H Q E'
def OF(mk:Bd.Row)(l:List Bd.Row):List Bd.Row:=l.flatMap λr=>mk.map λp=>r++[p]
def MB(mk:Bd.Row):Nat->List Bd.Row
 |0=>[[]]
 |n+1=>OF mk (MB mk n)
def iM(mk:Bd.Row):Nat->List Bd.Row
 |0=>[[]]
 |n+1=>iM mk n++MB mk (n+1)
theorem kK(mk:Bd.Row):∀l:List Bd.Row,(OF mk l).length=l.length*mk.length
 |[]=>by simp[OF]
 |r::l=>by
  show((mk.map λp=>r++[p])++OF mk l).length=_;rw[T1,B0,kK mk l,N1,Nat.add_mul,Nat.one_mul,Nat.add_comm]
theorem pJ(mk:Bd.Row):∀(n:Nat)(r:Bd.Row),r∈MB mk n↔r.length=n/\∀p∈r,p∈mk
 |0,r=>by
  show r∈[[]]↔_;rw[Q1];exact⟨λe=>by rw[e];exact⟨rfl,λp h=>by cases h⟩,λh=>d4.mp h.1⟩
 |n+1,r=>by
  show r∈OF mk (MB mk n)↔_;unfold OF;rw[R7];constructor
  .rintro⟨s,hs,h⟩;obtain⟨p,hp,rfl⟩:=S2.mp h;obtain⟨h1,h2⟩:=(pJ mk n s).mp hs;refine⟨by rw[T1,h1];rfl,λq hq=>?_⟩;rcases F2.mp hq with m|m
   .exact h2 q m
   .rw[Q1.mp m];exact hp
  .rintro⟨h1,h2⟩;have bL:r≠[]:=λe=>by rw[e]at h1;simp at h1
   refine⟨r.dropLast,(pJ mk n _).mpr ⟨by rw[List.length_dropLast];lia,λp hp=>h2 p (List.dropLast_subset r hp)⟩,S2.mpr ⟨r.getLast bL,h2 _ (List.getLast_mem bL),rB bL⟩⟩
theorem CV(mk:Bd.Row):∀(n:Nat)(r:Bd.Row),r∈iM mk n↔r.length<=n/\∀p∈r,p∈mk
 |0,r=>by
  show r∈[[]]↔_;rw[Q1];exact⟨λe=>by rw[e];exact⟨j1 _,λp h=>by cases h⟩,λh=>d4.mp (by lia)⟩
 |n+1,r=>by
  show r∈iM mk n++MB mk (n+1)↔_;rw[F2,CV mk n,pJ];constructor
  .rintro(⟨h1,h2⟩|⟨h1,h2⟩)
   .exact⟨by lia,h2⟩
   .exact⟨by lia,h2⟩
  .rintro⟨h1,h2⟩;by_cases c:r.length=n+1
   .exact .inr ⟨c,h2⟩
   .exact .inl ⟨by lia,h2⟩
theorem qJ(mk:Bd.Row)(h:mk.length<=5):∀n,(MB mk n).length<=5^n
 |0=>j1 _
 |n+1=>by
  show(OF mk (MB mk n)).length<=_;rw[kK,iO];exact iC (qJ mk h n) h
theorem DV(mk:Bd.Row)(h:mk.length<=5)(hn:n<=2):(iM mk n).length<=31:=by
 have h1:=qJ mk h 1;have h2:=qJ mk h 2;have e:n=0\/n=1\/n=2:=by lia
 rcases e with rfl|rfl|rfl
 .show 1<=31;decide
 .show([[]]++MB mk 1).length<=31;rw[T1,D8]
  lia
 .show(([[]]++MB mk 1)++MB mk 2).length<=31;rw[T1,T1,D8]
  lia
theorem EV{mk:Bd.Row}:∀{n:Nat},(0<n->mk≠[])->MB mk n≠[]
 |0,_=>by
  show([[]]:List Bd.Row)≠[];simp
 |n+1,h=>by
  intro e;have h1:=EV (n:=n) λ_=>h (by lia);have z:=V6 List.length e;have e2:(MB mk (n+1)).length=(MB mk n).length*mk.length:=kK mk (MB mk n);rw[e2,O6]at z;have a1:=D5.mpr h1;have a2:=D5.mpr (h (by lia));have:=Nat.mul_pos a1 a2
  lia
def tE(b:Bond):List Bd.Row:=iM b.makes b.most
theorem KD:r∈tE b↔zdJ b r:=CV _ _ _
inductive Gy(K:Frag)(C:Addr)(vs:List V)(H:Hp)(Q:VK)(E':XK):Prop
 |mk (p dx mk pp:Addr) (ps:List Addr) (b:Bond):vs=[.ref p]->lI K C H p dx mk pp ps b->jE b->(∀(H':Hp)(q:Addr)(ts:List Addr),Same H H'->H' q=some (.lst (ts.map V.ref))->V5 K H' ts (tE b)->Q (.ref q) H')->Gy K C vs H Q E'
def QM(K:Frag)(H:Hp)(kvs:List (YC×V))(l:List Bd.Row):Prop:=∀n:Nat,match a9 kvs (.inl (n:Int))with
 |none=>l.filter (λr=>lengthOf r==n)=[]
 |some v=>∃(q:Addr)(ts:List Addr),v=.ref q/\H q=some (.lst (ts.map V.ref))/\V5 K H ts (l.filter λr=>lengthOf r==n)
inductive Go(K:Frag)(vs:List V)(H:Hp)(Q:VK)(E':XK):Prop
 |mk (p:Addr) (ts:List Addr) (l:List Bd.Row):vs=[.ref p]->H p=some (.lst (ts.map V.ref))->V5 K H ts l->l.length<=1000->(∀r∈l,r.length<=1000)->(∀(H':Hp)(d:Addr)(kvs:List (YC×V)),Same H H'->H d=none->H' d=some (.dK kvs)->QM K H' kvs l->(∀(n:Nat)(q:Addr),a9 kvs (.inl (n:Int))=some (.ref q)->H q=none)->Q (.ref d) H')->Go K vs H Q E'
theorem cH(T:vA Kq k9 aq):Mo k9 Pq wq bq true T.f8 1 (Eo Kq aq.tD):=by
 refine T.f8.F.kk T.f8.S λH vs Q E h=>?_;obtain⟨p,dx,mk,pp,ps,b,n,rfl,B,hc,k⟩:=h;refine⟨rfl,λhr=>?_⟩;refine⟨_,(X0 (Q3 (P7 B7 (U2 (pv 0) rfl) (X4 Dh (pv 1) (NS T.wB (U2 (pv 0) rfl))) (λ_ _=>rfl)))),?_⟩;have lp:ps.length=b.courses.length:=by
  have z:=J1 B.ps;rw[B0]at z;exact z
 have pos:0<b.courses.length:=D5.mpr hc;have em:=Pk hc n;obtain⟨q,hq,hq2⟩:=Paired.getR B.ps (show(b.courses.map rI)[n%b.courses.length]?=some (rI (b.course n)) by rw[P1,em];rfl);refine⟨_,rfl,p,_,dx,_,_,rfl,B.ob,T.nE.c,T.MF,rfl,_,rfl,_,rfl,p,_,dx,_,_,rfl,B.ob,T.nE.c,T.MF,rfl,pp,_,rfl,.inl (SqL.of B.pt),_,_,rfl,rfl,?_,pp,_,_,.ref q,rfl,rfl,SqL.of B.pt,vT (j:=n%b.courses.length) ?_ (by rw[P1,hq];rfl),k q hq2⟩
 .show(0:Int)<(((ps.map V.ref).length:Nat):Int);rw[B0,lp]
  lia
 .show(n:Int)%(((ps.map V.ref).length:Nat):Int)=_;rw[B0,lp]
  push_cast
  rfl
theorem uS(T:vA Kq k9 aq):Fo Pq wq bq true T.L6 1 (Gy Kq aq.tD):=by
 refine T.L6.F.kk T.L6.S λH vs Q E h=>?_;obtain⟨p,dx,mk,pp,ps,b,rfl,B,zE,k⟩:=h;refine⟨rfl,λhr=>?_⟩;have zl:=BM;refine⟨_,(T0 (FC 1 T.L6.S (d6 (F0 (LD Z0) Z0)))
  (T0 (FC 2 T.L6.S (d6 (F0 (LD Z0) Z0)))
  (T0 (KN O1.po (W3 Ml (NS T.wB (P7 B7 (pv 2) O2 (λ_ _=>rfl))) (U2 (pv 0) rfl) (V3 _)) (T0 (FC 3 T.L6.S (d6 Z0))
  (T0 (t8 O1.po rfl (W7 (pv 2)) (wE 4 T.L6.S) (X0 (n6 (BD j2 o7 t7 qG (pv 3) (F0 (GC O1 rfl rfl (own:=[("piece",5)]) rfl T.L6.S.nd (FP (U2 (pv 0) rfl)) (bW ["bond","rows","longest","longer","row","piece"] (X3 LL) [("piece",5)]) (λtk=>(wE 5 T.L6.S)) (λtk=>Y9) (λtk=>(X4 (pX (K:=Kq) rfl) (pv 4) (LD (F0 (pv 5) Z0))))) Z0)))))
  (T0 (FC 2 T.L6.S (pv 3))
  (X0 (n6 (BD j2 o7 t7 qG (pv 1) (F0 (pv 2) Z0))))))))
  (X0 (Q3 (pv 1)))))),?_⟩
 refine⟨(by show 0<=sizeLine;exact D1 _),λt1 n1=>⟨(by show 1<=sizeLine;decide),λq nq=>?_⟩⟩;have s1:Same H (upd (upd H t1 (.tup [])) q (.lst [.ref t1])):=((Same.refl _).new n1).new nq;refine⟨(by show 0<=sizeLine;exact D1 _),λt2 n2=>⟨(by show 1<=sizeLine;decide),λg ng=>?_⟩⟩;have s2:Same (upd (upd H t1 (.tup [])) q (.lst [.ref t1])) (upd (upd (upd (upd H t1 (.tup [])) q (.lst [.ref t1])) t2 (.tup [])) g (.lst [.ref t2])):=((Same.refl _).new n2).new ng;have hq0:upd (upd (upd (upd H t1 (.tup [])) q (.lst [.ref t1])) t2 (.tup [])) g (.lst [.ref t2]) q=some (.lst ([t1].map V.ref)):=s2 _ _ C0;have ht1:upd (upd (upd (upd H t1 (.tup [])) q (.lst [.ref t1])) t2 (.tup [])) g (.lst [.ref t2]) t1=some (.tup []):=s2 _ _ (by rw[N0 (C1 C0 nq)];exact C0);have ht2:upd (upd (upd (upd H t1 (.tup [])) q (.lst [.ref t1])) t2 (.tup [])) g (.lst [.ref t2]) t2=some (.tup []):=by rw[N0 (C1 C0 ng)];exact C0
 have hg0:upd (upd (upd (upd H t1 (.tup [])) q (.lst [.ref t1])) t2 (.tup [])) g (.lst [.ref t2]) g=some (.lst ([t2].map V.ref)):=C0;have gq:g≠q:=(C1 (s2 q _ C0 |> λz=>by rw[N0 (C1 (show(upd (upd (upd H t1 (.tup [])) q (.lst [.ref t1])) t2 (.tup [])) q=some _ from by rw[N0 (C1 C0 n2)];exact C0) ng)]at z;exact z) ng).symm;have iH:=s1.trans s2;have nqH:H q=none:=((Same.refl H).new n1 (o:=HO.tup [])).free nq;generalize upd (upd (upd (upd H t1 (.tup [])) q (.lst [.ref t1])) t2 (.tup [])) g (.lst [.ref t2])=H0 at iH hq0 ht1 ht2 hg0;refine LN (λσ H'=>E7 λ(i:Nat)(g:Addr)(v3 v4 v5:Option V)(ts us:List Addr)=>A8 (i<=b.most) (σ=[some (.ref p),some (.ref q),some (.ref g),v3,v4,v5]) (Same H H') (g≠q) (H' q=some (.lst (ts.map V.ref))) (V5 Kq H' ts (iM b.makes i)) (H' g=some (.lst (us.map V.ref))) (V5 Kq H' us (MB b.makes i))) (λ_ H'=>match H' q with
  |some (.lst xs)=>1000-xs.length
  |_=>0) ⟨0,g,none,none,none,[t1],[t2],D1 _,rfl,iH,gq,hq0,.cons (.inl (.inl ht1)) .nil,hg0,.cons (.inl (.inl ht2)) .nil⟩ ?_ ?_
 case refine_2=>
  intro σ H' R R' m h;obtain⟨x1,x2,x3,x4,x5,x6,x7,x8,x9,y1,y2,y3,y4,y5,y6,y7,y8,y9,z1,z2,z3,z4,z5,z6,z7,z8,z9,u1,u2,u3,u4,u5,zz⟩:=h;exact⟨x1,x2,x3,x4,x5,x6,x7,x8,x9,y1,y2,y3,y4,y5,y6,y7,y8,y9,z1,z2,z3,z4,z5,z6,z7,z8,z9,u1,u2,u3,u4,u5,m _ _ zz⟩
 rintro σ H' ⟨i,g,v3,v4,v5,ts,us,hi,rfl,sm,gq,hq,rq,hg,rg⟩;have m2:=zE.most;have lq:=rq.len;have lg:=rg.len;have znH:=DV b.makes zE.makes (n:=i) (by lia);have ne:MB b.makes i≠[]:=EV λq=>zE.some (by lia);obtain⟨r0,hr0⟩:∃r,(MB b.makes i)[0]?=some r:=⟨_,K0 (D5.mpr ne)⟩
 obtain⟨u0,hu0,su0⟩:=Paired.getR rg hr0;have r0l:=((pJ b.makes i r0).mp (M1 hr0)).1;refine⟨_,rfl,g,_,_,.ref u0,rfl,rfl,SqL.of hg,X5 (j:=0) (by rw[P1,hu0];rfl),u0,_,rfl,.inr su0,_,rfl,p,_,dx,_,_,rfl,sm _ _ B.ob,T.nE.c,T.jR,rfl,_,_,rfl,rfl,_,rfl,?_⟩;rw[W9,r0l];by_cases c:i<b.most
 .rw[F1 (show(i:Int)<(b.most:Int) by lia)];refine C7 ⟨D1 _,λe ne'=>?_⟩;have sm1:Same H (upd H' e (.lst [])):=sm.new ne';have eq_:e≠q:=(C1 hq ne').symm;have eg:e≠g:=(C1 hg ne').symm;have BK:upd H' e (.lst []) q=some (.lst (ts.map V.ref)):=by rw[N0 eq_.symm];exact hq
  have hg1:upd H' e (.lst []) g=some (.lst (us.map V.ref)):=by rw[N0 eg.symm];exact hg
  have rq1:V5 Kq (upd H' e (.lst [])) ts (iM b.makes i):=rq.same ((Same.refl _).new ne');have rg1:V5 Kq (upd H' e (.lst [])) us (MB b.makes i):=rg.same ((Same.refl _).new ne');have he1:upd H' e (.lst []) e=some (.lst (([]:List Addr).map V.ref)):=C0;have neH:H e=none:=sm.free ne';have lN:(MB b.makes i).length<=25:=by
   have z:=qJ b.makes zE.makes i;have:5^i<=5^1:=sA (by decide) (by lia)
   lia
  generalize upd H' e (.lst [])=H1 at sm1 BK hg1 rq1 rg1 he1;refine⟨_,rfl,g,rfl,⟨_,SqL.of hg1⟩,LA (K:=Kq) (a:=g) (xs:=us.map V.ref) (λj σ G=>E2 λ(v4:Option V)(ws:List Addr)=>A8 (σ=[some (.ref p),some (.ref q),some (.ref g),some (.ref e),v4,v5]) (Same H G) (G q=some (.lst (ts.map V.ref))) (V5 Kq G ts (iM b.makes i)) (G g=some (.lst (us.map V.ref))) (V5 Kq G us (MB b.makes i)) (G e=some (.lst (ws.map V.ref))) (V5 Kq G ws (OF b.makes ((MB b.makes i).take j))))
   ⟨v4,[],rfl,sm1,BK,rq1,hg1,rg1,he1,.nil⟩ (by rintro j σ G _ ⟨_,_,_,_,_,_,z,_⟩;exact SqL.of z) ?_ ?_⟩
  .rintro j v σ G hj ⟨v4,ws,rfl,sg,gq1,rq1,gg,rg1,ge,rw1⟩;obtain⟨u,hu,rfl⟩:=U8 hj;obtain⟨r,hr,su⟩:=Paired.get rg1 hu;have rl:=((pJ b.makes i r).mp (M1 hr)).1;refine⟨_,rfl,.inl ⟨rfl,_,SqL.of ge⟩,_,rfl,p,_,dx,_,_,rfl,sg _ _ B.ob,T.nE.c,T.VO,rfl,mk,rfl,⟨_,sg.tup B.mks⟩,λD hD=>?_⟩;refine yY (K:=Kq) (a:=mk) (xs:=(rI b.makes).map V.int) (λm G'=>∃(xs:List Addr),A3 (Same G G') (G' D=some (.lst (xs.map V.ref))) (V5 Kq G' xs ((b.makes.take m).map λp=>r++[p]))) ⟨[],(Same.refl _).new hD,C0,.nil⟩ (by rintro m G' _ ⟨_,s3,_⟩;exact s3.tup (sg.tup B.mks)) ?_ ?_
   .rintro m v G' hm ⟨xs,s3,hD3,rx⟩;obtain⟨pc,hpc,rfl⟩:=AV hm;have ml:=(P0.mp hpc).1;have lx:=rx.len;rw[B0,Z1]at lx;have f5:=zE.makes;refine⟨rfl,?_⟩;dsimp only[Sa];rw[J0 rfl];refine⟨_,rfl,_,rfl,(by show 1<=sizeLine;decide),λt nt=>?_⟩;have st:Same G' (upd G' t (.tup [.int pc.rank])):=(Same.refl _).new nt;refine⟨u,t,_,_,rfl,rfl,(s3.trans st).tup su,.inl (.inl C0),(by rw[W9];show r.length+1<=sizeLine;lia),λG2 t2 s4 Uk=>?_⟩;have Sz:=s4 _ _ (st _ _ hD3);refine⟨_,Sz,(by rw[B0];lia),xs++[t2],?_,by rw[U0];exact C0,?_⟩
    .intro b' o z;have nb:b'≠D:=λy=>by rw[y,hD]at z;cases z
     rw[N0 nb];exact s4 _ _ (st _ _ (s3 _ _ z))
    .rw[T3 hpc,U0];refine B4 ((rx.same (st.trans s4)).set Sz) (KF Sz ?_);show eA Kq G2 t2 ((rI (r++[pc])).map V.int);rw[<-GZ];exact Uk
   .rintro G2 ⟨xs,s3,hD3,rx⟩;rw[W9,Y1]at rx;have ge3:=s3 _ _ ge;have lx:=rx.len;rw[B0]at lx;have lw:=rw1.len;rw[kK,Z1]at lw;have f5:=zE.makes;have bw:ws.length<=125:=by
     rw[lw];exact k4 (iC (QE _ _) f5) (by lia)
    refine⟨e,D,_,_,rfl,rfl,ge3,hD3,(by rw[B0,B0];lia),some (.ref u),ws++xs,rfl,?_,?_,?_,?_,?_,by rw[U0];exact C0,?_⟩
    .exact(sg.trans s3).set neH
    .rw[N0 eq_.symm];exact s3 _ _ gq1
    .exact(rq1.same s3).set ge3
    .rw[N0 eg.symm];exact s3 _ _ gg
    .exact(rg1.same s3).set ge3
    .rw[T3 hr];have el:OF b.makes ((MB b.makes i).take j++[r])=OF b.makes ((MB b.makes i).take j)++b.makes.map λp=>r++[p]:=by
      unfold OF;rw[o9,List.flatMap_singleton]
     rw[el];exact((rw1.same s3).set ge3).app (rx.set ge3)
  .rintro σ G ⟨v4,ws,rfl,sg,gq1,rq1,gg,rg1,ge,rw1⟩;rw[B0,lg,Y1]at rw1;refine⟨_,rfl,?_⟩;have lw:=rw1.len;have lN1:=qJ b.makes zE.makes (i+1);have:5^(i+1)<=5^2:=sA (by decide) (by lia);have wn:0<ws.length:=by
    rw[lw];exact D5.mpr (EV (n:=i+1) λq=>zE.some (by lia))
   have wl:ws.length<=25:=by
    have:(OF b.makes (MB b.makes i)).length<=5^(i+1):=lN1
    lia
   refine⟨_,rfl,.inl ⟨rfl,_,SqL.of gq1⟩,_,rfl,q,e,_,_,rfl,rfl,gq1,ge,(by rw[B0,B0];lia),?_⟩;refine⟨⟨i+1,e,some (.ref e),v4,v5,ts++ws,ws,by lia,rfl,sg.set nqH,eq_,by rw[U0];exact C0,?_,?_,?_⟩,?_⟩
   .exact(rq1.set gq1).app (rw1.set gq1)
   .rw[N0 eq_];exact ge
   .exact rw1.set gq1
   .show(match upd G q (.lst (ts.map V.ref++ws.map V.ref)) q with
     |some (.lst xs)=>1000-xs.length
     |_=>0)<(match H' q with
     |some (.lst xs)=>1000-xs.length
     |_=>0)
    rw[C0,hq];show 1000-(ts.map V.ref++ws.map V.ref).length<1000-(ts.map V.ref).length;rw[T1,B0,B0]
    lia
 .rw[Y0 (show ¬(i:Int)<(b.most:Int) by lia)];refine a8 ⟨_,rfl,?_⟩;have e:i=b.most:=by lia
  rw[e]at rq;exact k _ q ts sm hq rq
def Ho(H0:Hp)(d:Addr)(kvs:List (YC×V)):Prop:=(∀(n m:Nat)(q:Addr),a9 kvs (.inl (n:Int))=some (.ref q)->a9 kvs (.inl (m:Int))=some (.ref q)->n=m)/\∀(n:Nat)(q:Addr),a9 kvs (.inl (n:Int))=some (.ref q)->H0 q=none/\q≠d
theorem Ho.nil{H0:Hp}:Ho H0 d []:=⟨λ_ _ _ h=>(nomatch h),λ_ _ h=>(nomatch h)⟩
theorem QM.nil{K:Frag}:QM K H [] []:=λ_=>rfl
theorem QM.same{K:Frag}(s:Same H H') (h:QM K H kvs l):QM K H' kvs l:=λn=>by
 have z:=h n;cases e:a9 kvs (.inl (n:Int))with
 |none=>rw[e]at z;exact z
 |some v=>
  rw[e]at z;obtain⟨q,ts,rfl,h1,h2⟩:=z;exact⟨q,ts,rfl,s _ _ h1,h2.same s⟩
theorem vP{K:Frag}{b:Addr}(hS:H d=some (.dK k1)) (q:eA K H b xs):eA K (upd H d (.dK k2)) b xs:=by
 rcases q with q|q
 .rcases q with q|⟨o,q⟩
  .exact .inl (.inl (by rw[N0 (λz=>by rw[z,hS]at q;cases q)];exact q))
  .exact .inl (.inr ⟨o,by rw[N0 (λz=>by rw[z,hS]at q;cases q)];exact q⟩)
 .exact .inr q
theorem V5.setD{K:Frag}(hd:H d=some (.dK k1)) (h:V5 K H ts l):V5 K (upd H d (.dK k2)) ts l:=Paired.mapP h λ_ _ z=>vP hd z
theorem DR(h:l[i]?=some r)(n:Nat):(l.take (i+1)).filter (λr=>lengthOf r==n)=(l.take i).filter (λr=>lengthOf r==n)++if lengthOf r=n then[r]else[]:=by
 rw[T3 h,M8];by_cases c:lengthOf r=n
 .rw[J0 c,List.filter_cons_of_pos (by rw[c];exact qC n),FF]
 .rw[D0 c,List.filter_cons_of_neg (by rw[O4];exact c),FF]
theorem Vf(w:Bd.Row)(i n:Nat):repeated w i (n+1)=repeated w i n++[w.getD ((i+n)%w.length) .S]:=by
 unfold repeated;rw[jA,U0];rfl
theorem c9(p:Piece):1<=p.length:=by cases p<;>decide
theorem zC:∀r:Bd.Row,r.length<=lengthOf r
 |[]=>j1 _
 |p::r=>by
  have h1:=zC r;have h2:=c9 p;have e:lengthOf (p::r)=p.length+lengthOf r:=Z3 [p] r;rw[e,N1]
  lia
theorem Hy(w:Bd.Row)(i:Nat){m:Nat}(h:n<=m):lengthOf (repeated w i n)<=lengthOf (repeated w i m):=by
 induction m with
 |zero=>rw[Nat.le_zero.mp h];exact j1 _
 |succ m ih=>
  by_cases c:n=m+1
  .rw[c];exact j1 _
  .rw[Vf,Z3];have:=ih (by lia)
   lia
inductive Io(K:Frag)(vs:List V)(H:Hp)(Q:VK)(E':XK):Prop
 |mk (t pt d:Addr) (s n:Nat) (left qI:Bd.Row) (kvs:List (YC×V)) (made:List Bd.Row):vs=[.ref t,.ref pt,.int s,.int n,.ref d]->eA K H t ((rI left).map V.int)->eA K H pt ((rI qI).map V.int)->qI≠[]->qI.length<=8->s<qI.length->n<=64->left.length<=64->H d=some (.dK kvs)->QM K H kvs made->made.length<=31->(∀r∈made,r.length<=64)->(∀(H':Hp)(q:Addr)(ts:List Addr)(l:List Bd.Row),Same H H'->H' q=some (.lst (ts.map V.ref))->V5 K H' ts l->l.length<=2015->
  (∀r,r∈l↔∃m right,right∈made/\r=(left++repeated qI s m)++right/\lengthOf r=n)->Q (.ref q) H')->Io K vs H Q E'
inductive dY(K:Frag)(C:Addr)(vs:List V)(H:Hp)(Q:VK)(E':XK):Prop
 |mk (p dx mk pp:Addr) (ps:List Addr) (b:Bond) (c n:Nat):vs=[.ref p,.int c,.int n]->lI K C H p dx mk pp ps b->jE b->n<=64->(∀(H':Hp)(q:Addr)(ts:List Addr)(l:List Bd.Row),Same H H'->H' q=some (.lst (ts.map V.ref))->V5 K H' ts l->l.length<=500000->(∀r,r∈l↔lengthOf r=n/\Ii b c r)->Q (.ref q) H')->dY K C vs H Q E'
theorem Xf(h:jE b):(tE b).length<=31:=DV b.makes h.makes h.most
def Iy(q:Addr)(H H':Hp):Prop:=∀b o,H b=some o->b≠q->H' b=some o
theorem Iy.tup{K:Frag}(f:Iy q H H') (hq:H q=some (.lst ys)) (h:eA K H t xs):eA K H' t xs:=by
 rcases h with h|h
 .rcases h with h|⟨o,h⟩
  .exact .inl (.inl (f _ _ h λz=>by rw[z,hq]at h;cases h))
  .exact .inl (.inr ⟨o,f _ _ h λz=>by rw[z,hq]at h;cases h⟩)
 .exact .inr h
theorem Iy.rows{K:Frag}(f:Iy q H H') (hq:H q=some (.lst ys)) (h:V5 K H ts l):V5 K H' ts l:=Paired.mapP h λ_ _ z=>f.tup hq z
theorem wP(T:vA Kq k9 aq):Fo Pq wq bq true T.N9 2 (Go Kq):=by
 refine T.N9.F.kk T.N9.S λH vs Q E h=>?_;obtain⟨p,ts,l,rfl,hp,rt,zld,zg1,k⟩:=h;refine⟨rfl,λhr=>?_⟩;have zl:=BM;have lt:=rt.len;refine⟨_,(T0 (FC 1 T.N9.S rT)
  (T0 (t8 O1.po rfl (W7 (pv 0)) (wE 2 T.N9.S) (X0 (n6 (BD j2 j3 o3 K9 (Lw (pv 1) (MC T.XB (sP T) hr (F0 (pv 2) Z0)) (d6 Z0) ⟨rfl,rfl,rfl,rfl⟩) (F0 (pv 2) Z0)))))
  (X0 (Q3 (pv 1))))),?_⟩
 refine λd nd=>?_;have s1:Same H (upd H d (.dK [])):=(Same.refl _).new nd;refine⟨_,rfl,p,rfl,⟨_,SqL.of (s1 _ _ hp)⟩,LA (K:=Kq) (a:=p) (xs:=ts.map V.ref) (λi σ H'=>E2 λ(v:Option V)(kvs:List (YC×V))=>A6 (σ=[some (.ref p),some (.ref d),v]) (Same H H') (H' d=some (.dK kvs)) (kvs.length<=i) (QM Kq H' kvs (l.take i)) (Ho H d kvs))
  ⟨none,[],rfl,s1,C0,D1 _,QM.nil,Ho.nil⟩ (by rintro i σ H' _ ⟨_,_,_,s,_⟩;exact SqL.of (s _ _ hp)) ?_ ?_⟩
 .rintro i y σ H' hi ⟨v,kvs,rfl,s2,hd,lk,bl,ow⟩;obtain⟨t,ht,rfl⟩:=U8 hi;obtain⟨r,hr,sr⟩:=Paired.get rt ht;have il:=(P0.mp hr).1;have rm:=M1 hr;refine⟨_,rfl,d,rfl,.inl ⟨_,.inl hd⟩,_,rfl,t,r,rfl,s2.tup sr,zg1 r rm,λH3 s3=>⟨D1 _,λz nz=>?_⟩⟩;have s4:Same H3 (upd H3 z (.lst [])):=(Same.refl _).new nz;have Ep:=s4 _ _ (s3 _ _ hd);have hz4:upd H3 z (.lst []) z=some (.lst []):=C0;have s24:=s2.trans (s3.trans s4);have bl4:=bl.same (s3.trans s4);have nzH:H z=none:=(s2.trans s3).free nz;generalize upd H3 z (.lst [])=H4 at s4 Ep hz4 s24 bl4;refine⟨kvs,.inl (lengthOf r:Int),Ep,rfl,by lia,λv hv=>?_,λhv=>?_⟩
  .have b0:=bl4 (lengthOf r);rw[hv]at b0;obtain⟨q,us,rfl,hq,ru⟩:=b0;obtain⟨nqH,qd⟩:=ow.2 _ q hv;have lu:=ru.len;have:=E8 (λx=>lengthOf x==lengthOf r) (l.take i);rw[Z1]at this;refine⟨.inl ⟨rfl,_,SqL.of hq⟩,_,rfl,q,_,.ref t,rfl,rfl,hq,(by rw[B0];lia),some (.ref t),kvs,rfl,s24.set nqH,by rw[N0 qd.symm];exact Ep,by lia,λn=>?_,ow⟩;rw[DR hr];by_cases c:lengthOf r=n
   .subst c;rw[hv,J0 rfl];exact⟨q,us++[t],rfl,by rw[C0,U0];rfl,(ru.set hq).app (.cons (KF hq (s24.tup sr)) .nil)⟩
   .rw[D0 c,D3];have b1:=bl4 n;cases e:a9 kvs (.inl (n:Int))with
    |none=>rw[e]at b1;exact b1
    |some v1=>
     rw[e]at b1;obtain⟨q1,us1,rfl,BK,ru1⟩:=b1;have qq:q1≠q:=λz=>c (ow.1 _ _ q hv (by rw[e,z]));exact⟨q1,us1,rfl,by rw[N0 qq];exact BK,ru1.set hq⟩
  .have zd:z≠d:=λe=>by rw[e,s3 _ _ hd]at nz;cases nz
   have hz5:upd H4 d (.dK (nF kvs (.inl (lengthOf r:Int)) (.ref z))) z=some (.lst []):=by rw[N0 zd];exact hz4
   have b0:=bl4 (lengthOf r);rw[hv]at b0;have lp:=CD kvs (.inl (lengthOf r:Int)) (.ref z);have vp:∀n:Nat,a9 (nF kvs (.inl (lengthOf r:Int)) (.ref z)) (.inl (n:Int))=if n=lengthOf r then some (.ref z)else a9 kvs (.inl (n:Int)):=λn=>by
    rw[Ua];by_cases c:n=lengthOf r
    .rw[J0 (by rw[c]),J0 c]
    .rw[D0 (λe=>c (by have:=uA e;lia)),D0 c]
   have ozq:∀(n:Nat)(q:Addr),a9 kvs (.inl (n:Int))=some (.ref q)->q≠z:=λn q e ez=>by
    have b1:=bl n;rw[e]at b1;obtain⟨q1,us1,e1,BK,_⟩:=b1;obtain rfl:=V.ref.inj e1;rw[ez]at BK;rw[s3 _ _ BK]at nz;cases nz
   refine⟨.inl ⟨rfl,_,SqL.of hz5⟩,_,rfl,z,_,.ref t,rfl,rfl,hz5,(by show 0<sizeLine;lia),some (.ref t),_,rfl,(s24.set nd).set nzH,by rw[N0 zd.symm];exact C0,by lia,λn=>?_,⟨λn m q e1 e2=>?_,λn q e=>?_⟩⟩
   .rw[DR hr,vp];by_cases c:n=lengthOf r
    .rw[J0 c,J0 c.symm];subst c;rw[b0];exact⟨z,[t],rfl,C0,.cons (KF hz5 (vP Ep (s24.tup sr))) .nil⟩
    .rw[D0 c,D0 (λe=>c e.symm),D3];have b1:=bl4 n;cases e:a9 kvs (.inl (n:Int))with
     |none=>rw[e]at b1;exact b1
     |some v1=>
      rw[e]at b1;obtain⟨q1,us1,rfl,BK,ru1⟩:=b1;exact⟨q1,us1,rfl,by rw[N0 (ozq n q1 e),N0 (ow.2 n q1 e).2];exact BK,(ru1.setD Ep).set hz5⟩
   .rw[vp]at e1 e2;by_cases c1:n=lengthOf r
    .by_cases c2:m=lengthOf r
     .rw[c1,c2]
     .rw[J0 c1]at e1;rw[D0 c2]at e2;exact absurd (V.ref.inj (M0 e1)).symm (ozq m q e2)
    .rw[D0 c1]at e1;by_cases c2:m=lengthOf r
     .rw[J0 c2]at e2;exact absurd (V.ref.inj (M0 e2)).symm (ozq n q e1)
     .rw[D0 c2]at e2;exact ow.1 n m q e1 e2
   .rw[vp]at e;by_cases c1:n=lengthOf r
    .rw[J0 c1]at e;obtain rfl:=V.ref.inj (M0 e);exact⟨nzH,zd⟩
    .rw[D0 c1]at e;exact ow.2 n q e
 .rintro σ H' ⟨v,kvs,rfl,s2,hd,lk,bl,ow⟩;rw[B0,lt,Y1]at bl;exact⟨_,rfl,k _ d kvs s2 nd hd bl λn q e=>(ow.2 n q e).1⟩
theorem EW(T:vA Kq k9 aq):Fo Pq wq bq true T.r6 2 (Io Kq):=by
 refine T.r6.F.kk T.r6.S λH vs Q E h=>?_;obtain⟨t,pt,d,s,n,left,qI,kvs,made,rfl,ht,hpt,pn,p8,sp,n64,l64,hd,bl,m31,mr,k⟩:=h;refine⟨rfl,λhr=>?_⟩;have zl:=BM;refine⟨_,(T0 (FC 5 T.r6.S (d6 Z0))
  (T0 (FC 6 T.r6.S (pv 0))
  (T0 (FC 7 T.r6.S (X4 EC (pv 3) (MC T.XB (sP T) hr (F0 (pv 0) Z0))))
  (T0 (FC 8 T.r6.S (pv 2))
  (T0 (KN O1.po (W3 zbR (pv 7) O2 (V3 _)) (T0 (n6 (BD j2 o7 t7 qG (pv 5) (F0 (GC O1 rfl rfl (own:=[("right",9)]) rfl T.r6.S.nd (W7 (sT (GM hr) (pv 4) (pv 7) (d6 Z0) ⟨rfl,rfl,rfl,rfl⟩)) (bW ["left","pattern","start","length","by_length","rows","begun","rest","number","right","piece"] (X3 FO) [("right",9)]) (λtk=>(wE 9 T.r6.S)) (λtk=>Y9) (λtk=>(X4 (pX (K:=Kq) rfl) (pv 6) (pv 9)))) Z0)))
  (T0 (FC 10 T.r6.S (P7 eD (pv 1) (X4 Dh (pv 8) (NS T.wB (pv 1))) (λ_ _=>rfl)))
  (T0 (FC 6 T.r6.S (X4 Bc (pv 6) (LD (F0 (pv 10) Z0))))
  (T0 (psa 7 T.r6.S (P7 eD (HB (v:=.ref aq.lA) rfl T.iJ rfl) (pv 10) (λ_ _=>rfl)) zcY)
  (X0 (psa 8 T.r6.S O2 mY)))))))
  (X0 (Q3 (pv 5)))))))),?_⟩
 refine⟨D1 _,λq nq=>?_⟩;have s1:Same H (upd H q (.lst [])):=(Same.refl _).new nq;refine⟨_,rfl,_,rfl,_,rfl,t,left,rfl,s1.tup ht,by lia,λH1 s2=>⟨_,_,rfl,rfl,_,rfl,?_⟩⟩;have iH:=s1.trans s2;have BK:H1 q=some (.lst (([]:List Addr).map V.ref)):=s2 _ _ C0;have r0:left++repeated qI s 0=left:=D3 left;refine LN (λσ H'=>E6 λ(m:Nat)(bt:Addr)(v9 v10:Option V)(ts:List Addr)(l:List Bd.Row)=>A8 (m<=65) (σ=[some (.ref t),some (.ref pt),some (.int s),some (.int n),some (.ref d),some (.ref q),some (.ref bt),some (.int ((n:Int)-(lengthOf (left++repeated qI s m):Int))),some (.int ((s+m:Nat):Int)),v9,v10]) (Same H H') (eA Kq H' bt ((rI (left++repeated qI s m)).map V.int)) (H' q=some (.lst (ts.map V.ref))) (V5 Kq H' ts l) (l.length<=31*m) (∀r,r∈l↔∃m' right,m'<m/\right∈made/\r=(left++repeated qI s m')++right/\lengthOf r=n)) (λ(σ:L2.St) _=>match σ[7]? with
  |some (some (V.int z))=>(z+1).toNat
  |_=>0) ⟨0,t,none,none,[],[],D1 _,by rw[r0];rfl,iH,by rw[r0];exact iH.tup ht,BK,.nil,D1 _,λr=>⟨λh=>(nomatch h),λ⟨m',_,h,_⟩=>absurd h (by lia)⟩⟩ ?_ ?_
 case refine_2=>
  intro σ H' R R' m h;obtain⟨x1,x2,x3,x4,x5,x6,x7,x8,zz⟩:=h;exact⟨x1,x2,x3,x4,x5,x6,x7,x8,m _ _ zz⟩
 rintro σ H' ⟨m,bt,v9,v10,ts,l,m65,rfl,sm,hbt,hq,rl,ll,mem⟩;have bl1:=zC (left++repeated qI s m);rw[T1,Om]at bl1;refine⟨_,rfl,_,_,rfl,rfl,_,rfl,?_⟩;by_cases c:lengthOf (left++repeated qI s m)<=n
 .rw[F1 (show(n:Int)-(lengthOf (left++repeated qI s m):Int)≥0 by lia)];have hd1:=sm _ _ hd;refine C7 ⟨_,rfl,.inl ⟨rfl,_,SqL.of hq⟩,_,rfl,d,rfl,.inl ⟨_,.inl hd1⟩,_,rfl,D1 _,λz nz=>?_⟩;have s3:Same H' (upd H' z (.lst [])):=(Same.refl _).new nz;have hz3:upd H' z (.lst []) z=some (.lst (([]:List Addr).map V.ref)):=C0;have er:(n:Int)-(lengthOf (left++repeated qI s m):Int)=((n-lengthOf (left++repeated qI s m):Nat):Int):=by lia
  rw[er];have XZ:=s3 _ _ hd1;refine⟨_,EK.k (k:=.inl ((n-lengthOf (left++repeated qI s m):Nat):Int)) XZ,?_⟩;have bl3:=(bl.same (sm.trans s3)) (n-lengthOf (left++repeated qI s m));have nzH:=sm.free nz;have hq3:=s3 _ _ hq;have rl3:=rl.same s3;have zex:=s3.tup hbt;have zg7:=(sm.trans s3).tup hpt;have PZ:=sm.trans s3;generalize upd H' z (.lst [])=H3 at s3 hz3 XZ bl3 hq3 rl3 zex zg7 PZ;obtain⟨g,us,eg,hg,ru⟩:∃(g:Addr)(us:List Addr),(a9 kvs (.inl ((n-lengthOf (left++repeated qI s m):Nat):Int))).getD (.ref z)=.ref g/\H3 g=some (.lst (us.map V.ref))/\V5 Kq H3 us (made.filter λr=>lengthOf r==n-lengthOf (left++repeated qI s m)):=by
   cases e:a9 kvs (.inl ((n-lengthOf (left++repeated qI s m):Nat):Int))with
   |none=>
    rw[e]at bl3;exact⟨z,[],rfl,hz3,by rw[bl3];exact .nil⟩
   |some v=>
    rw[e]at bl3;obtain⟨g,us,rfl,h1,h2⟩:=bl3;exact⟨g,us,rfl,h1,h2⟩
  rw[eg];generalize hbm:left++repeated qI s m=bm at *;have lf:=E8 (λr=>lengthOf r==n-lengthOf bm) made;have lu:=ru.len;generalize hmf:(made.filter λr=>lengthOf r==n-lengthOf bm)=mf at ru lf lu;have bmr:bm.length<=64:=by
   have:=zC bm
   lia
  refine⟨g,rfl,⟨_,SqL.of hg⟩,λD hD=>?_⟩;refine dG (K:=Kq) (a:=g) (xs:=us.map V.ref) (λj G=>∃(xs:List Addr),A3 (Same H3 G) (G D=some (.lst (xs.map V.ref))) (V5 Kq G xs ((mf.take j).map λx=>bm++x))) ⟨[],(Same.refl _).new hD,C0,.nil⟩ (by rintro j G _ ⟨_,s4,_⟩;exact SqL.of (s4 _ _ hg)) ?_ ?_
  .rintro j y G hj ⟨xs,s4,Sz,rx⟩;obtain⟨u,hu,rfl⟩:=U8 hj;obtain⟨r,oK,su⟩:=Paired.get ru hu;have jl:=(P0.mp oK).1;have rm:r∈made:=by
    have:=M1 oK;rw[<-hmf]at this;exact(R4.mp this).1
   have r64:=mr r rm;have lx:=rx.len;rw[B0,Z1]at lx;refine⟨rfl,?_⟩;dsimp only[Sa];rw[J0 rfl];refine⟨_,rfl,_,rfl,bt,u,_,_,rfl,rfl,s4.tup zex,s4.tup su,(by rw[W9,W9];lia),λG2 t2 s5 Uk=>?_⟩;have hD5:=s5 _ _ Sz;refine⟨_,hD5,(by rw[B0];lia),xs++[t2],(s4.trans s5).set hD,by rw[U0];exact C0,?_⟩;rw[T3 oK,U0];refine B4 ((rx.same s5).set hD5) (KF hD5 ?_);show eA Kq G2 t2 ((rI (bm++r)).map V.int);rw[<-GZ];exact Uk
  .rintro G ⟨xs,s4,Sz,rx⟩;rw[B0,lu,Y1]at rx;have lx:=rx.len;rw[B0]at lx;have Zz:=s4 _ _ hq3;have lt:=rl3.len;refine⟨q,D,_,_,rfl,rfl,Zz,Sz,(by rw[B0,B0];lia),?_⟩;have sq:Same H (upd G q (.lst (ts.map V.ref++xs.map V.ref))):=(PZ.trans s4).set nq;have Vs:upd G q (.lst (ts.map V.ref++xs.map V.ref)) q=some (.lst ((ts++xs).map V.ref)):=by rw[C0,U0]
   have rq5:V5 Kq (upd G q (.lst (ts.map V.ref++xs.map V.ref))) (ts++xs) (l++mf.map λx=>bm++x):=((rl3.same s4).set Zz).app (rx.set Zz);have bt5:eA Kq (upd G q (.lst (ts.map V.ref++xs.map V.ref))) bt ((rI bm).map V.int):=KF Zz (s4.tup zex);have pt5:eA Kq (upd G q (.lst (ts.map V.ref++xs.map V.ref))) pt ((rI qI).map V.int):=KF Zz (s4.tup zg7);generalize upd G q (.lst (ts.map V.ref++xs.map V.ref))=G5 at sq Vs rq5 bt5 pt5;have p0:0<qI.length:=by lia
   have ml:(s+m)%qI.length<qI.length:=bN _ p0;have eg':qI[(s+m)%qI.length]?=some (qI[(s+m)%qI.length]'ml):=K0 ml;have egd:qI.getD ((s+m)%qI.length) .S=qI[(s+m)%qI.length]'ml:=by rw[Q2,eg'];rfl
   generalize hpc:qI[(s+m)%qI.length]'ml=pc at eg' egd;refine⟨_,rfl,_,rfl,_,rfl,pt,_,rfl,.inr pt5,_,_,rfl,rfl,?_,pt,_,_,_,rfl,rfl,pt5,vT (j:=(s+m)%qI.length) ?_ (HQ eg'),?_⟩
   .show(0:Int)<((((rI qI).map V.int).length:Nat):Int);rw[W9]
    lia
   .show(((s+m:Nat):Int))%((((rI qI).map V.int).length:Nat):Int)=_;rw[W9]
    push_cast
    rfl
   refine⟨_,rfl,_,rfl,(by show 1<=sizeLine;decide),λt1 nt1=>?_⟩;have s6:Same G5 (upd G5 t1 (.tup [.int pc.rank])):=(Same.refl _).new nt1;refine⟨bt,t1,_,_,rfl,rfl,s6.tup bt5,.inl (.inl C0),(by rw[W9];show bm.length+1<=sizeLine;lia),λG7 t2 s7 Uk=>?_⟩;have s57:=s6.trans s7;have pl1:=c9 pc;have bm1:left++repeated qI s (m+1)=bm++[pc]:=by rw[Vf,egd,<-b9,hbm]
   have len1:lengthOf (left++repeated qI s (m+1))=lengthOf bm+pc.length:=by rw[bm1,Z3];rfl
   refine⟨_,rfl,_,rfl,aq.lA,_,_,_,rfl,rfl,T.jJ _,X5 (qP pc),_,_,rfl,rfl,_,rfl,_,_,rfl,rfl,⟨m+1,t2,v9,some (.int pc.rank),ts++xs,_,by lia,?_,sq.trans s57,?_,s57 _ _ Vs,rq5.same s57,?_,λr=>?_⟩,?_⟩
   .rw[len1,show(n:Int)-((lengthOf bm+pc.length:Nat):Int)=((n-lengthOf bm:Nat):Int)-(pc.length:Int) by lia];rfl
   .rw[bm1,<-GZ];exact Uk
   .rw[T1,B0]
    lia
   .rw[F2,mem,S2,<-hmf];constructor
    .rintro(⟨m',right,h1,h2,h3,h4⟩|⟨x,hx,rfl⟩)
     .exact⟨m',right,by lia,h2,h3,h4⟩
     .obtain⟨h1,h2⟩:=R4.mp hx;rw[O4]at h2;exact⟨m,x,by lia,h1,by rw[hbm],by rw[Z3,h2];lia⟩
    .rintro⟨m',right,h1,h2,h3,h4⟩;by_cases g:m'<m
     .exact .inl ⟨m',right,g,h2,h3,h4⟩
     .have e:m'=m:=by lia
      subst e;rw[hbm]at h3;refine .inr ⟨right,R4.mpr ⟨h2,?_⟩,h3.symm⟩;rw[h3,Z3]at h4;rw[O4]
      lia
   .show((((n-lengthOf bm:Nat):Int)-(pc.length:Int))+1).toNat<(((n-lengthOf bm:Nat):Int)+1).toNat
    lia
 .rw[Y0 (show ¬(n:Int)-(lengthOf (left++repeated qI s m):Int)≥0 by lia)];refine a8 ⟨_,rfl,?_⟩;refine k _ q ts l sm hq rl (by lia) λr=>?_;rw[mem];constructor
  .rintro⟨m',right,h1,h2,h3,h4⟩;exact⟨m',right,h2,h3,h4⟩
  .rintro⟨m',right,h2,h3,h4⟩;refine⟨m',right,?_,h2,h3,h4⟩;by_cases g:m'<m
   .exact g
   .have:=Hy qI s (show m<=m' by lia);rw[h3,Z3,Z3]at h4;rw[Z3]at c
    lia
theorem vS(T:vA Kq k9 aq):Fo Pq wq bq true T.d8 3 (dY Kq aq.tD):=by
 refine T.d8.F.kk T.d8.S λH vs Q E h=>?_;obtain⟨p,dx,mk,pp,ps,b,c,n,rfl,B,zE,n64,k⟩:=h;refine⟨rfl,λhr=>?_⟩;have zl:=BM;refine⟨_,(T0 (FC 3 T.d8.S (d6 Z0))
  (T0 (FC 4 T.d8.S (MC T.L6 (uS T) hr (F0 (pv 0) Z0)))
  (T0 (FC 5 T.d8.S (MC T.N9 (wP T) hr (F0 (pv 4) Z0)))
  (T0 (t8 O1.po rfl (W7 (pv 4)) (wE 6 T.d8.S) (X0 (t8 O1.po rfl (sI rfl T.lG (F0 (NS T.wB (MD (pv 0) T.nE.c T.f8.M (cH T) hr.mo T.f8.b .nil O1.passes (F0 (pv 1) Z0))) Z0)) (wE 7 T.d8.S) (X0 (n6 (BD j2 o7 t7 qG (pv 3) (F0 (MC T.r6 (EW T) hr (F0 (pv 6) (F0 (MD (pv 0) T.nE.c T.f8.M (cH T) hr.mo T.f8.b .nil O1.passes (F0 (pv 1) Z0)) (F0 (pv 7) (F0 (pv 2) (F0 (pv 5) Z0)))))) Z0)))))))
  (X0 (Q3 (pv 3))))))),?_⟩
 refine⟨D1 _,λq nq=>?_⟩;have s1:Same H (upd H q (.lst [])):=(Same.refl _).new nq;have BK:upd H q (.lst []) q=some (.lst (([]:List Addr).map V.ref)):=C0;generalize upd H q (.lst [])=H1 at s1 BK;refine⟨_,rfl,p,dx,mk,pp,ps,b,rfl,B.same s1,zE,λH2 mq ts s2 hm rm=>?_⟩;have lm:=Xf zE;have mb:∀r∈tE b,r.length<=2:=λr hr=>by
  have:=(KD.mp hr).1;have:=zE.most
  lia
 refine⟨_,rfl,mq,ts,tE b,rfl,hm,rm,by lia,λr hr=>by have:=mb r hr;lia,λH3 d kvs s3 nd hd bl ow=>?_⟩;have hq3:=s3 _ _ (s2 _ _ BK);have hm3:=s3 _ _ hm;have rm3:=rm.same s3;have s13:=s1.trans (s2.trans s3);have qm:mq≠q:=λe=>by
  rw[e,s2 _ _ BK]at hm;have z:=V6 List.length (HO.lst.inj (M0 hm));have h1:[]∈tE b:=KD.mpr ⟨D1 _,λp h=>(nomatch h)⟩;have h2:=UJ h1;have h3:=rm.len;rw[B0,B0,O6]at z
  lia
 have qd:d≠q:=λe=>by rw[e,s2 _ _ BK]at nd;cases nd
 have lt:=rm3.len;refine⟨_,rfl,mq,rfl,⟨_,SqL.of hm3⟩,LA (K:=Kq) (a:=mq) (xs:=ts.map V.ref) (λi σ H'=>E4 λ(v6 v7:Option V)(us:List Addr)(l:List Bd.Row)=>A7 (σ=[some (.ref p),some (.int c),some (.int n),some (.ref q),some (.ref mq),some (.ref d),v6,v7]) (Same H H') (Iy q H3 H') (H' q=some (.lst (us.map V.ref))) (V5 Kq H' us l) (l.length<=i*16120) (∀r,r∈l↔∃left∈(tE b).take i,∃st<(b.course c).length,∃m right,right∈tE b/\r=(left++repeated (b.course c) st m)++right/\lengthOf r=n))
  ⟨none,none,[],[],rfl,s13,λ_ _ e _=>e,hq3,.nil,D1 _,λr=>⟨λh=>(nomatch h),λ⟨_,h,_⟩=>(nomatch h)⟩⟩ (by rintro i σ H' _ ⟨_,_,_,_,_,_,f,_⟩;exact SqL.of (f _ _ hm3 qm)) ?_ ?_⟩
 .rintro i y σ H' hi ⟨v6,v7,us,l,rfl,sm,f,hq,rl,ll,mem⟩;obtain⟨t,ht,rfl⟩:=U8 hi;obtain⟨left,hl,st⟩:=Paired.get rm3 ht;have il:=(P0.mp hl).1;have lm2:=mb left (M1 hl);have cin:=Br zE c;have cne:=zE.one _ cin;have c8:=zE.len _ cin;have B':=B.same sm;refine⟨_,rfl,p,dx,_,rfl,B'.ob,rfl,_,rfl,p,dx,mk,pp,ps,b,c,rfl,B',zE.ne,λpq hpq=>?_⟩;refine⟨pq,_,rfl,.inr (.inl (.inl hpq)),?_⟩;rw[W9];refine⟨_,rfl,by lia,by lia,?_⟩;rw[c5];refine tI (lo:=0) (n:=(b.course c).length) (λj σ G=>E3 λ(v7:Option V)(us2:List Addr)(l2:List Bd.Row)=>A7 (σ=[some (.ref p),some (.int c),some (.int n),some (.ref q),some (.ref mq),some (.ref d),some (.ref t),v7]) (Same H G) (Iy q H3 G) (G q=some (.lst (us2.map V.ref))) (V5 Kq G us2 l2) (l2.length<=i*16120+j*2015) (∀r,r∈l2↔r∈l\/∃st<j,∃m right,right∈tE b/\r=(left++repeated (b.course c) st m)++right/\lengthOf r=n))
   ⟨v7,us,l,rfl,sm,f,hq,rl,by lia,λr=>⟨.inl,λh=>h.elim id λ⟨_,h,_⟩=>absurd h (by lia)⟩⟩ ?_ ?_
  .rintro j σ G hj ⟨v7,us2,l2,rfl,sg,fg,gq,rg,lg,mg2⟩;rw[show(0:Int)+(j:Int)=(j:Int)from lP _];have B2:=B.same sg;refine⟨_,rfl,.inl ⟨rfl,_,SqL.of gq⟩,_,rfl,_,rfl,p,dx,_,rfl,B2.ob,rfl,_,rfl,p,dx,mk,pp,ps,b,c,rfl,B2,zE.ne,λpq2 zjL=>?_⟩;have blG:QM Kq G kvs (tE b):=λm=>by
    have z:=bl m;cases e:a9 kvs (.inl (m:Int))with
    |none=>rw[e]at z;exact z
    |some v=>
     rw[e]at z;obtain⟨g,gs,rfl,h1,h2⟩:=z;exact⟨g,gs,rfl,fg _ _ h1 (λe2=>by have:=ow m g e;rw[e2,s2 _ _ BK]at this;cases this),fg.rows hq3 h2⟩
   refine⟨_,rfl,_,rfl,_,rfl,t,pq2,d,j,n,left,b.course c,kvs,tE b,rfl,fg.tup hq3 st,.inl (.inl zjL),cne,c8,hj,n64,by lia,fg _ _ hd qd,blG,lm,λr hr=>by have:=mb r hr;lia,λG4 q4 ts4 l4 s4 Zz rl4 ll4 zjM=>?_⟩;have gq4:=s4 _ _ gq;have lr:=rg.len;have lr4:=rl4.len;refine⟨q,q4,_,_,rfl,rfl,gq4,Zz,(by rw[B0,B0];lia),some (.int j),us2++ts4,l2++l4,rfl,(sg.trans s4).set nq,λx o e ne=>by rw[N0 ne];exact s4 _ _ (fg _ _ e ne),by rw[C0,U0],((rg.same s4).set gq4).app (rl4.set gq4),?_,λr=>?_⟩
   .rw[T1]
    lia
   .rw[F2,mg2,zjM];constructor
    .rintro((h|⟨s,h1,h2⟩)|⟨m,h⟩)
     .exact .inl h
     .exact .inr ⟨s,by lia,h2⟩
     .exact .inr ⟨j,by lia,m,h⟩
    .rintro(h|⟨s,h1,h2⟩)
     .exact .inl (.inl h)
     .by_cases e:s<j
      .exact .inl (.inr ⟨s,e,h2⟩)
      .have e:s=j:=by lia
       subst e;exact .inr h2
  .rintro σ G ⟨v7,us2,l2,rfl,sg,fg,gq,rg,lg,mg2⟩;refine⟨_,_,us2,l2,rfl,sg,fg,gq,rg,by have:=Nat.mul_le_mul_right 2015 c8;lia,λr=>?_⟩;rw[mg2,mem,T3 hl];constructor
   .rintro(⟨x,h1,h2⟩|h)
    .exact⟨x,B6 _ h1,h2⟩
    .exact⟨left,i4 _ (Q1.mpr rfl),h⟩
   .rintro⟨x,h1,h2⟩;rcases F2.mp h1 with h|h
    .exact .inl ⟨x,h,h2⟩
    .obtain rfl:=Q1.mp h;exact .inr h2
 .rintro σ H' ⟨v6,v7,us,l,rfl,sm,f,hq,rl,ll,mem⟩;rw[B0,lt]at ll mem;rw[Y1]at mem;refine⟨_,rfl,k _ q us l sm hq rl (by lia) λr=>?_⟩;rw[mem,<-Vc];constructor
  .rintro⟨left,h1,st,h2,m,right,h3,h4,h5⟩;exact⟨left,KD.mp h1,st,h2,m,right,KD.mp h3,h4,h5⟩
  .rintro⟨left,h1,st,h2,m,right,h3,h4,h5⟩;exact⟨left,KD.mpr h1,st,h2,m,right,KD.mpr h3,h4,h5⟩
theorem sO{x y:Piece}(h:x.rank=y.rank):x=y:=by
 cases x<;>cases y<;>first|rfl|exact absurd h (by decide)
theorem HZ:∀{r s:Bd.Row},lengthOf r=lengthOf s->HT.lexLt (rI r) (rI s)=rowBefore r s
 |[],[],_=>rfl
 |[],y::s,h=>by
  rw[C3]at h;have:=c9 y;have:lengthOf []=0:=rfl
  lia
 |x::r,[],h=>by
  rw[C3]at h;have:=c9 x;have:lengthOf []=0:=rfl
  lia
 |x::r,y::s,h=>by
  rw[C3,C3]at h;show HT.lexLt ((x.rank:Int)::rI r) ((y.rank:Int)::rI s)=_;rw[HT.lexLt_cons,uO];by_cases c:x=y
  .subst c;rw[J0 rfl,HZ (by lia),qC,Y0 (L5 _)];rfl
  .have c2:x.rank≠y.rank:=λe=>c (sO e);rw[D0 (by lia),show(x==y)=false from by simpa using c,QB,NH];exact S3.mpr (by lia)
def wS(r:Bd.Row):List KI:=[.inl (cutsOf r:Int),.inr (rI r)]
theorem Jy{s:Bd.Row}(h:rI r=rI s):r=s:=by
 induction r generalizing s with
 |nil=>cases s with
  |nil=>rfl
  |cons _ _=>cases h
 |cons x r ih=>
  cases s with
  |nil=>cases h
  |cons y s=>
   have z:=xB h;have z1:(x.rank:Int)=(y.rank:Int):=z.1;rw[sO (x:=x) (y:=y) (by lia),ih z.2]
theorem Jo{s:Bd.Row}(h:lengthOf r=lengthOf s):tG (wS r) (wS s)=true↔cutsOf r<cutsOf s\/(cutsOf r=cutsOf s/\rowBefore r s=true):=by
 show(if (Sum.inl (cutsOf r:Int):KI)=.inl (cutsOf s:Int)then(if (Sum.inr (rI r):KI)=.inr (rI s)then false else HT.lexLt (rI r) (rI s))else decide ((cutsOf r:Int)<(cutsOf s:Int)))=true↔_;by_cases c:cutsOf r=cutsOf s
 .rw[J0 (by rw[c]),HZ h];by_cases e:rI r=rI s
  .rw[J0 (by rw[e])];obtain rfl:=Jy e;rw[qM];constructor
   .intro z;cases z
   .rintro(z|⟨_,z⟩)
    .lia
    .cases z
  .rw[D0 (λz=>e (Sum.inr.inj z))];exact⟨λz=>.inr ⟨c,z⟩,λz=>z.elim (λq=>absurd q (by lia)) λq=>q.2⟩
 .rw[D0 (λz=>c (by have:=uA z;lia)),O0];exact⟨λz=>.inl (by lia),λz=>z.elim (λq=>by lia) λq=>absurd q.1 c⟩
theorem Yf{s:Bd.Row}(h:lengthOf r=lengthOf s):(tG (wS r) (wS s)=true->YE r s)/\(tG (wS r) (wS s)=false->YE s r):=by
 refine⟨λz=>?_,λz=>?_⟩
 .rcases(Jo h).mp z with q|⟨q1,q2⟩
  .exact .inl q
  .exact .inr ⟨q1,.inr q2⟩
 .have n:¬(cutsOf r<cutsOf s\/(cutsOf r=cutsOf s/\rowBefore r s=true)):=λq=>by rw[(Jo h).mpr q]at z;cases z
  rcases gU h with e|e|e
  .exact .inr ⟨by rw[e],.inl e.symm⟩
  .by_cases c:cutsOf s<cutsOf r
   .exact .inl c
   .exact absurd (show _\/_ from if c2:cutsOf r<cutsOf s then .inl c2 else .inr ⟨by lia,e⟩) n
  .by_cases c:cutsOf s<cutsOf r
   .exact .inl c
   .exact .inr ⟨by have:¬cutsOf r<cutsOf s:=λq=>n (.inl q);lia,.inr e⟩
structure mI(D:List (Nat×Bd.Row))(L:Bd.Row->Prop):Prop where
 good:∀z∈D,z.1=P6 z.2/\L z.2
 nd:(D.map Prod.fst).Nodup
 all:∀r,L r->∃z∈D,z.1=P6 r/\YE z.2 r
theorem mI.new(h:mI D L)(hL:∀x,L' x↔L x\/x=r)(no:∀z∈D,z.1≠P6 r):mI (D++[(P6 r,r)]) L':=by
 refine⟨λz hz=>?_,?_,λx hx=>?_⟩
 .rcases F2.mp hz with m|m
  .exact⟨(h.good z m).1,(hL _).mpr (.inl (h.good z m).2)⟩
  .rw[Q1.mp m];exact⟨rfl,(hL _).mpr (.inr rfl)⟩
 .rw[U0,List.nodup_append];refine⟨h.nd,by simp,λa ha b hb=>?_⟩;obtain⟨z,hz,rfl⟩:=S2.mp ha;rw[show b=P6 r by simpa using hb];exact no z hz
 .rcases(hL x).mp hx with q|rfl
  .obtain⟨z,hz,e⟩:=h.all x q;exact⟨z,B6 _ hz,e⟩
  .exact⟨(P6 x,x),i4 _ (by simp),rfl,.refl _⟩
theorem mI.old(h:mI D L)(hL:∀x,L' x↔L x\/x=r)(hz:z∈D)(ez:z.1=P6 r)(bt:YE r z.2):mI (D.map λz=>if z.1=P6 r then(z.1,r)else z) L':=by
 have one:∀y∈D,y.1=P6 r->y=z:=λy hy e=>by
  obtain⟨i,hi,ei⟩:=C4.mp hy;obtain⟨j,hj,ej⟩:=C4.mp hz;have q:(D.map Prod.fst)[i]'(by rw[B0];exact hi)=(D.map Prod.fst)[j]'(by rw[B0];exact hj):=by rw[Z5,Z5,ei,ej,e,ez]
  have q2:=(kC h.nd).mp q;subst q2;rw[<-ei,<-ej]
 have inn:(P6 r,r)∈D.map λz=>if z.1=P6 r then(z.1,r)else z:=S2.mpr ⟨z,hz,by rw[J0 ez,ez]⟩
 refine⟨λy hy=>?_,?_,λx hx=>?_⟩
 .obtain⟨x,hx,rfl⟩:=S2.mp hy;by_cases c:x.1=P6 r
  .rw[J0 c];exact⟨c,(hL _).mpr (.inr rfl)⟩
  .rw[D0 c];exact⟨(h.good x hx).1,(hL _).mpr (.inl (h.good x hx).2)⟩
 .rw[B3,show D.map (Prod.fst ∘ λz:Nat×Bd.Row=>if z.1=P6 r then(z.1,r)else z)=D.map Prod.fst from b7 λx _=>by
   show(if x.1=P6 r then(x.1,r)else x).1=x.1;split<;>rfl]
  exact h.nd
 .rcases(hL x).mp hx with q|rfl
  .obtain⟨y,hy,e1,e2⟩:=h.all x q;by_cases c:y.1=P6 r
   .obtain rfl:=one y hy c;exact⟨_,inn,by rw[<-c];exact e1,bt.trans e2⟩
   .exact⟨y,S2.mpr ⟨y,hy,by rw[D0 c]⟩,e1,e2⟩
  .exact⟨_,inn,rfl,.refl _⟩
theorem mI.stay(h:mI D L)(hL:∀x,L' x↔L x\/x=r)(hz:z∈D)(ez:z.1=P6 r)(bt:YE z.2 r):mI D L':=
 ⟨λy hy=>⟨(h.good y hy).1,(hL _).mpr (.inl (h.good y hy).2)⟩,h.nd,λx hx=>((hL x).mp hx).elim (λq=>h.all x q) λe=>by rw[e];exact⟨z,hz,ez,bt⟩⟩
def uE(K:Frag)(H:Hp):List (YC×V)->List (Nat×Bd.Row)->Prop:=Paired λkv z=>kv.1=.inl ((z.1:Nat):Int)/\∃t,kv.2=.ref t/\eA K H t ((rI z.2).map V.int)
theorem uE.same{K:Frag}(s:Same H H') (h:uE K H kvs D):uE K H' kvs D:=Paired.mapP h λ_ _ ⟨e,t,e2,q⟩=>⟨e,t,e2,s.tup q⟩
theorem uE.setD{K:Frag}(hd:H d=some (.dK k1)) (h:uE K H kvs D):uE K (upd H d (.dK k2)) kvs D:=Paired.mapP h λ_ _ ⟨e,t,e2,q⟩=>⟨e,t,e2,vP hd q⟩
theorem uE.val{K:Frag}(h:uE K H kvs D) (n:Nat):(a9 kvs (.inl (n:Int))=none/\∀z∈D,z.1≠n)\/∃z t,z∈D/\z.1=n/\a9 kvs (.inl (n:Int))=some (.ref t)/\eA K H t ((rI z.2).map V.int):=by
 induction h with
 |nil=>exact .inl ⟨rfl,λz hz=>(nomatch hz)⟩
 |@cons kv z ks D a _ ih=>
  obtain⟨e,t,e2,q⟩:=a;by_cases c:z.1=n
  .exact .inr ⟨z,t,by simp,c,by rw[OA (by rw[e,c]),e2],q⟩
  .rw[QA (by rw[e];exact λy=>c (by have:=uA y;lia))];rcases ih with⟨h1,h2⟩|⟨y,t,h1,h2⟩
   .exact .inl ⟨h1,λy hy=>by
     rcases S1.mp hy with rfl|m
     .exact c
     .exact h2 y m⟩
   .exact .inr ⟨y,t,i3 _ h1,h2⟩
theorem uE.new{K:Frag}(h:uE K H kvs D) (hn:a9 kvs (.inl (n:Int))=none) (hr:eA K H t ((rI r).map V.int)):uE K H (nF kvs (.inl (n:Int)) (.ref t)) (D++[(n,r)]):=by
 rw[pT _ hn];exact B4 h ⟨rfl,t,rfl,hr⟩
theorem uE.old{K:Frag}(h:uE K H kvs D) (hn:a9 kvs (.inl (n:Int))=some v) (hr:eA K H t ((rI r).map V.int)):uE K H (nF kvs (.inl (n:Int)) (.ref t)) (D.map λz=>if z.1=n then(z.1,r)else z):=by
 unfold nF;rw[J0 (by rw[oF,hn];rfl)];clear hn
 induction h with
 |nil=>exact .nil
 |@cons kv z ks D a _ ih=>
  refine .cons ?_ ih;obtain⟨e,t',e2,q⟩:=a;dsimp only;by_cases c:z.1=n
  .rw[J0 c,J0 (by rw[e,c])];exact⟨e,t,rfl,hr⟩
  .rw[D0 c,D0 (by rw[e];exact λy=>c (by have:=uA y;lia))];exact⟨e,t',e2,q⟩
theorem uE.got{K:Frag}(h:uE K H kvs D):(D.map Prod.fst).Nodup->D[i]?=some z->kvs[i]?=some (.inl (z.1:Int),V.ref t)->a9 kvs (.inl (z.1:Int))=some (.ref t):=by
 induction h generalizing i with
 |nil=>intro _ h;simp at h
 |@cons kv y ks D a _ ih=>
  intro nd h1 h2;rw[L3,S5]at nd;cases i with
  |zero=>
   obtain rfl:kv=_:=by simpa using h2
   exact OA rfl
  |succ i=>
   have h1':D[i]?=some z:=by simpa using h1
   have ne:y.1≠z.1:=λe=>nd.1 (by rw[e];exact List.mem_map_of_mem (M1 h1'));rw[QA (by rw[a.1];exact λe=>ne (by have:=uA e;lia))];exact ih nd.2 h1' (by simpa using h2)
inductive eY(K:Frag)(C:Addr)(vs:List V)(H:Hp)(Q:VK)(E':XK):Prop
 |mk (p dx mk pp te:Addr) (ps:List Addr) (b:Bond) (c:Nat) (pn:Panel):vs=[.ref p,.int c,.int pn.length,.ref te]->lI K C H p dx mk pp ps b->jE b->1<=pn.length->pn.length<=63->H te=some (.tup [.int pn.left,.int pn.right])->pn.left<=2->pn.right<=2->(∀(H':Hp)(d:Addr)(kvs:List (YC×V))(D:List (Nat×Bd.Row)),Same H H'->H' d=some (.dK kvs)->uE K H' kvs D->kvs.length<=500000->SY b pn c D->Q (.ref d) H')->eY K C vs H Q E'
theorem Iy.tupD{K:Frag}(f:Iy q H H') {ys:List (YC×V)}(hq:H q=some (.dK ys)) (h:eA K H t xs):eA K H' t xs:=by
 rcases h with h|h
 .rcases h with h|⟨o,h⟩
  .exact .inl (.inl (f _ _ h λz=>by rw[z,hq]at h;cases h))
  .exact .inl (.inr ⟨o,f _ _ h λz=>by rw[z,hq]at h;cases h⟩)
 .exact .inr h
theorem ER(T:vA Kq k9 aq):Fo Pq wq bq true T.bC 4 (eY Kq aq.tD):=by
 refine T.bC.F.kk T.bC.S λH vs Q E h=>?_;obtain⟨p,dx,mk,pp,te,ps,b,c,pn,rfl,B,zE,n1,n63,hte,l2,r2,k⟩:=h;refine⟨rfl,λhr=>?_⟩;have zl:=BM;refine⟨_,(T0 (FC 4 T.bC.S rT)
  (T0 (t8 O1.po rfl (W7 (MC T.d8 (vS T) hr (F0 (pv 0) (F0 (pv 1) (F0 (pv 2) Z0))))) (wE 5 T.bC.S) (X0 (c7 (cD (MC T.cK (Nf T) hr (F0 (pv 5) (F0 (pv 1) (F0 (pv 3) Z0))))) (T0 (FC 6 T.bC.S (MC T.wA (EZ T) hr (F0 (pv 5) Z0)))
  (X0 (c7 (PW.pt (VS (zcS (Tp (GM hr) (pv 6) (pv 4))) (UM (W3 (zdC hr.units) (LD (F0 (MC T.GD (FN T) hr (F0 (pv 5) Z0)) (F0 (pv 5) Z0))) (LD (F0 (MC T.GD (FN T) hr (F0 (GS (GM hr) (pv 4) (pv 6) (λ_ _=>rfl)) Z0)) (F0 (GS (GM hr) (pv 4) (pv 6) (λ_ _=>rfl)) Z0))) (V3 _))))) (X0 (Xl (GM hr) (pv 4) (pv 6) (pv 5) rfl)) U4))) U4)))
  (X0 (Q3 (pv 4))))),?_⟩
 refine λd nd=>?_;have s1:Same H (upd H d (.dK [])):=(Same.refl _).new nd;have hd1:upd H d (.dK []) d=some (.dK []):=C0;generalize upd H d (.dK [])=H1 at s1 hd1;refine⟨_,rfl,_,rfl,_,rfl,p,dx,mk,pp,ps,b,c,pn.length,rfl,B.same s1,zE,by lia,λH2 q ts l s2 hq rt ll mem=>?_⟩;have HW:=s2 _ _ hd1;have qd:q≠d:=λe=>by rw[e,HW]at hq;cases hq
 have lt:=rt.len;have iH:=s1.trans s2;refine⟨q,rfl,⟨_,SqL.of hq⟩,LA (K:=Kq) (a:=q) (xs:=ts.map V.ref) (λi σ H'=>E4 λ(v5 v6:Option V)(kvs:List (YC×V))(D:List (Nat×Bd.Row))=>A7 (σ=[some (.ref p),some (.int c),some (.int pn.length),some (.ref te),some (.ref d),v5,v6]) (Same H H') (Iy d H2 H') (H' d=some (.dK kvs)) (kvs.length<=i) (uE Kq H' kvs D) (mI D (λr=>r∈l.take i/\(endIs pn.left c r.head?&&endIs pn.right c r.getLast?)=true)))
  ⟨none,none,[],[],rfl,iH,λ_ _ e _=>e,HW,D1 _,.nil,⟨λz hz=>(nomatch hz),.nil,λr hr=>(nomatch hr.1)⟩⟩ (by rintro i σ H' _ ⟨_,_,_,_,_,_,f,_⟩;exact SqL.of (f _ _ hq qd)) ?_ ?_⟩
 .rintro i y σ H' hi ⟨v5,v6,kvs,D,rfl,sm,f,hd,lk,dr,ri⟩;obtain⟨t,ht,rfl⟩:=U8 hi;obtain⟨r,oK,st⟩:=Paired.get rt ht;have il:=(P0.mp oK).1;have rin:=(mem r).mp (M1 oK);have rne:r≠[]:=λe=>by
   have z:=rin.1;rw[e]at z;have:lengthOf []=0:=rfl
   lia
  have znU:=zC r;have Lg:=f.tupD HW st;have hL:(endIs pn.left c r.head?&&endIs pn.right c r.getLast?)=true->∀x,(x∈l.take (i+1)/\(endIs pn.left c x.head?&&endIs pn.right c x.getLast?)=true)↔(x∈l.take i/\(endIs pn.left c x.head?&&endIs pn.right c x.getLast?)=true)\/x=r:=λhe x=>by
   rw[T3 oK,F2,Q1];constructor
   .rintro⟨h1|h1,h2⟩
    .exact .inl ⟨h1,h2⟩
    .exact .inr h1
   .rintro(⟨h1,h2⟩|h1)
    .exact⟨.inl h1,h2⟩
    .exact⟨.inr h1,by rw[h1];exact he⟩
  refine⟨_,rfl,_,rfl,_,rfl,t,te,r,c,pn.left,pn.right,rfl,Lg,rne,sm _ _ hte,l2,r2,?_⟩;refine⟨_,rfl,?_⟩;by_cases he:(endIs pn.left c r.head?&&endIs pn.right c r.getLast?)=true
  .rw[he];refine C7 ⟨_,rfl,t,r,rfl,Lg,by lia,λH3 s3=>?_⟩;have XZ:=s3 _ _ hd;have dr3:=dr.same s3;have Bz:=s3.tup Lg;have kj:bitsOf (jointsOf r)=P6 r:=rfl;rw[kj];have rl:=rin.1;have PZ:=sm.trans s3;dsimp only[pH,qK,IR,QV];rcases dr3.val (P6 r)with⟨vn,no⟩|⟨z,t',hz,ez,vs,O9⟩
   .refine tV (x:=true) (y:=false) (λH6=>Same H3 H6) (λR rr=>?_) (λhx=>by cases hx) λH4 s4=>?_
    .refine⟨_,rfl,_,rfl,d,_,rfl,EK.k (k:=.inl (P6 r:Int)) XZ,_,rfl,?_⟩;rw[vn];exact rr _ (Same.refl _)
    .have Ep:=s4 _ _ XZ;refine C7 ⟨_,rfl,_,rfl,_,rfl,d,_,rfl,Qh.k (k:=.inl (P6 r:Int)) Ep (by lia),some (.ref t),some (.int (P6 r)),_,_,rfl,(PZ.trans s4).set nd,λx o e ne=>by rw[N0 ne];exact s4 _ _ (s3 _ _ (f _ _ e ne)),C0,?_,((dr3.same s4).setD Ep).new vn (vP Ep (s4.tup Bz)),ri.new (hL he) no⟩;have:=CD kvs (.inl (P6 r:Int)) (.ref t)
     lia
   .have zl:lengthOf z.2=pn.length:=((mem _).mp (List.mem_of_mem_take (ri.good z hz).2.1)).1;have z1:=zC z.2;refine tV (x:=false) (y:=tG (wS r) (wS z.2)) (λH6=>Same H3 H6) (λR rr=>?_) (λ_ H4 s4 R rr=>?_) λH4 s4=>?_
    .refine⟨_,rfl,_,rfl,d,_,rfl,EK.k (k:=.inl (P6 r:Int)) XZ,_,rfl,?_⟩;rw[vs];exact rr _ (Same.refl _)
    .refine⟨_,rfl,t,r,rfl,s4.tup Bz,by lia,λH5 s5=>⟨_,rfl,(by show 2<=sizeLine;lia),λt1 n1=>?_⟩⟩;have Ws:=s4.trans s5;have s6:Same H5 (upd H5 t1 (.tup [.int (cutsOf r),.ref t])):=(Same.refl _).new n1;have h6:upd H5 t1 (.tup [.int (cutsOf r),.ref t]) t1=some (.tup [.int (cutsOf r),.ref t]):=C0;generalize upd H5 t1 (.tup [.int (cutsOf r),.ref t])=H6 at s6 h6;have s46:=Ws.trans s6;have g6:EK H6 d (kV (.inl (P6 r:Int))) (some (.ref t')):=by
      have:=EK.k (k:=.inl (P6 r:Int)) (s46 _ _ XZ);rw[vs]at this;exact this
     refine⟨_,rfl,_,rfl,d,_,rfl,g6,t',z.2,rfl,s46.tup O9,by lia,λH7 s7=>?_⟩;have s47:=s46.trans s7;have g7:EK H7 d (kV (.inl (P6 r:Int))) (some (.ref t')):=by
      have:=EK.k (k:=.inl (P6 r:Int)) (s47 _ _ XZ);rw[vs]at this;exact this
     refine⟨_,rfl,_,rfl,d,_,rfl,g7,(by show 2<=sizeLine;lia),λt2 n2=>?_⟩;have s8:Same H7 (upd H7 t2 (.tup [.int (cutsOf z.2),.ref t'])):=(Same.refl _).new n2;refine⟨wS r,wS z.2,trivial,⟨t1,_,rfl,.inl (.inl (s8 _ _ (s7 _ _ h6))),.cons rfl (.cons ⟨t,rfl,(s47.trans s8).tup Bz⟩ .nil)⟩,⟨t2,_,rfl,.inl (.inl C0),.cons rfl (.cons ⟨t',rfl,(s47.trans s8).tup O9⟩ .nil)⟩,_,rfl,rr _ (s47.trans s8)⟩
    .have Ep:=s4 _ _ XZ;obtain⟨bt,bf⟩:=Yf (r:=r) (s:=z.2) (by lia);rw[OH];cases c2:tG (wS r) (wS z.2)with
     |true=>
      refine C7 ⟨_,rfl,_,rfl,_,rfl,d,_,rfl,Qh.k (k:=.inl (P6 r:Int)) Ep (by lia),some (.ref t),some (.int (P6 r)),_,_,rfl,(PZ.trans s4).set nd,λx o e ne=>by rw[N0 ne];exact s4 _ _ (s3 _ _ (f _ _ e ne)),C0,?_,((dr3.same s4).setD Ep).old vs (vP Ep (s4.tup Bz)),ri.old (hL he) hz ez (bt c2)⟩;have:=CD kvs (.inl (P6 r:Int)) (.ref t)
      lia
     |false=>exact a8 ⟨some (.ref t),some (.int (P6 r)),kvs,D,rfl,PZ.trans s4,λx o e ne=>s4 _ _ (s3 _ _ (f _ _ e ne)),Ep,by lia,dr3.same s4,ri.stay (hL he) hz ez (bf c2)⟩
  .rw[Bool.not_eq_true]at he;rw[he];refine a8 ⟨some (.ref t),v6,kvs,D,rfl,sm,f,hd,by lia,dr,?_⟩;have hL':∀x,(x∈l.take (i+1)/\(endIs pn.left c x.head?&&endIs pn.right c x.getLast?)=true)↔(x∈l.take i/\(endIs pn.left c x.head?&&endIs pn.right c x.getLast?)=true):=λx=>by
    rw[T3 oK,F2,Q1];constructor
    .rintro⟨h1|h1,h2⟩
     .exact⟨h1,h2⟩
     .rw[h1,he]at h2;cases h2
    .rintro⟨h1,h2⟩;exact⟨.inl h1,h2⟩
   exact⟨λz hz=>⟨(ri.good z hz).1,(hL' _).mpr (ri.good z hz).2⟩,ri.nd,λx hx=>ri.all x ((hL' x).mp hx)⟩
 .rintro σ H' ⟨v5,v6,kvs,D,rfl,sm,f,hd,lk,dr,ri⟩;rw[B0,lt]at lk ri;rw[Y1]at ri;refine⟨_,rfl,k _ d kvs D sm hd dr (by lia) ⟨λz hz=>⟨(ri.good z hz).1,yO.mpr ⟨((mem _).mp (ri.good z hz).2.1).1,(ri.good z hz).2.2,((mem _).mp (ri.good z hz).2.1).2⟩⟩,ri.nd,λr hr=>?_⟩⟩;obtain⟨h1,h2,h3⟩:=yO.mp hr;exact ri.all r ⟨(mem r).mpr ⟨h1,h3⟩,h2⟩
def RS(kvs:List (YC×V))(ks:List Nat):Prop:=∀x:Nat,(a9 kvs (.inl (x:Int))).getD (.int 0)=.int (JL ks x)
inductive fY(K:Frag)(C:Addr)(vs:List V)(H:Hp)(Q:VK)(E':XK):Prop
 |mk (q:Addr) (ps:List Addr) (O:List (List Bd.Row)):vs=[.ref q]->H q=some (.lst (ps.map V.ref))->bH K C H ps O->O.length<=500000->(∀l∈O,l≠[]/\Y6 l<2^63)->(∀(H':Hp)(d:Addr)(kvs:List (YC×V)),Same H H'->H d=none->H' d=some (.dK kvs)->RS kvs (O.map Y6)->Q (.ref d) H')->fY K C vs H Q E'
def lK(ks:List Nat)(k i x:Nat):Nat:=if x∈(T5 k).take i then JL ks x|||2^ks.length else JL ks x
theorem Ky(ks:List Nat)(k x:Nat):lK ks k 0 x=JL ks x:=by
 unfold lK;rw[List.take_zero,D0 (by simp)]
theorem Qk(ks:List Nat)(k x:Nat):lK ks k (T5 k).length x=JL (ks++[k]) x:=by
 unfold lK;rw[Y1,Ui];by_cases c:k.testBit x=true
 .rw[J0 (TJ.mpr c),J0 c]
 .rw[D0 (λh=>c (TJ.mp h)),D0 c]
theorem Zf{ks:List Nat}{k j x:Nat}(h:(T5 k)[j]?=some x) (y:Nat):lK ks k (j+1) y=if y=x then lK ks k j x|||2^ks.length else lK ks k j y:=by
 have nd:(T5 k).Nodup:=List.Pairwise.filter _ List.nodup_range;have nx:x∉(T5 k).take j:=λm=>by
  obtain⟨i,hi,e⟩:=C4.mp m;rw[Z1]at hi;rw[List.getElem_take]at e;obtain⟨jl,e2⟩:=P0.mp h;have:=(kC nd).mp (e.trans e2.symm)
  lia
 unfold lK;rw[T3 h];by_cases c:y=x
 .subst c;rw[J0 rfl,J0 (by simp),D0 nx]
 .rw[D0 c];by_cases c2:y∈(T5 k).take j
  .rw[J0 c2,J0 (B6 _ c2)]
  .rw[D0 c2,D0 (λm=>(F2.mp m).elim c2 λm=>c (Q1.mp m))]
def GN(kvs:List (YC×V)):Prop:=(kvs.map Prod.fst).Nodup/\∀z∈kvs,∃x:Nat,x<64/\z.1=.inl (x:Int)
theorem GN.len(h:GN kvs):kvs.length<=64:=by
 have z:=Dd (l:=kvs.map Prod.fst) (m:=(List.range 64).map λ(x:Nat)=>(.inl (x:Int):YC)) h.1 λk hk=>by
  obtain⟨y,hy,rfl⟩:=S2.mp hk;obtain⟨x,hx,e⟩:=h.2 y hy;exact S2.mpr ⟨x,w6.mpr hx,e.symm⟩
 simpa using z
theorem GN.put(h:GN kvs){x:Nat}(hx:x<64) (v:V):GN (nF kvs (.inl (x:Int)) v):=by
 cases e:a9 kvs (.inl (x:Int))with
 |none=>
  refine⟨zaE v h.1 e,λz hz=>?_⟩;rw[pT v e]at hz;rcases F2.mp hz with m|m
  .exact h.2 z m
  .rw[Q1.mp m];exact⟨x,hx,rfl⟩
 |some u=>
  unfold nF;rw[J0 (by rw[oF,e];rfl)];refine⟨?_,λz hz=>?_⟩
  .rw[B3,show kvs.map (Prod.fst ∘ λkv:YC×V=>if kv.1=.inl (x:Int)then(kv.1,v)else kv)=kvs.map Prod.fst from b7 λy _=>by
    show(if y.1=.inl (x:Int)then(y.1,v)else y).1=y.1;split<;>rfl]
   exact h.1
  .obtain⟨y,hy,rfl⟩:=S2.mp hz;obtain⟨x',Pt,e'⟩:=h.2 y hy;refine⟨x',Pt,?_⟩;show(if y.1=.inl (x:Int)then(y.1,v)else y).1=_;rw[<-e'];split<;>rfl
theorem RS.put{f:Nat->Nat}(h:∀x:Nat,(a9 kvs (.inl (x:Int))).getD (.int 0)=.int (f x)) (x n:Nat) (y:Nat):(a9 (nF kvs (.inl (x:Int)) (.int n)) (.inl (y:Int))).getD (.int 0)=.int (((if y=x then n else f y:Nat)):Int):=by
 rw[Ua];by_cases c:y=x
 .rw[J0 (by rw[c]),J0 c];rfl
 .rw[D0 (λe=>c (by have:=uA e;lia)),D0 c];exact h y
theorem yP(T:vA Kq k9 aq):Fo Pq wq bq true T.T7 2 (fY Kq aq.b8):=by
 refine T.T7.F.kk T.T7.S λH vs Q E h=>?_;obtain⟨q,ps,O,rfl,hq,pl,o5,lo,k⟩:=h;refine⟨rfl,λhr=>?_⟩;have zl:=BM;have lp:ps.length=O.length:=J1 pl;refine⟨_,(T0 (FC 1 T.T7.S rT)
  (T0 (t8 O1.po rfl (YN rfl T.ID (F0 (pv 0) Z0)) (gL rfl (n9 (wE 2 T.T7.S) (n9 (wE 3 T.T7.S) qH))) (X0 (t8 O1.po rfl (W7 (MC T.YB (uP T) hr (F0 (U2 (pv 3) rfl) Z0))) (wE 4 T.T7.S) (X0 (Xl (GM hr) (pv 1) (pv 4) (X4 Ca (sT (GM hr) (pv 1) (pv 4) O2 ⟨rfl,rfl,rfl,rfl⟩) (X4 aT O2 (pv 2))) rfl)))))
  (X0 (Q3 (pv 1))))),?_⟩
 refine λd nd=>?_;have s1:Same H (upd H d (.dK [])):=(Same.refl _).new nd;refine⟨_,rfl,q,_,rfl,SqL.of (s1 _ _ hq),ZL (K:=Kq) (a:=q) (xs:=ps.map V.ref) (λi σ H'=>E4 λ(v2 v3 v4:Option V)(kvs:List (YC×V))=>A5 (σ=[some (.ref q),some (.ref d),v2,v3,v4]) (Same H H') (H' d=some (.dK kvs)) (GN kvs) (RS kvs ((O.take i).map Y6)))
  ⟨none,none,none,[],rfl,s1,C0,⟨.nil,λz hz=>(nomatch hz)⟩,λx=>rfl⟩ (by rintro i σ H' _ ⟨_,_,_,_,_,sm,_⟩;exact SqL.of (sm _ _ hq)) ?_ ?_⟩
 .rintro i y σ H' t hi ⟨v2,v3,v4,kvs,rfl,sm,hd,lk,bj⟩ nt;obtain⟨p,hp,rfl⟩:=U8 hi;obtain⟨l,hl,pa⟩:=Paired.get pl hp;have il:=(P0.mp hl).1;obtain⟨ne,lt⟩:=lo l (M1 hl);obtain⟨r,m,rfl⟩:∃r m,l=r::m:=by
   cases l with
   |nil=>exact absurd rfl ne
   |cons r m=>exact⟨r,m,rfl⟩
  obtain⟨p',dx,WZ,av,e,hp1,_,_⟩:=pa;obtain rfl:=V.ref.inj e;have s2:Same H' (upd H' t (.tup [.int i,.ref p])):=(Same.refl _).new nt;have hp2:=s2 _ _ (sm _ _ hp1);have sm2:=sm.trans s2;have HW:=s2 _ _ hd;refine⟨t,_,rfl,.inl (.inl C0),rfl,_,_,rfl,_,_,rfl,rfl,?_⟩;generalize upd H' t (.tup [.int i,.ref p])=H2 at s2 hp2 sm2 HW;refine⟨_,rfl,p,_,dx,_,_,rfl,hp2,T.UA.c,T.jI,rfl,P6 r,rfl,WD lt (by decide),λH3 g s3 hg=>?_⟩;have XZ:=s3 _ _ HW;have gd:g≠d:=λe=>by rw[e,XZ]at hg;cases hg
  have lks:((O.take i).map Y6).length=i:=by rw[B0,Z1];lia
  generalize hks:(O.take i).map Y6=ks at bj lks;refine⟨g,rfl,⟨_,SqL.of hg⟩,LA (K:=Kq) (a:=g) (xs:=nL (T5 (P6 r))) (λj σ G=>E2 λ(v4:Option V)(kvs:List (YC×V))=>A6 (σ=[some (.ref q),some (.ref d),some (.int i),some (.ref p),v4]) (Same H G) (Iy d H3 G) (G d=some (.dK kvs)) (GN kvs) (∀x:Nat,(a9 kvs (.inl (x:Int))).getD (.int 0)=.int (lK ks (P6 r) j x)))
   ⟨v4,kvs,rfl,sm2.trans s3,λ_ _ e _=>e,XZ,lk,λx=>by rw[Ky];exact bj x⟩ (by rintro j σ G _ ⟨_,_,_,_,f,_⟩;exact SqL.of (f _ _ hg gd)) ?_ ?_⟩
  .rintro j y σ G hj ⟨v4,kvs,rfl,sg,f,hdG,lk,bj⟩;unfold nL at hj;rw[P1]at hj;obtain⟨x,hx,rfl⟩:∃x,(T5 (P6 r))[j]?=some x/\y=.int x:=by
    cases e:(T5 (P6 r))[j]? with
    |none=>rw[e]at hj;cases hj
    |some x=>rw[e]at hj;exact⟨x,rfl,(M0 hj).symm⟩
   have x64:x<64:=by
    have tb:=TJ.mp (M1 hx);have:2^x<=P6 r:=Nat.ge_two_pow_of_testBit tb;have:(2:Nat)^x<2^63:=Q9 this lt;have:=(Nat.pow_lt_pow_iff_right (a:=2) (by decide)).mp this
    lia
   have znW:=lk.len;refine⟨_,rfl,d,rfl,.inl ⟨_,.inl hdG⟩,_,rfl,_,EK.k (k:=.inl (x:Int)) hdG,_,rfl,_,_,rfl,rfl,⟨by lia,by lia,by decide⟩,_,_,bj x,rfl,?_⟩;dsimp only[];rw[show(1:Int)=((1:Nat):Int)from rfl,rO,RI,sE];refine⟨_,rfl,_,rfl,d,_,rfl,Qh.k (k:=.inl (x:Int)) hdG (by lia),some (.int x),_,rfl,sg.set nd,λb o e ne=>by rw[N0 ne];exact f _ _ e ne,C0,lk.put x64 _,λy=>?_⟩;rw[RS.put bj,Zf hx,lks]
  .rintro σ G ⟨v4,kvs,rfl,sg,f,hdG,lk,bj⟩;refine⟨_,_,_,kvs,rfl,sg,hdG,lk,λx=>?_⟩;have e:(nL (T5 (P6 r))).length=(T5 (P6 r)).length:=B0 _;rw[bj x,e,Qk,T3 hl,U0,hks];rfl
 .rintro σ H' ⟨v2,v3,v4,kvs,rfl,sm,hd,lk,bj⟩;rw[B0,lp,Y1]at bj;exact⟨_,rfl,k _ d kvs sm nd hd bj⟩
theorem zbn(h:n<2^40)(l:lap<=3):near lap n<2^64:=by
 have g:∀i,i<=3->EN n i<2^64:=λi=>by
  induction i with
  |zero=>intro _;exact AK 64
  |succ i ih=>
   intro hi;rw[xR];refine Nat.or_lt_two_pow (Nat.or_lt_two_pow (ih (by lia)) ?_) ?_
   .rw[SI];have:2^i<=2^3:=sA (by decide) (by lia);exact P2 (Nat.mul_lt_mul_of_lt_of_le h this (by decide)) (by decide)
   .rw[BC];exact Q9 (Nat.div_le_self _ _) (WD h (by decide))
 exact g lap l
theorem zbo(b m:Nat):Builtin.bitAnd (b:Int) (Builtin.bitNot (m:Int))=((b-(b&&&m):Nat):Int):=by
 unfold Builtin.bitAnd;rw[F1 (show(0:Int)<=(b:Int) by lia),Y0 (show ¬(0:Int)<=Builtin.bitNot (m:Int) by unfold Builtin.bitNot;lia)];dsimp only;have e:(Builtin.bitNot (Builtin.bitNot (m:Int))).toNat=m:=by
  unfold Builtin.bitNot
  lia
 have l:b&&&m<=b:=vK;rw[e,c5]
 lia
theorem Ly{s:Bd.Row}(h:lengthOf r=lengthOf s) (ne:P6 r≠P6 s) (so:sooner (s::m) (r::l)=true):tG (PM (s::m)) (PM (r::l))=true:=by
 have sr:s≠r:=λe=>ne (by rw[e]);show(if (Sum.inl (cutsIn (s::m):Int):KI)=.inl (cutsIn (r::l):Int)then(if (Sum.inl (piecesIn (s::m):Int):KI)=.inl (piecesIn (r::l):Int)then(if (Sum.inr (rI s):KI)=.inr (rI r)then false else HT.lexLt (rI s) (rI r))else decide ((piecesIn (s::m):Int)<(piecesIn (r::l):Int)))else decide ((cutsIn (s::m):Int)<(cutsIn (r::l):Int)))=true;rcases(VH _ _).mp so with q|⟨q,q2|⟨q2,q3⟩⟩
 .rw[D0 (λz=>by have:=uA z;lia),O0]
  lia
 .rw[J0 (by rw[q]),D0 (λz=>by have:=uA z;lia),O0]
  lia
 .rw[J0 (by rw[q]),J0 (by rw[q2]),D0 (λz=>sr (Jy (Sum.inr.inj z))),HZ h.symm];rw[KJ]at q3;rcases Bool.or_eq_true_iff.mp q3 with e|e
  .exact e
  .exact absurd (O4.mp (RB.mp e).1) sr
def gY(n:Nat)(P:List (List Bd.Row)):Prop:=∀l∈P,∃r m,l=r::m/\lengthOf r=n
theorem FV(hd:gY n P)(nd:(P.map Y6).Nodup)(ml:l∈P)(mm:m∈P)(p:tG (PM m) (PM l)=false):¬sooner m l=true:=λso=>by
 obtain⟨r,l',rfl,lr⟩:=hd l ml;obtain⟨s,m',rfl,ls⟩:=hd m mm;by_cases c:P6 r=P6 s
 .have q:(r::l')=(s::m'):=by
   obtain⟨x,hx,ex⟩:=C4.mp ml;obtain⟨y,hy,ey⟩:=C4.mp mm;have Pt:x<(P.map Y6).length:=by rw[B0];exact hx
   have hy':y<(P.map Y6).length:=by rw[B0];exact hy
   have z4:(P.map Y6)[x]=(P.map Y6)[y]:=by rw[Z5,Z5,ex,ey];exact c
   have:=(kC nd).mp z4;subst this;rw[<-ex,<-ey]
  rw[q]at so;exact QP _ so
 .rw[Ly (by lia) c so]at p;cases p
theorem Ag{K:Frag}(pl:bH K C H ps P) (hd:gY n P) (nd:(P.map Y6).Nodup):ps.Nodup:=by
 have lp:ps.length=P.length:=J1 pl;rw[OG,cA];intro i j hi hj ij e;obtain⟨l,hl,pa⟩:=Paired.get pl (K0 hi);obtain⟨m,hm,pb⟩:=Paired.get pl (K0 hj);obtain⟨r,l',rfl,_⟩:=hd l (M1 hl);obtain⟨s,m',rfl,_⟩:=hd m (M1 hm);obtain⟨p1,d1,w1,v1,e1,a1,_⟩:=pa;obtain⟨p2,d2,w2,v2,e2,a2,_⟩:=pb;have q1:=V.ref.inj e1;have q2:=V.ref.inj e2;rw[<-q1,e,q2,a2]at a1;have z:=(HO.ins.inj (M0 a1)).2.2;have z2:V.int (P6 s)=V.int (P6 r):=(WB (xB (xB z).2).1).2;have z3:P6 s=P6 r:=by have:=V.int.inj z2;lia
 have hi':i<(P.map Y6).length:=by rw[B0];lia
 have Nz:j<(P.map Y6).length:=by rw[B0];lia
 have z4:(P.map Y6)[i]=(P.map Y6)[j]:=by
  rw[Z5,Z5,(P0.mp hl).2,(P0.mp hm).2];exact z3.symm
 have:=(kC nd).mp z4
 lia
theorem IZ{K:Frag}{zs:List (Addr×List KI)}(pl:bH K C H ps P) (hd:gY n P) (nd:(P.map Y6).Nodup) (pm:(zs.map Prod.fst).Perm ps) (mem:∀z∈zs,z∈ps.zip (P.map PM)) (pw:zs.Pairwise λa b=>tG b.2 a.2=false) :
  ∃O,bH K C H (zs.map Prod.fst) O/\O.Perm P/\O.Pairwise λl m=>¬sooner m l=true:=by
 have pn:=Ag pl hd nd;have lp:ps.length=P.length:=J1 pl;have at_:∀z∈zs,∃l,P.getD (ps.idxOf z.1) []=l/\l∈P/\AA K C H l (.ref z.1)/\z.2=PM l:=λz hz=>by
  obtain⟨i,hi,e⟩:=C4.mp (mem z hz);rw[JF,B0]at hi;rw[YI]at e;have h1:i<ps.length:=by lia
  have h2:i<P.length:=by lia
  have e1:ps[i]=z.1:=by rw[<-e]
  have e2:PM P[i]=z.2:=by rw[<-e,Z5]
  have ei:ps.idxOf z.1=i:=by rw[<-e1];exact nI pn i h1
  obtain⟨l,hl,pa⟩:=Paired.get pl (K0 h1);have el:=(P0.mp hl).2;refine⟨l,?_,M1 hl,by rw[<-e1];exact pa,by rw[<-e2,el]⟩;rw[ei,Q2,hl];rfl
 refine⟨zs.map λz=>P.getD (ps.idxOf z.1) [],?_,?_,?_⟩
 .clear pm pw
  induction zs with
  |nil=>exact .nil
  |cons z zs ih=>
   refine .cons ?_ (ih (λy hy=>mem y (by simp[hy])) λy hy=>at_ y (by simp[hy]));obtain⟨l,e,_,pa,_⟩:=at_ z (by simp);show AA K C H (P.getD (ps.idxOf z.1) []) _;rw[e];exact pa
 .have z:=pm.map λa=>P.getD (ps.idxOf a) [];rw[B3]at z;refine z.trans ?_;have e:ps.map (λa=>P.getD (ps.idxOf a) [])=P:=by
   apply List.ext_getElem (by rw[B0,lp]);intro i h1 h2;rw[Z5,nI pn i (by lia),Q2,K0 h2];rfl
  rw[e]
 .have zn:(zs.map Prod.fst).Nodup:=pm.nodup_iff.mpr pn;rw[FH,cA];rw[cA]at pw;intro i j hi hj ij so;obtain⟨l,e1,ml,pa,k1⟩:=at_ zs[i] (aF hi);obtain⟨m,e2,mm,pb,k2⟩:=at_ zs[j] (aF hj);rw[e1,e2]at so;have p:=pw i j hi hj ij;rw[k1,k2]at p;exact FV hd nd ml mm p so
inductive Ko(K:Frag)(C:Addr)(vs:List V)(H:Hp)(Q:VK)(E':XK):Prop
 |mk (q d:Addr) (ps:List Addr) (P:List (List Bd.Row)) (kvs:List (YC×V)) (D:List (Nat×Bd.Row)) (n lap:Nat):vs=[.ref q,.ref d,.int lap]->H q=some (.lst (ps.map V.ref))->bH K C H ps P->gY n P->(P.map Y6).Nodup->P.length<=500000->H d=some (.dK kvs)->uE K H kvs D->kvs.length<=500000->(∀z∈D,z.1=P6 z.2/\lengthOf z.2=n)->(D.map Prod.fst).Nodup->n<=40->1<=lap->lap<=3->(∀(H':Hp)(q':Addr)(ps':List Addr)(O:List (List Bd.Row)),Same H H'->H' q'=some (.lst (ps'.map V.ref))->bH K C H' ps' (ZE lap D O)->O.Perm P->(O.Pairwise λl m=>¬sooner m l=true)->Q (.ref q') H')->Ko K C vs H Q E'
theorem Lo{K:Frag}{b:Addr}{o:Obj}(hS:H d=some (.frz o (.dK k1))) (q:eA K H b xs):eA K (upd H d u) b xs:=by
 rcases q with q|q
 .rcases q with q|⟨o,q⟩
  .exact .inl (.inl (by rw[N0 (λz=>by rw[z,hS]at q;cases q)];exact q))
  .exact .inl (.inr ⟨o,by rw[N0 (λz=>by rw[z,hS]at q;cases q)];exact q⟩)
 .exact .inr q
def My(d f:Addr)(H H':Hp):Prop:=∀b o,H b=some o->b≠d->b≠f->H' b=some o
theorem My.tup{K:Frag}(x:My d f H H') (hd:H d=some u) (nu:∀xs,u≠.tup xs) (nu2:∀o xs,u≠.frz o (.tup xs)) (hf:H f=some (.lst ys)) (h:eA K H t xs):eA K H' t xs:=by
 rcases h with h|h
 .rcases h with h|⟨o,h⟩
  .exact .inl (.inl (x _ _ h (λz=>by rw[z,hd]at h;exact nu _ (M0 h)) λz=>by rw[z,hf]at h;cases h))
  .exact .inl (.inr ⟨o,x _ _ h (λz=>by rw[z,hd]at h;exact nu2 _ _ (M0 h)) λz=>by rw[z,hf]at h;cases h⟩)
 .exact .inr h
theorem GV(T:vA Kq k9 aq):Fo Pq wq bq true T.l7 4 (Ko Kq aq.b8):=by
 refine T.l7.F.kk T.l7.S λH vs Q E h=>?_;obtain⟨q,d,ps,Pq,kvs,D,n,lap,rfl,hq,pl,MZ,nd,p5,hd,dr,k5,dg,nD,n40,lap1,lap3,k⟩:=h;refine⟨rfl,λhr=>?_⟩;have zl:=BM;have lp:ps.length=Pq.length:=J1 pl;have lD:kvs.length=D.length:=J1 dr;refine⟨_,(T0 (FC 3 T.l7.S (Sw (zR T) hr.mo rfl T.Pe BX rfl T.vD.m T.vD.b zb3 (F0 (pv 0) Z0)))
  (T0 (FC 4 T.l7.S (MC T.T7 (yP T) hr (F0 (pv 3) Z0)))
  (T0 (FC 5 T.l7.S (d6 Z0))
  (T0 (Yl (t8 O1.po rfl (Sc (pv 1)) (wE 6 T.l7.S) (T0 (FC 7 T.l7.S (X4 EC (X4 aT O2 (NS T.wB (pv 3))) O2))
  (T0 (t8 O1.po rfl (W7 (MC T.YB (uP T) hr (F0 (MC T.D9 (fM T) hr (F0 (pv 6) (F0 (pv 2) Z0))) Z0))) (wE 8 T.l7.S) (X0 (FC 7 T.l7.S (X4 nY (pv 7) (rK zc3 (sT (GM hr) (pv 4) (pv 8) O2 ⟨rfl,rfl,rfl,rfl⟩))))))
  (X0 (c7 (W3 Kl (pv 7) O2 (V3 _)) (X0 (n6 (BD j2 j3 o3 K9 (pv 5) (F0 (kM (T.UA.k0 T.j9) (oJ T) hr.mo rfl T.UA.m T.j9.b .nil O1.passes (F0 (GS (GM hr) (pv 1) (pv 6) (λ_ _=>rfl)) (F0 (pv 6) (F0 (P7 B7 (pv 3) (MC T.kG (DW T) hr (F0 (pv 7) Z0)) (λ_ _=>rfl)) Z0)))) Z0)))) U4))))))
  (X0 (Q3 (pv 5))))))),?_⟩
 refine⟨_,rfl,q,ps,Pq.map PM,rfl,SqL.of hq,⟨by rw[B0,lp],λi p m hi hm H2 s2=>?_⟩,⟨λky hk=>?_,λx hx y hy=>?_⟩,λzs H1 oq pm mem pw s1 hoq=>?_⟩
 .obtain⟨l,hl,pa⟩:=Paired.get pl hi;rw[P1,hl]at hm;obtain rfl:=M0 hm;obtain⟨r,m',rfl,_⟩:=MZ l (M1 hl);exact⟨p,r,m',rfl,pa.same s2,λH3 v s3 ky=>⟨s3,ky⟩⟩
 .obtain⟨l,hl,rfl⟩:=S2.mp hk;obtain⟨r,m',rfl,_⟩:=MZ l hl;exact⟨_,_,rfl⟩
 .obtain⟨l,hl,rfl⟩:=S2.mp hx;obtain⟨r,m',rfl,_⟩:=MZ l hl;obtain⟨l2,Jt,rfl⟩:=S2.mp hy;obtain⟨r2,m2,rfl,_⟩:=MZ l2 Jt;exact trivial
 obtain⟨O,po,op,ord⟩:=IZ pl MZ nd pm mem pw;have hdO:gY n O:=λl hl=>MZ l (op.mem_iff.mp hl);have lO:O.length<=500000:=by rw[op.length_eq];exact p5
 have eo:zs.map (λz=>V.ref z.1)=(zs.map Prod.fst).map V.ref:=by rw[B3];rfl
 rw[eo]at hoq;have lz:(zs.map Prod.fst).length=O.length:=J1 po;generalize zs.map Prod.fst=os at *;have po1:=po.same s1;have zjP:∀l∈O,l≠[]/\Y6 l<2^63:=λl hl=>by
  obtain⟨r,m,rfl,lr⟩:=hdO l hl;exact⟨by simp,P2 (Uw (r:=r) (n:=40) (by lia)) (by decide)⟩
 refine⟨_,rfl,oq,os,O,rfl,hoq,po1,lO,zjP,λH2 wd wk s2 nwd hw bj=>?_⟩;have iH:=s1.trans s2;refine⟨D1 _,λf nf=>?_⟩;have s3:Same H2 (upd H2 f (.lst [])):=(Same.refl _).new nf;have hf3:upd H2 f (.lst []) f=some (.lst (([]:List Addr).map V.ref)):=C0;have nfH:=iH.free nf;generalize upd H2 f (.lst [])=H3 at s3 hf3;have s13:=iH.trans s3;have XZ:=s13 _ _ hd;have dr3:=dr.same s13;have zez:=(s2.trans s3) _ _ hoq;have po3:=po1.same (s2.trans s3);have hw3:=s3 _ _ hw;have fd:f≠d:=λe=>by rw[e,iH _ _ hd]at nf;cases nf
 have oqd:oq≠d:=λe=>by rw[e,XZ]at zez;cases zez
 have oqf:oq≠f:=λe=>by rw[e]at hoq;rw[s2 _ _ hoq]at nf;cases nf
 have wdd:wd≠d:=λe=>by rw[e,s1 _ _ hd]at nwd;cases nwd
 have wdf:wd≠f:=λe=>by rw[e,hf3]at hw3;cases hw3
 refine⟨d,_,XZ,trivial,λod=>?_⟩;have frz:upd H3 d (.frz od (.dK kvs)) d=some (.frz od (.dK kvs)):=C0;have o0:My d f H3 (upd H3 d (.frz od (.dK kvs))):=λb o e n1 _=>by rw[N0 n1];exact e
 refine⟨_,rfl,d,od,kvs,rfl,frz,Fy (d:=d) (o:=od) (kvs:=kvs) (λi σ G=>E4 λ(v6 v7 v8:Option V)(fs:List Addr)=>A6 (σ=[some (.ref q),some (.ref d),some (.int lap),some (.ref oq),some (.ref wd),some (.ref f),v6,v7,v8]) (G d=some (.frz od (.dK kvs))) (My d f H3 G) (G f=some (.lst (fs.map V.ref))) (fs.length<=i) (bH Kq aq.b8 G fs (ZE lap (D.take i) O)))
  ⟨none,none,none,[],rfl,frz,o0,by rw[N0 fd];exact hf3,D1 _,.nil⟩ (by rintro i σ G _ ⟨_,_,_,_,_,z,_⟩;exact z) ?_ ?_⟩
 .rintro i PV v σ G hi ⟨v6,v7,v8,fs,rfl,gd,off,gf,lf,pf⟩;obtain⟨z,hz,ek,t,et,st⟩:=Paired.get dr3 hi;have zm:=M1 hz;have il:=(P0.mp hz).1;obtain⟨zk,zl'⟩:=dg z zm;have z40:z.1<2^40:=by rw[zk];exact Uw (r:=z.2) (n:=40) (by lia)
  dsimp only at ek et;subst ek;subst et;have goq:=off _ _ zez oqd oqf;have gw:=off _ _ hw3 wdd wdf;refine⟨_,rfl,oq,_,rfl,.inl (SqL.of goq),_,_,rfl,rfl,⟨by lia,by rw[B0];lia,by decide⟩,_,_,rfl,rfl,?_⟩;dsimp only[];rw[B0,lz,show(1:Int)=((1:Nat):Int)from rfl,rO,sE,show(((2^O.length:Nat):Int)-((1:Nat):Int))=((2^O.length-1:Nat):Int) by have:=AK O.length;lia];have b0:2^O.length-1=mE (O.map Y6) []:=by rw[Gr,B0]
  rw[b0];refine⟨_,rfl,_,rfl,z.1,lap,rfl,lap1,lap3,WD z40 (by decide),near lap z.1,rfl,zbn z40 lap3,λG4 g s4 hg=>?_⟩;have gw4:=s4 _ _ gw;refine⟨g,rfl,⟨_,SqL.of hg⟩,LA (K:=Kq) (a:=g) (xs:=nL (T5 (near lap z.1))) (λj σ G'=>∃(v8:Option V),σ=[some (.ref q),some (.ref d),some (.int lap),some (.ref oq),some (.ref wd),some (.ref f),some (.int z.1),some (.int ((mE (O.map Y6) ((T5 (near lap z.1)).take j):Nat):Int)),v8]/\G'=G4)
   ⟨v8,rfl,rfl⟩ (λj σ G' _ ⟨_,_,e⟩=>by rw[e];exact SqL.of hg) ?_ ?_⟩
  .rintro j y σ G' hj ⟨v8,rfl,rfl⟩;unfold nL at hj;rw[P1]at hj;obtain⟨x,hx,rfl⟩:∃x,(T5 (near lap z.1))[j]?=some x/\y=.int x:=by
    cases e:(T5 (near lap z.1))[j]? with
    |none=>rw[e]at hj;cases hj
    |some x=>rw[e]at hj;exact⟨x,rfl,(M0 hj).symm⟩
   refine⟨_,rfl,_,rfl,wd,rfl,.inl ⟨_,.inl gw4⟩,_,rfl,_,EK.k (k:=.inl (x:Int)) gw4,_,bj x,_,_,rfl,rfl,?_⟩;dsimp only[];rw[zbo,<-Ti,<-T3 hx];exact⟨some (.int x),rfl,rfl⟩
  .rintro σ G' ⟨v8,rfl,rfl⟩;have el:(nL (T5 (near lap z.1))).length=(T5 (near lap z.1)).length:=B0 _;rw[el,Y1];have hb:=λi=>Zc (ks:=O.map Y6) (m:=near lap z.1) (xs:=T5 (near lap z.1)) (λx=>TJ) i;have hb2:∀i,(mE (O.map Y6) (T5 (near lap z.1))).testBit i=(decide (i<O.length)&&(near lap z.1&&&(O.map Y6).getD i 0==0)):=λi=>by rw[hb,B0]
   obtain⟨f0,f1⟩:=Hr hb2;generalize mE (O.map Y6) (T5 (near lap z.1))=bn at hb2 f0 f1;have gd4:=s4 _ _ gd;have gf4:=s4 _ _ gf;have pf4:=pf.same s4;have KW:My d f H3 G':=λb o e n1 n2=>s4 _ _ (off _ _ e n1 n2);have po4:bH Kq aq.b8 G' os O:=Paired.mapP po3 λp l h=>h.keep (λb C' dx fs e _=>KW _ _ e (λz=>by rw[z,XZ]at e;cases e) λz=>by rw[z,hf3]at e;cases e) λb xs h=>KW.tup XZ (λ_ z=>by cases z) (λ_ _ z=>by cases z) hf3 h;have st4:eA Kq G' t ((rI z.2).map V.int):=KW.tup XZ (λ_ z=>by cases z) (λ_ _ z=>by cases z) hf3 st;have zjT:=s4 _ _ goq;have sn:ZE lap (D.take (i+1)) O=ZE lap (D.take i) O++((gN lap z.1 O).map λl=>z.2::l).toList:=by
    unfold ZE;rw[T3 hz,List.filterMap_append];congr 1
   refine⟨_,rfl,rfl,_,rfl,?_⟩;by_cases c:bn=0
   .have e0:=f0 c;rw[F1 (show V.int bn=V.int 0 by rw[c];rfl)];refine a8 ⟨some (.int z.1),_,v8,fs,rfl,gd4,KW,gf4,by lia,?_⟩;rw[sn,show gN lap z.1 O=none from e0];rw[Option.map_none,Option.toList_none,D3];exact pf4
   .rw[Y0 (show ¬V.int bn=V.int 0 from λh=>c (by have:=V.int.inj h;lia))];have zeA:=dr3.got nD hz hi;refine C7 ⟨_,rfl,.inl ⟨rfl,_,SqL.of gf4⟩,_,rfl,_,rfl,d,_,rfl,.inl ⟨kvs,.inl (z.1:Int),.inr ⟨od,gd4⟩,rfl,zeA.symm⟩,_,rfl,_,rfl,_,rfl,bn,rfl,by lia,λl hl1 Jt=>?_⟩;have ll:l<O.length:=by
     have:=hb2 l;rw[hl1]at this;exact d5 (RB.mp this.symm).1
    have ef:=f1 l hl1 Jt;rw[K0 ll]at ef;have lo:l<os.length:=by lia
    obtain⟨m,hm,pm4⟩:=Paired.get po4 (K0 lo);have em:=(P0.mp hm).2;have zl3:=zC z.2;refine⟨oq,_,_,.ref os[l],rfl,rfl,SqL.of zjT,X5 (by rw[P1,K0 lo];rfl),λp dx np Uz npd=>?_⟩;have s5:Same G' (upd (upd G' dx (.own p)) p (.ins aq.b8 dx [])):=((Same.refl _).new Uz).new (by rw[N0 npd.symm];exact np);refine⟨p,dx,t,z.2,z.1,.ref os[l],m,rfl,C0,s5.tup st4,by lia,zk,pm4.same s5,λH5 h5 fr5=>⟨rfl,?_⟩⟩;have Ws:Same G' H5:=λb o e=>fr5 b o (C1 e np) (s5 _ _ e);have gf5:=Ws _ _ gf4;have upl:∀{p:Addr}{l:List Bd.Row}{xs ys:List V},H5 f=some (.lst xs)->AA Kq aq.b8 H5 l (.ref p)->AA Kq aq.b8 (upd H5 f (.lst ys)) l (.ref p):=λhf h=>h.keep (λb C' dx fs e _=>by rw[N0 (λz=>by rw[z,hf]at e;cases e)];exact e) λb xs h=>KF hf h;refine⟨f,_,.ref p,rfl,rfl,gf5,(by rw[B0];lia),some (.int z.1),some (.int bn),v8,fs++[p],rfl,by rw[N0 fd.symm];exact Ws _ _ gd4,λb o e n1 n2=>by rw[N0 n2];exact Ws _ _ (KW _ _ e n1 n2),by rw[C0,U0];rfl,by rw[T1];exact Nat.succ_le_succ lf,?_⟩;rw[sn,show gN lap z.1 O=some O[l]from ef,em];exact B4 (Paired.mapP (pf4.same Ws) λ_ _ h=>upl gf5 h) (upl gf5 ⟨p,dx,t,.ref os[l],rfl,h5,Ws.tup st4,pm4.same Ws⟩)
 .rintro σ G ⟨v6,v7,v8,fs,rfl,gd,off,gf,lf,pf⟩;refine⟨gd,_,rfl,?_⟩;rw[lD,Y1]at pf;refine k _ f fs O (λb o e=>?_) (by rw[N0 fd];exact gf) ?_ op ord
  .by_cases c:b=d
   .rw[c,C0,<-hd,<-c];exact e
   .rw[N0 c];exact off _ _ (s13 _ _ e) c λz=>by rw[z,nfH]at e;cases e
  .exact Paired.mapP pf λp l h=>h.keep (λb C' dx fs e _=>by rw[N0 (λz=>by rw[z,gd]at e;cases e)];exact e) λb xs h=>Lo gd h
inductive Ny(K:Frag)(C CP:Addr)(vs:List V)(H:Hp)(Q:VK)(E':XK):Prop
 |mk (p dx mk pp q te:Addr) (ps:List Addr) (b:Bond) (pt:Part) (pn:Panel) (fl:List Nat):vs=[.ref p,.ref q,.ref te,.int (bitsOf fl)]->lI K C H p dx mk pp ps b->jE b->Hk CP H q pt->pn.length=pt.long->pn.first=pt.y->pn.courses=pt.high->1<=pt.long->pt.long<=40->1<=pt.high->pt.high<=8->pt.y<=1000->H te=some (.tup [.int pn.left,.int pn.right])->pn.left<=2->pn.right<=2->bitsOf fl<2^64->(∀(H':Hp)(q':Addr)(ts:List Addr),Same H H'->H q'=none->H' q'=some (.lst (ts.map V.ref))->V5 K H' ts ((fillOf b pn fl).getD [])->Q (.ref q') H')->Ny K C CP vs H Q E'
theorem Bg{k:Nat}(h:PJ b pn n k P):gY pn.length P:=λl hl=>by
 obtain⟨s,ll⟩:=h.good l hl;cases l with
 |nil=>simp at ll
 |cons r m=>exact⟨r,m,rfl,rM s r (by simp)⟩
theorem Oy(lap:Nat)(D:List (Nat×Bd.Row))(O:List (List Bd.Row)):(ZE lap D O).length<=D.length:=List.length_filterMap_le _ _
theorem No{k:Nat}(h:SY b pn k D):∀z∈D,z.1=P6 z.2/\lengthOf z.2=pn.length:=λz hz=>⟨(h.good z hz).1,(yO.mp (h.good z hz).2).1⟩
theorem xS(T:vA Kq k9 aq):Fo Pq wq bq true T.U5 6 (Ny Kq aq.tD aq.JB):=by
 refine T.U5.F.kk T.U5.S λH vs Q E h=>?_;obtain⟨p,dx,mk,pp,q,te,ps,b,pt,pn,fl,rfl,B,zE,⟨dq,hq⟩,e1,e2,e3,n1,n40,h1,h8,y1,hte,l2,r2,f64,k⟩:=h;refine⟨rfl,λhr=>?_⟩;have zl:=BM;refine⟨_,(T0 (FC 4 T.U5.S (X4 EC (X4 AB (U2 (pv 1) rfl) (U2 (pv 1) rfl)) O2))
  (T0 (FC 5 T.U5.S (MC T.bC (ER T) hr (F0 (pv 0) (F0 (pv 4) (F0 (U2 (pv 1) rfl) (F0 (pv 2) Z0))))))
  (T0 (Yl (LI (i:=6) O1 rfl rfl (own:=[("joints",7)]) rfl T.U5.S.nd rfl rfl rfl (Sc (pv 5)) (bW ["bond","panel","ends","floor","top","rows","piles","joints","course","pile"] (X3 RG) [("joints",7)]) (λtk=>(wE 7 T.U5.S)) (λtk=>Y9) (λtk=>(kM (T.UA.k0 T.j9) (oJ T) hr.mo rfl T.UA.m T.j9.b .nil tk.passes (F0 (GS (GM hr) (pv 5) (pv 7) (λ_ _=>rfl)) (F0 (pv 7) (F0 lY Z0)))))))
  (T0 (t8 O1.po rfl (Vp rfl T.lG (F0 (X4 EC (pv 4) O2) (F0 (X4 EC (U2 (pv 1) rfl) O2) (F0 (rK AG O2) Z0)))) (wE 8 T.U5.S) (X0 (FC 6 T.U5.S (MC T.l7 (GV T) hr (F0 (pv 6) (F0 (MC T.bC (ER T) hr (F0 (pv 0) (F0 (pv 8) (F0 (U2 (pv 1) rfl) (F0 (pv 2) Z0))))) (F0 (U2 (pv 0) rfl) Z0)))))))
  (T0 (LI (i:=6) O1 rfl rfl (own:=[("pile",9)]) rfl T.U5.S.nd rfl rfl rfl (W7 (pv 6)) (bW ["bond","panel","ends","floor","top","rows","piles","joints","course","pile"] (X3 RG) [("pile",9)]) (λtk=>(wE 9 T.U5.S)) (λtk=>(wY (cD (pcg T.gF (BV T) hr.mo tk.passes (F0 (yZ (K:=Kq) rfl (pv 9) rfl) (F0 (pv 3) (F0 (yZ (K:=Kq) rfl (pv 0) rfl) Z0))))))) (λtk=>(pv 9)))
  (X0 (Q3 (MC T.vG (Nk T) hr (F0 (za4 (zR T) hr.mo rfl rfl T.zfW zdM rfl T.vD.m T.vD.b zb3 (F0 (pv 6) Z0)) Z0))))))))),?_⟩
 refine⟨_,rfl,q,_,dq,_,_,rfl,hq,T.C8.c,T.V9,rfl,_,rfl,q,_,dq,_,_,rfl,hq,T.C8.c,T.xK,rfl,_,_,rfl,rfl,_,_,rfl,rfl,?_⟩;dsimp only[];obtain⟨bA,et⟩:∃bA:Nat,pt.y+pt.high=bA+1:=⟨pt.y+pt.high-1,by lia⟩
 rw[show(pt.y:Int)+(pt.high:Int)-1=(bA:Int) by lia];refine⟨_,rfl,_,rfl,_,rfl,q,_,dq,_,_,rfl,hq,T.C8.c,T.gC,rfl,_,rfl,p,dx,mk,pp,te,ps,b,bA,pn,by rw[e1];rfl,B,zE,by lia,by lia,hte,l2,r2,λH1 d kvs D s1 hd dr k5 ro=>?_⟩;have lD:kvs.length=D.length:=J1 dr;refine⟨d,_,hd,trivial,λod=>?_⟩;have frz:upd H1 d (.frz od (.dK kvs)) d=some (.frz od (.dK kvs)):=C0;have o0:Iy d H1 (upd H1 d (.frz od (.dK kvs))):=λb o e n1=>by rw[N0 n1];exact e
 generalize upd H1 d (.frz od (.dK kvs))=H2 at frz o0;refine⟨_,rfl,d,od,kvs,rfl,frz,λL hL=>?_⟩;have Ld:L≠d:=λe=>by rw[e,frz]at hL;cases hL
 have sL:Same H2 (upd H2 L (.lst [])):=(Same.refl _).new hL;refine zbl (d:=d) (o:=od) (kvs:=kvs) (λi G=>∃(fs:List Addr),A3 (Same H2 G) (G L=some (.lst (fs.map V.ref))) (bH Kq aq.b8 G fs ((D.take i).map λz=>[z.2]))) ⟨[],sL,C0,.nil⟩ (by rintro i G _ ⟨_,s,_⟩;exact s _ _ frz) ?_ ?_
 .rintro i PV v G hi ⟨fs,s2,hG,pf⟩;obtain⟨z,hz,ek,t,et',st⟩:=Paired.get dr hi;have il:=(P0.mp hz).1;have zk:=(ro.good z (M1 hz)).1;dsimp only at ek et';subst ek;subst et';have lf:fs.length<=i:=by
   have:=J1 pf;rw[B0,Z1]at this
   lia
  have zeA:=dr.got ro.nd hz hi;have Uk:eA Kq G t ((rI z.2).map V.int):=s2.tup (o0.tupD hd st);have zl3:=zC z.2;have zle:=(No ro z (M1 hz)).2;refine⟨rfl,?_⟩;dsimp only[Sa];rw[J0 rfl];refine⟨_,rfl,_,rfl,d,_,rfl,.inl ⟨kvs,.inl (z.1:Int),.inr ⟨od,s2 _ _ frz⟩,rfl,zeA.symm⟩,_,rfl,λp' Rs np Uz npd=>?_⟩;have s5:Same G (upd (upd G Rs (.own p')) p' (.ins aq.b8 Rs [])):=((Same.refl _).new Uz).new (by rw[N0 npd.symm];exact np);refine⟨p',Rs,t,z.2,z.1,.non,[],rfl,C0,s5.tup Uk,by lia,zk,rfl,λH5 h5 fr5=>⟨rfl,?_⟩⟩;have Ws:Same G H5:=λb o e=>fr5 b o (C1 e np) (s5 _ _ e);have hG5:=Ws _ _ hG;have upl:∀{p:Addr}{l:List Bd.Row},AA Kq aq.b8 H5 l (.ref p)->AA Kq aq.b8 (upd H5 L (.lst (fs.map V.ref++[.ref p']))) l (.ref p):=λh=>h.keep (λb C' dx fs e _=>by rw[N0 (λz=>by rw[z,hG5]at e;cases e)];exact e) λb xs h=>KF hG5 h;refine⟨_,hG5,(by rw[B0];lia),fs++[p'],(s2.trans Ws).set hL,by rw[C0,U0];rfl,?_⟩;rw[T3 hz,U0];exact B4 (Paired.mapP (pf.same Ws) λ_ _ h=>upl h) (upl ⟨p',Rs,t,.non,rfl,h5,Ws.tup Uk,rfl⟩)
 .rintro G ⟨fs,s2,hG,pf⟩;rw[lD,Y1]at pf;refine⟨s2 _ _ frz,?_⟩;have s6:Same H1 (upd G d (.dK kvs)):=λb o e=>by
   by_cases c:b=d
   .rw[c,C0,<-hd,<-c];exact e
   .rw[N0 c];exact s2 _ _ (o0 _ _ e c)
  have pf2:bH Kq aq.b8 (upd G d (.dK kvs)) fs (D.map λz=>[z.2]):=Paired.mapP pf λp l h=>h.keep (λb C' dx fs e _=>by rw[N0 (λz=>by rw[z,s2 _ _ frz]at e;cases e)];exact e) λb xs h=>Lo (s2 _ _ frz) h;have hG2:upd G d (.dK kvs) L=some (.lst (fs.map V.ref)):=by rw[N0 Ld];exact hG
  generalize upd G d (.dK kvs)=H3 at s6 pf2 hG2;have s3:=s1.trans s6;have po:=Zq (b:=b) (p:=pn) (by lia) ro;refine⟨_,rfl,_,_,rfl,rfl,_,rfl,q,_,dq,_,_,rfl,s3 _ _ hq,T.C8.c,T.V9,rfl,_,_,rfl,rfl,1,rfl,_,_,-1,pt.high-1,rfl,?_,?_⟩
  .have z:=RgC.neg (i:=(bA:Int)-1) (j:=(pt.y:Int)-1) (by lia) (by lia) (by lia) (by lia);rw[show((bA:Int)-1-((pt.y:Int)-1)).toNat=pt.high-1 by lia]at z;exact z
  refine Rh (λi σ G=>E6 λ(v7 v8 v9:Option V)(u:Addr)(as:List Addr)(A:List (List Bd.Row))=>A7 (σ=[some (.ref p),some (.ref q),some (.ref te),some (.int (bitsOf fl)),some (.int bA),some (.ref d),some (.ref u),v7,v8,v9]) (Same H G) (G u=some (.lst (as.map V.ref))) (bH Kq aq.b8 G as A) (A.length<=500000) (i<=bA) (PJ b pn i (bA-i) A))
   ⟨_,_,_,L,fs,_,rfl,s3,hG2,pf2,by rw[B0];lia,D1 _,po⟩ ?_ ?_
  .rintro i σ G' hi ⟨v7,v8,v9,u,as,A,rfl,sg,hu,pa,la,it,pk⟩;obtain⟨c,ec⟩:∃c:Nat,bA=c+i+1:=⟨bA-i-1,by lia⟩
   rw[show(bA:Int)-1+(i:Int)*(-1)=(c:Int) by lia];refine⟨_,rfl,_,rfl,_,rfl,_,rfl,q,_,dq,_,_,rfl,sg _ _ hq,T.C8.c,T.gC,rfl,_,rfl,p,dx,mk,pp,te,ps,b,c,pn,by rw[e1];rfl,B.same sg,zE,by lia,by lia,sg _ _ hte,l2,r2,λH7 d7 kv7 D7 s7 hd7 dr7 k7 ro7=>?_⟩;have sg7:=sg.trans s7;rw[show bA-i=c+1 by lia]at pk;have lD7:kv7.length=D7.length:=J1 dr7;refine⟨_,rfl,p,_,dx,_,_,rfl,sg7 _ _ B.ob,T.nE.c,T.zN,rfl,u,d7,as,A,kv7,D7,pn.length,b.lap,rfl,s7 _ _ hu,pa.same s7,Bg pk,pk.nd,la,hd7,dr7,k7,No ro7,ro7.nd,by lia,zE.lap1,zE.lap3,λH8 q8 ps8 O s8 hq8 pl8 op ord=>?_⟩;have:=Oy b.lap D7 O;exact⟨_,_,_,q8,ps8,_,rfl,sg7.trans s8,hq8,pl8,by lia,by lia,by rw[show bA-(i+1)=c by lia];exact Pi (by lia) ro7 pk op ord⟩
  .rintro σ G' ⟨v7,v8,v9,u,as,A,rfl,sg,hu,pa,la,it,pk⟩;rw[show bA-(pt.high-1)=pn.first by lia,show pt.high-1=pn.courses-1 by lia]at pk;have MZ:=Bg pk;have lpa:as.length=A.length:=J1 pa;refine⟨_,rfl,u,rfl,⟨_,SqL.of hu⟩,λL2 hL2=>?_⟩;refine dG (K:=Kq) (a:=u) (xs:=as.map V.ref) (λi G=>∃(bs:List Addr),A3 (Same G' G) (G L2=some (.lst (bs.map V.ref))) (bH Kq aq.b8 G bs ((A.take i).filter λl=>decide (Y6 l&&&near b.lap (bitsOf fl)=0)))) ⟨[],(Same.refl _).new hL2,C0,.nil⟩ (by rintro i G _ ⟨_,s,_⟩;exact SqL.of (s _ _ hu)) ?_ ?_
   .rintro i v G2 hi ⟨bs,sb,hb,pb⟩;obtain⟨x,hx,rfl⟩:=U8 hi;obtain⟨l,hl,px⟩:=Paired.get pa hx;have il:=(P0.mp hl).1;obtain⟨r,m,rfl,lr⟩:=MZ l (M1 hl);have px2:=px.same sb;obtain⟨x',Rs,WZ,av,ex,hx2,sx,pv'⟩:=px2;obtain rfl:=V.ref.inj ex;have lb:bs.length<=i:=by
     have:=J1 pb;have z:=E8 (λl=>decide (Y6 l&&&near b.lap (bitsOf fl)=0)) (A.take i);rw[Z1]at z
     lia
    refine⟨rfl,_,rfl,x,_,Rs,_,_,rfl,hx2,T.UA.c,T.jI,rfl,_,rfl,_,rfl,p,_,dx,_,_,rfl,(sg.trans sb) _ _ B.ob,T.nE.c,T.zN,rfl,P6 r,bitsOf fl,b.lap,rfl,zE.lap1,zE.lap3,f64,_,rfl,?_⟩;rw[T3 hl,M8,Y5,FF];have ek:Y6 (r::m)=P6 r:=rfl;rw[ek];cases hc:decide (P6 r&&&near b.lap (bitsOf fl)=0)with
    |false=>
     refine a8 ?_;rw[D0 (by decide),D3];exact⟨bs,sb,hb,pb⟩
    |true=>
     refine C7 ?_;rw[J0 rfl];have upl:∀{p:Addr}{l:List Bd.Row},AA Kq aq.b8 G2 l (.ref p)->AA Kq aq.b8 (upd G2 L2 (.lst (bs.map V.ref++[.ref x]))) l (.ref p):=λh=>h.keep (λb C' dx fs e _=>by rw[N0 (λz=>by rw[z,hb]at e;cases e)];exact e) λb xs h=>KF hb h;exact⟨_,rfl,_,hb,(by rw[B0];lia),bs++[x],sb.set hL2,by rw[C0,U0];rfl,B4 (Paired.mapP pb λ_ _ h=>upl h) (upl ⟨x,Rs,WZ,av,rfl,hx2,sx,pv'⟩)⟩
   .rintro G2 ⟨bs,sb,hb,pb⟩;rw[B0,lpa,Y1]at pb;have sg2:=sg.trans sb;obtain⟨F,hF⟩:∃F,(A.filter λl=>decide (Y6 l&&&near b.lap (bitsOf fl)=0))=F:=⟨_,rfl⟩
    rw[hF]at pb;have Al:∀l,l∈F↔l∈A/\Y6 l&&&near b.lap (bitsOf fl)=0:=λl=>by rw[<-hF,R4,O0]
    have lpb:bs.length=F.length:=J1 pb;refine⟨_,rfl,L2,bs,F.map PM,rfl,SqL.of hb,⟨by rw[B0,lpb],λi x m hi hm H3 Nt=>?_⟩,⟨λky hk=>?_,λx hx y hy=>?_⟩,λi x m H3 hi hm wF Nt=>?_,λe H3 Nt=>?_⟩
    .obtain⟨l,hl,px⟩:=Paired.get pb hi;rw[P1,hl]at hm;obtain rfl:=M0 hm;obtain⟨r,m',rfl,_⟩:=MZ l ((Al l).mp (M1 hl)).1;exact⟨x,r,m',rfl,px.same Nt,λH4 v s4 ky=>⟨s4,ky⟩⟩
    .obtain⟨l,hl,rfl⟩:=S2.mp hk;obtain⟨r,m',rfl,_⟩:=MZ l ((Al l).mp hl).1;exact⟨_,_,rfl⟩
    .obtain⟨l,hl,rfl⟩:=S2.mp hx;obtain⟨r,m',rfl,_⟩:=MZ l ((Al l).mp hl).1;obtain⟨l2,Jt,rfl⟩:=S2.mp hy;obtain⟨r2,m2,rfl,_⟩:=MZ l2 ((Al l2).mp Jt).1;exact trivial
    .obtain⟨l,hl,px⟩:=Paired.get pb hi;rw[P1,hl]at hm;obtain rfl:=M0 hm;obtain⟨ml,el⟩:=(Al l).mp (M1 hl);have ll:=(pk.good l ml).2;refine⟨.ref x,l,rfl,px.same Nt,by lia,λH4 q' ts s4 nq Zz rt=>k _ q' ts (sg2.trans (Nt.trans s4)) ((sg2.trans Nt).free nq) Zz ?_⟩;rw[za7 (by lia) pk ml el λm mm em=>?_]
     .exact rt
     .obtain⟨i',hi',e'⟩:=C4.mp ((Al m).mpr ⟨mm,em⟩);exact FV MZ pk.nd ml mm (wF i' _ (by rw[P1,K0 hi',e'];rfl))
    .refine⟨.non,[],rfl,rfl,by decide,λH4 q' ts s4 nq Zz rt=>k _ q' ts (sg2.trans (Nt.trans s4)) ((sg2.trans Nt).free nq) Zz ?_⟩;rw[za8 (by lia) pk λm mm em=>?_]
     .exact rt
     .have z:=(Al m).mpr ⟨mm,em⟩;have lb:F.length=0:=by rw[<-lpb,e];rfl
      rw[d4.mp lb]at z;cases z
structure Py(w:Wall):Prop where
 l:w.left<=2
 r:w.right<=2
 v:w.reveal<=2
theorem zbp{l:List Nat}(h:∀j∈l,j<64):bitsOf l<2^64:=jH _ λi hi=>by
 rw[JA];exact Y0 λq=>by have:=h i q;lia
def pfF(q:Addr)(v:V):List (Str×V):=[("number",.int (-3)),("told",.ref q),("panel",v)]
inductive Rk(C:Addr)(vs:List V)(H:Hp)(Q:VK)(E':XK):Prop
 |mk (p:Addr) (v:V) (fr:Bool) (tb:Value):vs=[.ref p,v]->H p=some (xO C fr none tb p)->(∀(d q:Addr)(H':Hp),H d=none->H q=none->d≠p->H' p=some (xO C fr (some d) tb p)->H' d=some (.xd (pfF q v))->H' q=some (.lst [v])->(∀b,b≠p->b≠d->b≠q->H' b=H b)->Q .non H')->Rk C vs H Q E'
def IV(C:Addr)(E:XK)(H:Hp)(i:Nat):Prop:=∀(d q:Addr)(H':Hp),HX H H'->H' d=some (.xd (pfF q (.int i)))->H' q=some (.lst [.int i])->E (C,true) (some d) H'
theorem IV.same{E:XK}(f:IV C E H i) (s:Same H H1):IV C E H1 i:=λd q H' m e e2=>f d q H' (s.thenM m) e e2
def m8(F:Filled)(n:Nat):List (List (Nat×Nat)):=(List.range n).map λy=>(piecesAt F y).map rk
theorem Qy{p:Part}(f:UY w F) (hy:p.y<=n):FZ w p (m8 F n)=bitsOf (floorOf F p):=by
 unfold FZ;by_cases h0:p.y=0
 .rw[J0 h0];unfold floorOf;rw[J0 h0];rfl
 .rw[D0 h0];have e:(m8 F n).getD (p.y-1) []=(piecesAt F (p.y-1)).map rk:=by
   unfold m8;rw[Q2,P1,Z6 (by lia)];rfl
  rw[e];apply X8;intro j;rw[JA,JA,S3,yX f h0];unfold mG uM;simp only[S2,R4,E1,O0,P3,Bool.or_eq_false_iff,K5,DJ,Bool.not_eq_true];constructor
  .rintro⟨z,⟨⟨q,hq,rfl⟩,⟨h1,h2⟩,h3,h4⟩,rfl⟩;have e:p.x+((rk q).1-p.x)=q.1:=by
    show p.x+(q.1-p.x)=q.1;have:p.x<=q.1:=h1
    lia
   refine⟨by lia,q,hq,e.symm,?_⟩;rw[e];exact⟨h3,h4⟩
  .rintro⟨h1,q,hq,e,h3,h4⟩;rw[<-e]at h3 h4;exact⟨rk q,⟨⟨q,hq,rfl⟩,⟨by show p.x<=q.1;lia,by show q.1<=_;lia⟩,h3,h4⟩,by show q.1-p.x=j;lia⟩
def yS(cs:List Addr)(H H':Hp):Prop:=∀b o,H b=some o->b∉cs->H' b=some o
theorem yS.tup{K:Frag}(f:yS cs H H') (hc:∀r∈cs,∃ys,H r=some (.lst ys)) (h:eA K H t xs):eA K H' t xs:=by
 rcases h with h|h
 .rcases h with h|⟨o,h⟩
  .exact .inl (.inl (f _ _ h λz=>by obtain⟨ys,e⟩:=hc _ z;rw[e]at h;cases h))
  .exact .inl (.inr ⟨o,f _ _ h λz=>by obtain⟨ys,e⟩:=hc _ z;rw[e]at h;cases h⟩)
 .exact .inr h
theorem L7.lists{L:List (List (Nat×Nat))}(h:L7 H cs L):∀r∈cs,∃ys,H r=some (.lst ys):=λr hr=>by
 obtain⟨i,hi,rfl⟩:=C4.mp hr;obtain⟨_,_,ts,e,_⟩:=Paired.get h (K0 hi);exact⟨_,e⟩
theorem L7.put{r:Addr}{pG:List (Nat×Nat)}(hr:H r=some (.lst xs)) (tt:NB H ts (pG.map pI)):∀{cs:List Addr}{L:List (List (Nat×Nat))}{k:Nat},L7 H cs L->cs.Nodup->cs[k]?=some r->L7 (L2.upd H r (.lst (ts.map V.ref))) cs (L.set k pG)
 |_,_,k,.nil,_,hk=>by simp at hk
 |c::cs,_,0,.cons h t,nd,hk=>by
  obtain rfl:c=r:=by simpa using hk
  rw[S5]at nd;exact .cons ⟨ts,C0,NB.upd tt hr⟩ (L7.upd hr t nd.1)
 |c::cs,_,k+1,.cons ⟨us,e,h⟩ t,nd,hk=>by
  rw[S5]at nd;have OZ:cs[k]?=some r:=by simpa using hk
  have ne:c≠r:=λz=>nd.1 (by rw[z];exact M1 OZ);exact .cons ⟨us,by rw[N0 ne];exact e,NB.upd h hr⟩ (L7.put hr tt t nd.2 OZ)
theorem ziC{F:α->β->Prop}{as cs:List α}{bs ds:List β}(h:Paired F as bs) (h2:Paired F cs ds):Paired F (as++cs) (bs++ds):=by
 induction h with
 |nil=>exact h2
 |cons a _ ih=>exact .cons a ih
def bB(F:Filled)(p:Part)(l:List Bd.Row)(n j:Nat):List (List (Nat×Nat)):=(List.range n).map λy=>(piecesAt F y++if p.y<=y/\y<p.y+j then Bd.placed p.x (l.getD (y-p.y) [])else[]).map rk
theorem Cg(F:Filled)(p:Part)(l:List Bd.Row)(n:Nat):bB F p l n 0=m8 F n:=by
 unfold bB m8;congr 1;funext y;rw[D0 (by lia),D3]
theorem FW(F:Filled)(p:Part)(l:List Bd.Row)(n:Nat):bB F p l n p.high=m8 (F++[(p,l)]) n:=by
 unfold bB m8;congr 1;funext y;rw[cR]
theorem JV(F:Filled)(p:Part){j:Nat}(hr:l[j]?=some r) (hn:p.y+j<n):(bB F p l n j).set (p.y+j) ((piecesAt F (p.y+j)).map rk++(Bd.placed p.x r).map rk)=bB F p l n (j+1):=by
 unfold bB;apply List.ext_getElem (by simp);intro i h1 h2;rw[List.getElem_set,Z5,Z5,List.getElem_range];by_cases c:p.y+j=i
 .rw[J0 c,<-c,J0 (by lia),U0,show p.y+j-p.y=j by lia,Q2,hr];rfl
 .rw[D0 c];by_cases c2:p.y<=i/\i<p.y+j
  .rw[J0 c2,J0 (by lia)]
  .rw[D0 c2,D0 (by lia)]
theorem JZ(F:Filled)(p:Part)(l:List Bd.Row){j:Nat}(hn:p.y+j<n):(bB F p l n j)[p.y+j]?=some ((piecesAt F (p.y+j)).map rk):=by
 unfold bB;rw[P1,Z6 hn,aD,D0 (by lia),D3]
def zd4:Nat->Piece
 |0=>.S
 |1=>.H
 |2=>.T
 |3=>.B
 |_=>.C
theorem Os(p:Piece):zd4 p.rank=p:=by cases p<;>rfl
def mK(H:Hp)(t:Addr):Nat×Piece:=match H t with
 |some (.tup [.int x,.int k])=>(x.toNat,zd4 k.toNat)
 |_=>(0,.S)
theorem zbq{q:Nat×Piece}(h:H t=some (.tup ((pI (rk q)).map V.int))):mK H t=q:=by
 unfold mK;rw[h];show(((q.1:Int)).toNat,zd4 ((q.2.rank:Int)).toNat)=q;rw[c5,c5,Os]
theorem Dg{H:Hp}:∀{ts:List Addr}{l:List (Nat×Piece)},NB H ts ((l.map rk).map pI)->ts.map (mK H)=l/\∀t∈ts,H t=some (.tup ((pI (rk (mK H t))).map V.int))
 |[],[],_=>⟨rfl,λt ht=>nomatch ht⟩
 |t::ts,q::l,.cons h r=>by
  obtain⟨e,g⟩:=Dg (ts:=ts) (l:=l) r;have z:=zbq h;refine⟨by rw[L3,e,z],λu hu=>?_⟩;rcases S1.mp hu with rfl|m
  .rw[z];exact h
  .exact g u m
theorem Oo{H H':Hp}:∀{ts:List Addr},(∀t∈ts,H' t=some (.tup ((pI (rk (mK H t))).map V.int)))->NB H' ts (((ts.map (mK H)).map rk).map pI)
 |[],_=>.nil
 |t::ts,h=>.cons (h t (by simp)) (Oo λu hu=>h u (by simp[hu]))
theorem iY{H:Hp}:∀{ts:List Addr}{l:List (Nat×Piece)},NB H ts ((l.map rk).map pI)->Paired (λt z=>H t=some (.tup [.int z.1,.int z.2])) ts (l.map λq=>(((q.1:Nat):Int),((q.2.rank:Nat):Int)))
 |[],[],_=>.nil
 |t::ts,q::l,.cons h r=>.cons h (iY r)
inductive Po(K:Frag)(C CW CO CE:Addr)(vs:List V)(H:Hp)(Q:VK)(E:XK):Prop
 |mk (bo bx mk pp p dx op:Addr) (ps as:List Addr) (v0:V) (b:Bond) (w:Wall):vs=[.ref bo,.ref p]->lI K C H bo bx mk pp ps b->jE b->NF CW CO H p dx op v0 as w->Py w->(match Bd.buildFrom b w w.parts []with
 |.error i=>IV CE E H i
 |.ok F=>∀(H':Hp)(c:Addr)(cs:List Addr)(rows:List (List (Nat×Piece))),Same H H'->H c=none->H' c=some (.lst (cs.map V.ref))->L7 H' cs (rows.map λr=>r.map rk)->rows.length=w.high->(∀y<w.high,(rows.getD y []).Perm (piecesAt F y))->Q (.ref c) H')->Po K C CW CO CE vs H Q E
theorem Ps(w:Wall):w.parts.length<=w.high*(w.long+1):=AL w w.high
theorem LV(x:Nat)(r:Bd.Row):(Bd.placed x r).length=r.length:=by
 have:=V6 List.length (nN x r);rw[B0]at this;exact this
theorem Ry(l:List Nat)(i x:Nat):(nL l).set i (.int x)=nL (l.set i x):=by
 unfold nL;rw[List.map_set]
theorem Sy(l:List Nat):(nL l).length=l.length:=B0 _
theorem Uy(h:i<n):Ru n (i:Int)=some i:=by
 unfold Ru;rw[J0 (by lia),J0 (by lia),c5]
theorem nG(T:vA Kq k9 aq):Mo k9 Pq wq bq true T.N6 2 (Rk aq.L4):=by
 refine T.N6.F.kk T.N6.S λH vs Q E h=>?_;obtain⟨p,v,fr,tb,rfl,hp,k⟩:=h;refine⟨rfl,λhr=>?_⟩;refine⟨_,(T0 (n6 (ET (KC T) hr.mo rfl T.sM.m T.yD T.P8.b O1.passes (F0 (pv 0) (F0 (rK AG O2) (F0 (d6 (F0 (pv 1) Z0)) Z0)))))
  (X0 (pM (pv 0) (pv 1) rfl))),?_⟩
 refine⟨_,rfl,3,rfl,_,rfl,by show 1<=sizeLine;decide,λq nq=>?_⟩;have pq:p≠q:=C1 hp nq;refine⟨p,_,_,_,fr,tb,rfl,T.d9.D,T.VC,T.pE,by rw[N0 pq];exact hp,λd H1 nd dp e1 e2 kp=>?_⟩;have dq:d≠q:=λe=>by rw[e,C0]at nd;cases nd
 refine⟨_,rfl,_,rfl,p,_,fr,some d,tb,rfl,e1,T.d9.D,T.hJ,.inr ⟨d,_,rfl,e2,(by show 2<1000;decide),?_⟩⟩;refine k d q _ (by rw[N0 dq]at nd;exact nd) nq dp (by rw[N0 (N2 dp)];exact e1) ?_ (by rw[N0 (N2 dq),kp q (N2 pq) (N2 dq)];exact C0) λb hb hd hq=>by rw[N0 hd,kp b hb hd,N0 hq]
 rw[C0];rfl
theorem Sk(T:vA Kq k9 aq){E:XK}{D:eL}{t1:TE}(h1:i5 t1 σ H (.int i)) (h:IV aq.L4 E H i) :
  DY Kq (λ_=>E) (AT aq.L4 (Rk aq.L4) (λ_=>E) (Ql t1 Fa)) D σ H:=by
 refine h1 _ ⟨(by show 1<=1000;decide),λz hz=>⟨z,_,true,.none,rfl,C0,λd q H' nd nq dx e1 e2 e3 kp=>⟨rfl,z,_,some d,rfl,e1,T.d9.E,?_⟩⟩⟩;refine h d q _ (λb o e n=>?_) (ZD e2 λφ q=>nomatch q) (ZD e3 λφ q=>nomatch q);have bx:b≠z:=C1 e hz;have nd':H d=none:=by
  rw[N0 dx]at nd;exact nd
 have qx:q≠z:=λe=>by
  rw[e,C0]at nq;cases nq
 have nq':H q=none:=by
  rw[N0 qx]at nq;exact nq
 refine ZD ?_ n;rw[kp b bx (C1 e nd') (C1 e nq'),N0 bx];exact e
theorem KZ(T:vA Kq k9 aq):Fo Pq wq bq true T.S7 7 (Po Kq aq.tD aq.SA aq.U3 aq.L4):=by
 refine T.S7.F.kk T.S7.S λH vs Q E h=>?_;obtain⟨bo,bx,mk,pp,p,dx,op,ps,as,v0,b,wl,rfl,B,zE,W,ek,k⟩:=h;refine⟨rfl,λhr=>?_⟩;have zl:=BM;have h8:=W.h8;have l32:=W.l32;have zlL:wl.parts.length<=264:=k4 (Ps wl) (iC h8 (by lia):_<=8*33);refine⟨_,(T0 (LI (i:=2) O1 rfl rfl (own:=[("course",3)]) rfl T.S7.S.nd rfl rfl rfl (sI rfl T.lG (F0 (U2 (pv 1) rfl) Z0)) (bW ["bond","wall","courses","course","number","panel","rows","step","row"] (X3 ML) [("course",3)]) (λtk=>(wE 3 T.S7.S)) (λtk=>Y9) (λtk=>(d6 Z0)))
  (T0 (t8 O1.po rfl (YN rfl T.ID (F0 (MC T.G9 (AZ T) hr (F0 (pv 1) Z0)) Z0)) (gL rfl (n9 (wE 4 T.S7.S) (n9 (wE 5 T.S7.S) qH))) (T0 (FC 6 T.S7.S (MC T.U5 (xS T) hr (F0 (pv 0) (F0 (pv 5) (F0 (MC T.uG (Lk T) hr (F0 (pv 1) (F0 (pv 5) Z0))) (F0 (MC T.nB (Of T) hr (F0 (pv 1) (F0 (pv 5) (F0 (pv 2) Z0)))) Z0))))))
  (T0 (c7 (W3 (Ew hr.units0) (pv 6) (d6 Z0) (V3 _)) (X0 (zT O1 rfl (cO (T.d9.k0 T.N6) (nG T) hr.mo rfl T.d9.m T.N6.b O1 (F0 (pv 4) Z0)))) U4)
  (X0 (t8 O1.po rfl (YN rfl T.ID (F0 (pv 6) Z0)) (gL rfl (n9 (wE 7 T.S7.S) (n9 (wE 8 T.S7.S) qH))) (X0 (n6 (BD j2 o7 t7 qG (P7 B7 (pv 2) (X4 AB (U2 (pv 5) rfl) (pv 7)) (λ_ _=>rfl)) (F0 (MC T.aC (Uf T) hr (F0 (pv 8) (F0 (U2 (pv 5) rfl) Z0))) Z0)))))))))
  (X0 (Q3 (GC O1 rfl rfl (own:=[("course",3)]) rfl T.S7.S.nd (W7 (pv 2)) (bW ["bond","wall","courses","course","number","panel","rows","step","row"] (X3 ML) [("course",3)]) (λtk=>(wE 3 T.S7.S)) (λtk=>Y9) (λtk=>(NA (Vi (K:=Kq) rfl) rfl T.Pe BX (F0 (pv 3) Z0)))))))),?_⟩
 refine⟨_,rfl,p,_,dx,_,_,rfl,W.at_,T.dA.c,T.fI,rfl,_,rfl,by lia,by lia,λc nc=>?_⟩;rw[show((wl.high:Int)).toNat=wl.high by lia];refine oT (lo:=0) (n:=wl.high) (λi H'=>∃(cs:List Addr),A6 (Same H H') (H' c=some (.lst (cs.map V.ref))) (L7 H' cs (List.replicate i [])) (c∉cs) cs.Nodup (∀r∈cs,H r=none)) ⟨[],(Same.refl _).new nc,C0,.nil,by simp,.nil,λr hr=>nomatch hr⟩ ?_ ?_
 .rintro i H' hi ⟨cs,s1,hc,rows,nr,nd,new⟩;refine⟨rfl,D1 _,λr nr'=>?_⟩;have lcs:=J1 rows;rw[i6]at lcs;have cr:c≠r:=C1 hc nr';have s2:Same H' (upd H' r (.lst [])):=(Same.refl _).new nr';have rcs:r∉cs:=λz=>by obtain⟨ys,e⟩:=rows.lists r z;rw[nr']at e;cases e
  refine⟨_,s2 _ _ hc,(by rw[B0];lia),cs++[r],(s1.trans s2).set nc,?_,?_,?_,?_,?_⟩
  .rw[C0,U0];rfl
  .rw[List.replicate_succ'];exact B4 (L7.upd (s2 _ _ hc) (L7.same s2 rows) nr) ⟨[],by rw[N0 (N2 cr)];exact C0,.nil⟩
  .simp only[F2,Q1,DJ];exact⟨nr,cr⟩
  .rw[List.nodup_append];exact⟨nd,by simp,λx hx y hy=>by rw[Q1.mp hy];exact λz=>rcs (by rw[<-z];exact hx)⟩
  .intro x hx;rcases F2.mp hx with m|m
   .exact new x m
   .rw[Q1.mp m];exact s1.free nr'
 .rintro H1 ⟨cs,s1,hc,rows,nr,nd,new⟩;have lcs:=J1 rows;rw[i6]at lcs;refine⟨_,rfl,p,dx,op,v0,as,wl,rfl,W.same s1,λH2 q ts s2 nq hq tt=>?_⟩;have iH:=s1.trans s2;have VZ:=s2 _ _ hc;have zcL:L7 H2 cs (m8 [] wl.high):=by
   have z:=L7.same s2 rows;have e:List.replicate wl.high ([]:List (Nat×Nat))=m8 [] wl.high:=by
    show _=(List.range wl.high).map λ_=>([]:List (Nat×Nat))
    rw[List.map_const',o6]
   rw[e]at z;exact z
  have zjZ:=zcL.lists;have qcs:q∉cs:=λz=>by obtain⟨ys,e⟩:=rows.lists q z;rw[nq]at e;cases e
  have ltp:ts.length=wl.parts.length:=J1 tt;have Xs:∀{G:Hp},yS cs H2 G->Same H G:=λf b o e=>f _ _ (iH _ _ e) λz=>by rw[new b z]at e;cases e
  refine⟨q,_,rfl,SqL.of hq,ZL (K:=Kq) (a:=q) (xs:=ts.map V.ref) (λi σ H'=>E7 λ(v3 v4 v5 v6 v7 v8:Option V)(F:Filled)=>A7 (σ=[some (.ref bo),some (.ref p),some (.ref c),v3,v4,v5,v6,v7,v8]) (yS cs H2 H') (L7 H' cs (m8 F wl.high)) (UY wl F) (F.length=i) (Bd.buildFrom b wl wl.parts []=Bd.buildFrom b wl (wl.parts.drop i) F) (∀y,(piecesAt F y).length<=32*i))
   ⟨none,none,none,none,none,none,[],rfl,λ_ _ e _=>e,zcL,Fn _,rfl,rfl,λy=>D1 _⟩ (by rintro i σ H' _ ⟨_,_,_,_,_,_,_,_,f,_⟩;exact SqL.of (f _ _ hq qcs)) ?_ ?_⟩
  .rintro i v σ H' T' hi ⟨v3,v4,v5,v6,v7,v8,F,rfl,off,rF,fok,lF,bu,pc⟩ nT;obtain⟨t,ht,rfl⟩:=U8 hi;obtain⟨pt,hpt,dt,pn⟩:=Paired.get tt ht;have il:=(P0.mp hpt).1;have ptm:=M1 hpt;obtain⟨hi1,hyh⟩:=Uc ptm;obtain⟨_,x1,x2,_⟩:=GH ptm (j1 _) (show pt.y<pt.y+pt.high by lia);have tcs:t∉cs:=λz=>by obtain⟨ys,e⟩:=zjZ t z;rw[pn]at e;cases e
   refine⟨T',_,rfl,.inl (.inl C0),rfl,_,_,rfl,_,_,rfl,rfl,?_⟩;have s3:Same H' (upd H' T' (.tup [.int i,.ref t])):=(Same.refl _).new nT;generalize upd H' T' (.tup [.int i,.ref t])=H3 at s3;have zeC:yS cs H2 H3:=λb o e n=>s3 _ _ (off b o e n);have lcF:(m8 F wl.high).length=wl.high:=by unfold m8;rw[B0,o6]
   refine⟨_,rfl,_,rfl,_,rfl,_,rfl,p,dx,op,t,v0,as,wl,pt,rfl,W.same (Xs zeC),⟨dt,zeC _ _ pn tcs⟩,λH4 te s4 hte=>?_⟩;have KW:yS cs H2 H4:=λb o e n=>s4 _ _ (zeC b o e n);refine⟨_,rfl,_,rfl,_,rfl,p,dx,op,t,c,v0,as,cs,wl,pt,m8 F wl.high,rfl,W.same (Xs KW),⟨dt,KW _ _ pn tcs⟩,KW _ _ VZ nr,(rF.same s3).same s4,by lia,by lia,λH5 s5=>?_⟩;have zeD:yS cs H2 H5:=λb o e n=>s5 _ _ (KW b o e n);refine⟨bo,bx,mk,pp,t,te,ps,b,pt,wl.panelOf pt,floorOf F pt,by rw[Qy fok (by lia)];rfl,B.same (Xs zeD),zE,⟨dt,zeD _ _ pn tcs⟩,rfl,rfl,rfl,by lia,by lia,hi1,by lia,by lia,s5 _ _ hte,?_,?_,zbp λj hj=>?_,λH6 q6 us s6 nq6 hq6 ra=>?_⟩
   .show(if pt.x=0 then wl.left else wl.reveal)<=2;split
    .exact ek.l
    .exact ek.v
   .show(if pt.x+pt.long=wl.long then wl.right else wl.reveal)<=2;split
    .exact ek.r
    .exact ek.v
   .by_cases h0:pt.y=0
    .unfold floorOf at hj;rw[J0 h0]at hj;cases hj
    .have:=((yX fok h0 j).mp hj).1
     lia
   have dr:wl.parts.drop i=pt::wl.parts.drop (i+1):=by
    rw[W6 il];congr 1;exact(P0.mp hpt).2
   rw[dr,oN]at bu;have zj1:yS cs H2 H6:=λb o e n=>s6 _ _ (zeD b o e n);have lus:=ra.len;refine⟨_,rfl,D1 _,λz nz=>⟨q6,z,us.map V.ref,rfl,rfl,SqL.of (by rw[N0 (C1 hq6 nz)];exact hq6),SqL.of C0,_,rfl,?_⟩⟩;have s7:Same H6 (upd H6 z (.lst [])):=(Same.refl _).new nz;generalize upd H6 z (.lst [])=H7 at s7;have zeE:yS cs H2 H7:=λb o e n=>s7 _ _ (zj1 b o e n);cases e:fillOf b (wl.panelOf pt) (floorOf F pt)with
   |none=>
    rw[e]at bu lus;rw[bu]at k;have us0:us=[]:=d4.mp lus;rw[us0];refine C7 (Sk T (DQ rfl) ?_);rw[lF]at k;exact k.same (Xs zeE)
   |some l=>
    rw[e]at bu lus ra;dsimp only at bu;have lus:us.length=l.length:=lus;have ra:V5 Kq H6 us l:=ra;have zeF:=Cd fok ptm e;have lh:l.length=pt.high:=zeF.high (pt,l) (by simp);have ll:∀r∈l,lengthOf r=pt.long:=zeF.long (pt,l) (by simp);have ne:(us.map V.ref).isEmpty=false:=by
     cases us with
     |nil=>simp at lus;lia
     |cons _ _=>rfl
    rw[ne];have zcM:L7 H7 cs (bB F pt l wl.high 0):=by
     rw[Cg];exact((((rF.same s3).same s4).same s5).same s6).same s7
    have zj2:=zcM.lists;have zj3:q6∉cs:=λz=>by
     obtain⟨ys,e⟩:=(((rF.same s3).same s4).same s5).lists q6 z;rw[nq6]at e;cases e
    refine a8 ⟨_,rfl,q6,_,rfl,SqL.of (s7 _ _ hq6),ZL (K:=Kq) (a:=q6) (xs:=us.map V.ref) (λj σ G=>E2 λ(v7 v8:Option V)=>A3 (σ=[some (.ref bo),some (.ref p),some (.ref c),v3,some (.int i),some (.ref t),some (.ref q6),v7,v8]) (yS cs H7 G) (L7 G cs (bB F pt l wl.high j)))
     ⟨_,_,rfl,λ_ _ e _=>e,zcM⟩ (by rintro j σ G _ ⟨_,_,_,f,_⟩;exact SqL.of (f _ _ (s7 _ _ hq6) zj3)) ?_ ?_⟩
    .rintro j v σ G T2 hj ⟨v7,v8,rfl,oG,rG⟩ nT2;obtain⟨u,hu,rfl⟩:=U8 hj;obtain⟨r,oK,su⟩:=Paired.get ra hu;have jl:=(P0.mp oK).1;have rl:=ll r (M1 oK);have rl2:=zC r;refine⟨T2,_,rfl,.inl (.inl C0),rfl,_,_,rfl,_,_,rfl,rfl,?_⟩;have s8:Same G (upd G T2 (.tup [.int j,.ref u])):=(Same.refl _).new nT2;generalize upd G T2 (.tup [.int j,.ref u])=G2 at s8;have o8:yS cs H7 G2:=λb o e n=>s8 _ _ (oG b o e n);have o28:yS cs H2 G2:=λb o e n=>o8 b o (zeE b o e n) n;have pn8:=o28 _ _ pn tcs;have kn:pt.y+j<wl.high:=by lia
     obtain⟨r',hk,ts',Rt,tt'⟩:=Paired.getR (rG.same s8) (JZ F pt l kn);have lts:=J1 tt';rw[B0,B0]at lts;have pcy:=pc (pt.y+j);refine⟨_,rfl,_,rfl,t,_,dt,_,_,rfl,pn8,T.C8.c,T.V9,rfl,_,rfl,_,_,rfl,rfl,c,_,_,.ref r',rfl,rfl,SqL.of (o28 _ _ VZ nr),vT (j:=pt.y+j) (by lia) (by rw[P1,hk];rfl),.inl ⟨rfl,_,SqL.of Rt⟩,_,rfl,_,rfl,t,_,dt,_,_,rfl,pn8,T.C8.c,T.zB,rfl,u,r,pt.x,rfl,o8.tup zj2 (s7.tup su),by lia,λH9 q9 ws s9 hq9 tw=>?_⟩;have lws:=J1 tw;rw[B0,LV]at lws;refine⟨r',q9,_,_,rfl,rfl,s9 _ _ Rt,hq9,(by rw[B0,B0];lia),?_⟩;have rcs:=M1 hk;refine⟨_,_,rfl,λb o e n=>by rw[N0 (λz=>n (by rw[z];exact rcs))];exact s9 _ _ (o8 b o e n),?_⟩;rw[<-JV F pt oK kn,<-U0];refine L7.put (s9 _ _ Rt) ?_ ((rG.same s8).same s9) nd hk;rw[U0];have tw':NB H9 ws (((Bd.placed pt.x r).map rk).map pI):=by
      rw[B3];exact tw
     exact ziC (NB.same s9 tt') tw'
    .rintro σ G ⟨v7,v8,rfl,oG,rG⟩;rw[B0,lus,lh,FW]at rG;refine⟨_,_,_,_,_,_,F++[(pt,l)],rfl,λb o e n=>oG b o (zeE b o e n) n,rG,zeF,by rw[T1,lF];rfl,bu,λy=>?_⟩;rw[cR,T1];have z1:=pc y;have z2:(if pt.y<=y/\y<pt.y+pt.high then Bd.placed pt.x (l.getD (y-pt.y) [])else[]).length<=32:=by
      split
      .rename_i h;have yl:y-pt.y<l.length:=by lia
       rw[LV,Q2,K0 yl];have z3:=ll _ (aF yl);have z4:=zC l[y-pt.y];show l[y-pt.y].length<=32
       lia
      .exact D1 _
     lia
  .rintro σ G ⟨v3,v4,v5,v6,v7,v8,F,rfl,off,rF,fok,lF,bu,pc⟩;rw[B0,ltp,rC]at bu;rw[bu]at k;have k:∀(H':Hp)(c:Addr)(cs:List Addr)(rows:List (List (Nat×Piece))),Same H H'->H c=none->H' c=some (.lst (cs.map V.ref))->L7 H' cs (rows.map λr=>r.map rk)->rows.length=wl.high->(∀y<wl.high,(rows.getD y []).Perm (piecesAt F y))->Q (.ref c) H':=k;have hcG:=off _ _ VZ nr;have lcF:(m8 F wl.high).length=wl.high:=by unfold m8;rw[B0,o6]
   refine⟨_,rfl,c,rfl,⟨_,SqL.of hcG⟩,λL nL=>?_⟩;refine dG (K:=Kq) (a:=c) (xs:=cs.map V.ref) (λi G2=>E2 λ(rs:List Addr)(rows:List (List (Nat×Piece)))=>A6 (Same G G2) (G2 L=some (.lst (rs.map V.ref))) (L7 G2 rs (rows.map λr=>r.map rk)) (L∉rs) (rows.length=i) (∀y<i,(rows.getD y []).Perm (piecesAt F y)))
    ⟨[],[],(Same.refl _).new nL,C0,.nil,by simp,rfl,λy hy=>by lia⟩ (by rintro i G2 _ ⟨_,_,s,_⟩;exact SqL.of (s _ _ hcG)) ?_ ?_
   .rintro i v G2 hi ⟨rs,rws,s2',hL,rr,nL',lr,pm⟩;obtain⟨r,oK,rfl⟩:=U8 hi;have icl:=(P0.mp oK).1;obtain⟨pG,zP,ts',Rt,tt'⟩:=Paired.get (rF.same s2') oK;obtain rfl:(piecesAt F i).map rk=pG:=by
     unfold m8 at zP;rw[P1,Z6 (by lia)]at zP;exact M0 zP
    have lrs:=J1 rr;rw[B0]at lrs;obtain⟨em,eg⟩:=Dg tt';refine⟨rfl,_,rfl,r,ts',_,rfl,SqL.of Rt,iY tt',λys z pmy nz=>?_⟩;have s3:Same G2 (upd G2 z (.lst (ys.map V.ref))):=(Same.refl _).new nz;have hz:upd G2 z (.lst (ys.map V.ref)) z=some (.lst (ys.map V.ref)):=C0;generalize upd G2 z (.lst (ys.map V.ref))=G3 at s3 hz;have hL3:=s3 _ _ hL;have Lz:L≠z:=C1 hL nz;refine⟨_,hL3,(by rw[B0];lia),rs++[z],rws++[ys.map (mK G2)],(s2'.trans s3).set nL,by rw[C0,U0];rfl,?_,?_,by rw[T1,lr];rfl,λy hy=>?_⟩
    .rw[U0];refine B4 (L7.upd hL3 (L7.same s3 rr) nL') ⟨ys,by rw[N0 (N2 Lz)];exact hz,NB.upd (Oo λt ht=>?_) hL3⟩;exact s3 _ _ (eg t (pmy.mem_iff.mp ht))
    .simp only[F2,Q1,DJ];exact⟨nL',Lz⟩
    .rw[Q2,List.getElem?_append];by_cases c:y<rws.length
     .rw[J0 c,<-Q2];exact pm y (by lia)
     .obtain rfl:y=i:=by lia
      rw[D0 c,show y-rws.length=0 by lia];show(ys.map (mK G2)).Perm _;have z:=pmy.map (mK G2);rw[em]at z;exact z
   .rintro G2 ⟨rs,rws,s2',hL,rr,nL',lr,pm⟩;rw[B0,lcs]at lr pm;exact k _ L rs rws ((Xs off).trans s2') ((Xs off).free nL) hL rr lr pm
section
variable {K:Frag}{D:Addr}
theorem zd5(hn:n=xs.length)(Pv:Nat->Hp->Prop)(h0:Pv 0 (upd H1 D (.lst [])))(hl:∀i H,i<=xs.length->Pv i H->SqL K H a xs)
 (hs:∀i x H,i<xs.length->xs[xs.length-1-i]?=some x->Pv i H->g x (Z7 σ vs) H λσ2 H2=>Z7 σ2 vs=Z7 σ vs/\tt σ2 H2 λb H3=>
 if b=true then te σ2 H3 λy H4=>∃acc,H4 D=some (.lst acc)/\acc.length<sizeLine/\Pv (i+1) (upd H4 D (.lst (acc++[y])))else Pv (i+1) H3) (hd:∀H,Pv xs.length H->Qd H) :
   ∃W:Nat->Nat->Hp->Prop,(∃m,W 0 m (upd H1 D (.lst [])))/\∀i m H,W i m H->
    ((Itv K a n).stop i H/\Qd H)\/((Itv K a n).go i H/\∃Nx:Hp->Prop,(∀H',Nx H'->∃m',m'<m/\W (i+1) m' H')/\∀x H',(Itv K a n).yld i H x H'->g x (Z7 σ vs) H' λσ2 H2=>Z7 σ2 vs=Z7 σ vs/\tt σ2 H2 λb H3=>
      if b=true then te σ2 H3 λy H4=>∃acc,H4 D=some (.lst acc)/\acc.length<sizeLine/\Nx (upd H4 D (.lst (acc++[y])))else Nx H3):=by
  subst hn;refine⟨λi m H=>m=xs.length-i/\i<=xs.length/\Pv i H,⟨xs.length,by simp,D1 _,h0⟩,?_⟩;rintro i m H ⟨rfl,hi,p⟩;have q:=hl i H hi p;by_cases DC:i<xs.length
  .have hx:xs[xs.length-1-i]?=some (xs[xs.length-1-i]'(by lia)):=K0 (by lia);refine .inr ⟨⟨DC,xs,_,q,hx⟩,Pv (i+1),λH' p'=>⟨xs.length-(i+1),by lia,rfl,DC,p'⟩,λx H' y=>?_⟩;obtain⟨e,y⟩:=y;subst e;exact hs i x _ DC (y xs q) p
  .have e:i=xs.length:=by lia
   subst e;exact .inl ⟨j1 _,hd H p⟩
end
inductive Eg(K:Frag)(vs:List V)(H:Hp)(Q:VK)(E':XK):Prop
 |mk (l:Addr) (as:List Addr) (bs:List Bytes):vs=[.ref l]->H l=some (.lst (as.map V.ref))->Rows H as bs->(bs.flatMap λb=>b++[10]).length<=100000->(∀(H':Hp)(p:Addr),Same H H'->H p=none->H' p=some (.lst (iB (bs.flatMap λb=>b++[10])))->Q (.ref p) H')->Eg K vs H Q E'
theorem Vy(n:Nat):(List.replicate n [V.int 46]).flatten=nL (List.replicate n 46):=by
 induction n with
 |zero=>rfl
 |succ n ih=>rw[HA,SD,ih];rfl
theorem Qs(p:Piece):At ("SHTBC": Str).cps.toList (p.rank:Int)=some p.letter.toNat:=by cases p<;>rfl
inductive Wy(vs:List V)(H:Hp)(Q:VK)(E':XK):Prop
 |mk (c:Addr) (ts:List Addr) (pG:List (Nat×Piece)) (n:Nat):vs=[.ref c,.int n]->H c=some (.lst (ts.map V.ref))->NB H ts ((pG.map rk).map pI)->n<=1000->(∀q∈pG,q.1+q.2.length<=n)->(∀(H':Hp)(l:Addr),Same H H'->H l=none->H' l=some (.lst (nL (tU n pG)))->Q (.ref l) H')->Wy vs H Q E'
inductive Qo(CW CO:Addr)(vs:List V)(H:Hp)(Q:VK)(E':XK):Prop
 |mk (p dx op c:Addr) (as cs:List Addr) (v0:V) (w:Wall) (F:Filled) (rows:List (List (Nat×Piece))):vs=[.ref p,.ref c]->NF CW CO H p dx op v0 as w->UY w F->(F.map Prod.fst).Nodup->H c=some (.lst (cs.map V.ref))->L7 H cs (rows.map λr=>r.map rk)->rows.length=w.high->(∀y<w.high,(rows.getD y []).Perm (piecesAt F y))->(∀(H':Hp)(p:Addr),Same H H'->H p=none->H' p=some (.lst (iB (Bd.draw w F)))->Q (.ref p) H')->Qo CW CO vs H Q E'
theorem zbr(f:UY w F)(nd:(F.map Prod.fst).Nodup){y:Nat}{l:List (Nat×Piece)}(h:l.Perm (piecesAt F y)):nL (tU w.long l)=iB ((List.range w.long).map λx=>Bd.placeOf F x y):=by
 rw[zba f nd λq=>h.mem_iff];unfold nL iB;rw[B3,B3];rfl
theorem MV(g:Nat->Nat->UInt8)(m:Nat):∀n,(((List.range n).map λj=>(List.range m).map λx=>g x j).flatMap λb=>b++[10]).length=n*(m+1)
 |0=>by simp
 |n+1=>by rw[jA,U0,o9,T1,MV g m n,Nat.succ_mul];simp
theorem zS(T:vA Kq k9 aq):Fo Pq wq bq true T.VA 1 (Eg Kq):=by
 refine T.VA.F.kk T.VA.S λH vs Q E h=>?_;obtain⟨l,as,bs,rfl,hl,rows,tot,k⟩:=h;refine⟨rfl,λhr=>?_⟩;have zl:=BM;have lab:as.length=bs.length:=J1 rows;have part:∀i,((bs.take i).flatMap λb=>b++[10]).length<=(bs.flatMap λb=>b++[10]).length:=λi=>by
  conv=>rhs;rw[<-Z9 i bs,o9,T1]
  lia
 refine⟨_,(T0 (FC 1 T.VA.S (d6 Z0))
  (T0 (t8 O1.po rfl (W7 (pv 0)) (wE 2 T.VA.S) (T0 (n6 (BD j2 o7 t7 qG (pv 1) (F0 (pv 2) Z0)))
  (X0 (n6 (BD j2 j3 o3 K9 (pv 1) (F0 (XF T.lR) Z0))))))
  (X0 (Q3 (pv 1))))),?_⟩
 refine⟨D1 _,λp np=>?_⟩;have s1:Same H (upd H p (.lst [])):=(Same.refl _).new np;refine⟨_,rfl,l,rfl,⟨_,SqL.of (s1 _ _ hl)⟩,LA (K:=Kq) (a:=l) (xs:=as.map V.ref) (λi σ H'=>∃(v:Option V),A3 (σ=[some (.ref l),some (.ref p),v]) (Same H H') (H' p=some (.lst (iB ((bs.take i).flatMap λb=>b++[10])))))
  ⟨none,rfl,s1,C0⟩ (by rintro i σ H' _ ⟨_,_,s,_⟩;exact SqL.of (s _ _ hl)) ?_ ?_⟩
 .rintro i y σ H' hi ⟨v,rfl,s2,hp⟩;obtain⟨q,hq,rfl⟩:=U8 hi;obtain⟨b,hb,hqb⟩:=Paired.get rows hq;have ti:((bs.take (i+1)).flatMap λb=>b++[10])=((bs.take i).flatMap λb=>b++[10])++(b++[10]):=by
   rw[T3 hb,o9];simp
  have tl:=part (i+1);rw[ti,T1,T1]at tl;have tl':((bs.take i).flatMap λb=>b++[10]).length+(b.length+1)<=(bs.flatMap λb=>b++[10]).length:=tl;refine⟨_,rfl,.inl ⟨rfl,_,SqL.of hp⟩,_,rfl,p,q,_,_,rfl,rfl,hp,s2 _ _ hqb,(by rw[FB,FB];lia),?_⟩;refine⟨_,rfl,.inl ⟨rfl,_,SqL.of C0⟩,p,_,_,rfl,rfl,C0,(by rw[T1,FB,FB];lia),?_⟩;refine⟨_,rfl,(s2.set np).set np,?_⟩;rw[C0,ti];unfold iB;rw[U0,U0];simp
 .rintro σ H' ⟨v,rfl,s2,hp⟩;rw[B0,lab,Y1]at hp;exact⟨_,rfl,k _ p s2 np hp⟩
theorem Tk(T:vA Kq k9 aq):Fo Pq wq bq true T.HD 1 Wy:=by
 refine T.HD.F.kk T.HD.S λH vs Q E h=>?_;obtain⟨c,ts,pG,n,rfl,hc,tt,n1,fit,k⟩:=h;refine⟨rfl,λhr=>?_⟩;have zl:=BM;have ltt:=J1 tt;rw[B0,B0]at ltt;refine⟨_,(T0 (FC 2 T.HD.S (X4 zdc (d6 (F0 (XF T.zfV) Z0)) (pv 1)))
  (T0 (t8 O1.po rfl (W7 (pv 0)) (gL rfl (n9 (wE 3 T.HD.S) (n9 (wE 4 T.HD.S) qH))) (T0 (Au (NA Ea rfl T.zb8 Dx (F0 (P7 zc9 (HB (v:=.str "SHTBC") rfl T.GX ⟨_,rfl⟩) (pv 4) (λ_ _=>rfl)) Z0)) (Yt (pv 2) (pv 3) Ma))
  (X0 (t8 O1.po rfl (GP rfl T.lG (F0 (X4 AB (pv 3) O2) (F0 (X4 AB (pv 3) (P7 eD (HB (v:=.ref aq.lA) rfl T.iJ rfl) (pv 4) (λ_ _=>rfl))) Z0))) (wE 5 T.HD.S) (X0 (Au (XF T.zdU) (Yt (pv 2) (pv 5) Ma)))))))
  (X0 (Q3 (pv 2))))),?_⟩
 refine⟨by show 1<=sizeLine;lia,λd nd=>⟨_,rfl,d,_,_,rfl,rfl,C0,by lia,by lia,?_,λl nl=>?_⟩⟩
 .show 1*((n:Int)).toNat<=sizeLine
  lia
 rw[show((n:Int)).toNat=n by lia,Vy];have s1:Same H (upd H d (.lst [.int 46])):=(Same.refl _).new nd;have nlH:=s1.free nl;have s2:Same (upd H d (.lst [.int 46])) (upd (upd H d (.lst [.int 46])) l (.lst (nL (List.replicate n 46)))):=(Same.refl _).new nl;have iH:=s1.trans s2;have Jt:upd (upd H d (.lst [.int 46])) l (.lst (nL (List.replicate n 46))) l=some (.lst (nL (List.replicate n 46))):=C0;generalize upd (upd H d (.lst [.int 46])) l (.lst (nL (List.replicate n 46)))=H2 at iH Jt;have IL:=λi=>IL (pG.take i) (List.replicate n 46);refine⟨_,rfl,c,rfl,⟨_,SqL.of (iH _ _ hc)⟩,LA (K:=Kq) (a:=c) (xs:=ts.map V.ref) (λi σ H'=>E3 λ(v3 v4 v5:Option V)=>A3 (σ=[some (.ref c),some (.int n),some (.ref l),v3,v4,v5]) (Same H H') (H' l=some (.lst (nL ((pG.take i).foldl fQ (List.replicate n 46))))))
  ⟨none,none,none,rfl,iH,Jt⟩ (by rintro i σ H' _ ⟨_,_,_,_,s,_⟩;exact SqL.of (s _ _ hc)) ?_ ?_⟩
 .rintro i v σ H' hi ⟨v3,v4,v5,rfl,sm,hl⟩;obtain⟨u,hu,rfl⟩:=U8 hi;obtain⟨zi,Yz,hu6⟩:=Paired.get tt hu;rw[P1,P1]at Yz;obtain⟨q,hq,rfl⟩:∃q,pG[i]?=some q/\zi=pI (rk q):=by
   cases e:pG[i]? with
   |none=>rw[e]at Yz;cases Yz
   |some q=>rw[e]at Yz;exact⟨q,rfl,(M0 Yz).symm⟩
  have ft:=fit q (M1 hq);have pp:=c9 q.2;have fl:=IL i;rw[i6]at fl;have ti:(pG.take (i+1)).foldl fQ (List.replicate n 46)=fQ ((pG.take i).foldl fQ (List.replicate n 46)) q:=by
   rw[T3 hq,lE];rfl
  rw[ti];generalize (pG.take i).foldl fQ (List.replicate n 46)=line at hl fl;refine⟨u,_,rfl,.inl (.inl (sm _ _ hu6)),rfl,_,_,rfl,_,_,rfl,rfl,?_⟩;refine⟨_,rfl,_,_,_,rfl,rfl,by decide +kernel,Qs q.2,_,rfl,rfl,_,rfl,_,rfl,l,_,_,q.1,rfl,rfl,hl,by rw[Sy];exact Uy (i:=q.1) (by lia),?_⟩;have hv:((nL line).set q.1 (V.int (((⟨#[q.2.letter.toNat]⟩:Str).cps.getD 0 0:Nat):Int)))=nL (line.set q.1 q.2.letter.toNat):=Ry _ _ _;rw[hv];have sm2:Same H (upd H' l (.lst (nL (line.set q.1 q.2.letter.toNat)))):=sm.set nlH;have hl3:upd H' l (.lst (nL (line.set q.1 q.2.letter.toNat))) l=some (.lst (nL (line.set q.1 q.2.letter.toNat))):=C0;generalize upd H' l (.lst (nL (line.set q.1 q.2.letter.toNat)))=H3 at sm2 hl3;refine⟨_,rfl,_,_,rfl,rfl,_,rfl,_,rfl,aq.lA,_,_,_,rfl,rfl,T.jJ _,X5 (qP q.2),_,_,rfl,rfl,(q.1:Int)+1,(q.1:Int)+(q.2.length:Int),rfl,⟨by lia,by lia,by lia,by lia⟩,?_⟩;rw[show((q.1:Int)+(q.2.length:Int)-((q.1:Int)+1)).toNat=q.2.length-1 by lia];refine tI (lo:=(q.1:Int)+1) (n:=q.2.length-1) (λm σ G=>∃(v5:Option V),A3 (σ=[some (.ref c),some (.int n),some (.ref l),some (.int q.1),some (.int q.2.rank),v5]) (Same H G) (G l=some (.lst (nL (mN (line.set q.1 q.2.letter.toNat) q.1 m)))))
   ⟨v5,rfl,sm2,hl3⟩ ?_ ?_
  .rintro m σ G hm ⟨v5,rfl,sg,hg⟩;rw[show(q.1:Int)+1+(m:Int)=((q.1+1+m:Nat):Int) by lia];refine⟨_,rfl,_,rfl,l,_,_,q.1+1+m,rfl,rfl,hg,by rw[Sy,SJ,oB];exact Uy (by lia),?_⟩;refine⟨_,rfl,sg.set nlH,?_⟩;rw[C0,HL,<-Ry];rfl
  .rintro σ G ⟨v5,rfl,sg,hg⟩;exact⟨_,_,v5,rfl,sg,hg⟩
 .rintro σ H' ⟨v3,v4,v5,rfl,sm,hl⟩;rw[B0,ltt,Y1]at hl;exact⟨_,rfl,k _ l sm nlH hl⟩
theorem GW(T:vA Kq k9 aq):Fo Pq wq bq true T.xC 2 (Qo aq.SA aq.U3):=by
 refine T.xC.F.kk T.xC.S λH vs Q E h=>?_;obtain⟨p,dx,op,c,as,cs,v0,wl,F,rws,rfl,W,fok,nd,hc,rows,lr,pm,k⟩:=h;refine⟨rfl,λhr=>?_⟩;have zl:=BM;have h8:=W.h8;have l32:=W.l32;have lcs:=J1 rows;rw[B0,lr]at lcs;refine⟨_,(X0 (Q3 (MC T.VA (zS T) hr (F0 (GC O1 rfl rfl (own:=[("course",2)]) rfl T.xC.S.nd (Ya rfl T.Ak (F0 (pv 1) Z0)) (bW ["wall","courses","course"] (X3 GO) [("course",2)]) (λtk=>(wE 2 T.xC.S)) (λtk=>Y9) (λtk=>(pcg T.HD (Tk T) hr.mo tk.passes (F0 (pv 2) (F0 (yZ (K:=Kq) rfl (pv 0) rfl) Z0))))) Z0)))),?_⟩;refine⟨_,rfl,c,_,rfl,SqL.of hc,λL nL=>?_⟩;refine zd5 (K:=Kq) (a:=c) (xs:=cs.map V.ref) rfl (λi G=>∃(ls:List Addr),A4 (Same H G) (G L=some (.lst (ls.map V.ref))) (Rows G ls ((List.range i).map λj=>(List.range wl.long).map λx=>Bd.placeOf F x (wl.high-1-j))) (L∉ls)) ⟨[],(Same.refl _).new nL,C0,.nil,by simp⟩ (by rintro i G _ ⟨_,s,_⟩;exact SqL.of (s _ _ hc)) ?_ ?_
 .rintro i v G il hi ⟨ls,s1,hL,rl,nL'⟩;rw[B0,lcs]at il hi;obtain⟨r,oK,rfl⟩:=U8 hi;obtain⟨pG,zP,ts',Rt,tt'⟩:=Paired.get (rows.same s1) oK;have yl:wl.high-1-i<rws.length:=by lia
  obtain rfl:(rws[wl.high-1-i]).map rk=pG:=by
   rw[P1,K0 yl]at zP;exact M0 zP
  have py:=pm (wl.high-1-i) (by lia);rw[Q2,K0 yl]at py;have py:(rws[wl.high-1-i]).Perm (piecesAt F (wl.high-1-i)):=py;have lls:=J1 rl;rw[B0,o6]at lls;refine⟨rfl,?_⟩;dsimp only[Sa];rw[J0 rfl];refine⟨_,rfl,_,rfl,p,_,dx,_,_,rfl,s1 _ _ W.at_,T.dA.c,T.WC,rfl,r,ts',_,wl.long,rfl,Rt,tt',by lia,λq hq=>Si fok (py.mem_iff.mp hq),λG2 l s2 nl hl=>?_⟩;rw[zbr fok nd py]at hl;have Ll:L≠l:=C1 hL nl;refine⟨_,s2 _ _ hL,(by rw[B0];lia),ls++[l],(s1.trans s2).set nL,?_,?_,?_⟩
  .rw[C0,U0];rfl
  .rw[eN,U0];exact B4 (Rows.upd (Rows.same s2 rl) nL') (by rw[N0 (N2 Ll)];exact hl)
  .simp only[F2,Q1,DJ];exact⟨nL',Ll⟩
 .rintro G ⟨ls,s1,hL,rl,nL'⟩;rw[B0,lcs]at rl;refine⟨L,ls,_,rfl,hL,rl,?_,λG2 q s2 nq hq=>k _ q (s1.trans s2) (s1.free nq) ?_⟩
  .rw[MV];have:wl.high*(wl.long+1)<=8*33:=iC h8 (by lia)
   lia
  .rw[hq];unfold Bd.draw;rw[List.flatMap_map]
end Wb
section
namespace Wb
open PySem PySem.Spec PyProof.Rows L2 Wm
open PySem.W (Codec)
variable {t:Bytes}{x:List HV×List Opening}
theorem Ro(ns:List Int)(hb:∀x∈ns,0<=x/\x<=255):ns.map V.int=iB (SiteNeutral.text ns)/\(SiteNeutral.text ns).length=ns.length:=by
 refine⟨?_,B0 _⟩;unfold iB SiteNeutral.text;rw[B3];refine b7 λx hx=>?_;obtain⟨h0,h1⟩:=hb x hx;show V.int x=V.int (((UInt8.ofNat x.toNat).toNat:Nat):Int);rw[UInt8.toNat_ofNat',Nat.mod_eq_of_lt (by lia),Int.toNat_of_nonneg h0]
theorem So:∀{JE:List Bytes}{i:Nat}{h:List HV}{o:List Opening}{x:List HV×List Opening},NI JE i h o=.ok x->MM h->h.length<=6->o.length<=8->x.2.length<=8
 |[],i,h,o,x,e,_,_,o8=>by
  obtain rfl:=Z2 e;exact o8
 |l::r,i,h,o,x,e,kd,h6,o8=>by
  rw[NI]at e;cases ht:zH h o l with
  |error k=>rw[ht]at e;cases e
  |ok z=>
   rw[ht]at e;obtain⟨q1,q2,q3⟩:=SX (h':=z.1) (os':=z.2) ht kd h6 o8;exact So (x:=x) e q3 q1 q2
theorem Xy{z:List Bytes×Bytes}(e:ZF z=.ok x):x.2.length<=8:=by
 unfold ZF at e;cases hr:NI z.1 0 [] []with
 |error k=>rw[hr]at e;cases e
 |ok y=>
  rw[hr]at e;dsimp only at e;by_cases q:y.1.length<6\/z.2≠[]
  .rw[J0 q]at e;cases e
  .rw[D0 q]at e;obtain rfl:=Z2 e;exact So hr (λn x h=>by simp at h) (by decide) (by decide)
theorem Yy{s:BS}(h:oR t=.ok s):jE s.2:=by
 have e:judge t=.ok s.2:=by
  rw[Jm];unfold oR at h;rw[h]
 exact Ar e
theorem zd6(h:ZF (fl 10 t)=.ok x):Py (ED x.1 x.2):=by
 have e:judgeWall t=.ok (ED x.1 x.2):=by
  rw[Sb,h]
 obtain⟨h1,h2,h3,_⟩:=za6 e;exact⟨h1,h2,h3⟩
theorem Fg{b:Bond}{w:Wall}:∀{r:List Part}{F G:Filled},Bd.buildFrom b w r F=.ok G->UY w F->(∀p∈r,p∈w.parts)->UY w G
 |[],F,G,h,f,_=>by
  obtain rfl:=Z2 h;exact f
 |p::r,F,G,h,f,m=>by
  rw[oN]at h;cases e:fillOf b (w.panelOf p) (floorOf F p)with
  |none=>rw[e]at h;cases h
  |some l=>
   rw[e]at h;exact Fg h (Cd f (m p (by simp)) e) λq hq=>m q (by simp[hq])
theorem Zy(w:Wall)(F:Filled):(Bd.draw w F).length=w.high*(w.long+1):=by
 have:=MV (λx j=>Bd.placeOf F x (w.high-1-j)) w.long w.high;rw[List.flatMap_map]at this;exact this
theorem zbs(T:vA Kq k9 aq):Fo Pq wq bq true T.VL 17 (BQ Kq):=by
 refine T.VL.F.kk T.VL.S λH vs Q E h=>?_;obtain⟨lb,lt,b,t,rfl,hB,hbl,hT,htl,k⟩:=h;refine⟨rfl,λhr=>?_⟩;have zl:=BM;have roT:UX Kq aq.l8 aq.vC:=⟨T.YO,T.dJ.D,T.fJ,T.YL⟩
 have roF:UX Kq aq.l8 aq.V4:=⟨T.yM,T.B9.D,T.YG,T.gJ⟩
 have roP:UX Kq aq.l8 aq.L4:=⟨T.lH,T.d9.D,T.VC,T.pE⟩
 obtain⟨wt1,TZ⟩:∃wt1:WX,wt1=sR Kq aq.l8 6 (cP b t):=⟨_,rfl⟩
 refine⟨_,(T0 (Xh (Wt:=wt1) rfl rfl (λpn xe tk1=>(T0 (n6 (pcg T.UC (vV T) hr.mo tk1.passes (F0 (d6 (F0 (pv 0) (F0 (pv 1) Z0))) Z0)))
  (T0 (FC 2 T.VL.S (pcg T.uF (DZ T) hr.mo tk1.passes (F0 (pv 0) Z0)))
  (T0 (FC 3 T.VL.S (pcg T.vF (zZ T) hr.mo tk1.passes (F0 (pv 1) Z0)))
  (X0 (FC 4 T.VL.S (pcg T.S7 (KZ T) hr.mo tk1.passes (F0 (pv 2) (F0 (pv 3) Z0))))))))) (Kv (i:=5) O1 rfl rfl T.VL.S.nd rfl rfl rfl T.sM.m (λea pn xe zbJ=>(X0 (Q3 (pcg T.tM (Fk T) (hr.mark).mo zbJ.passes (F0 (pv 5) Z0))))) (Wh O1)))
  (X0 (Q3 (MC T.WL (JX T) hr (F0 O2 (F0 (d6 Z0) (F0 (MC T.xC (GW T) hr (F0 (pv 3) (F0 (pv 4) Z0))) Z0))))))),?_⟩
 refine⟨⟨_,rfl,_,rfl,(by show 2<=sizeLine;decide),λp1 n1=>?_⟩,?_⟩
 .have s1:Same H (upd H p1 (.lst [.ref lb,.ref lt])):=(Same.refl _).new n1;refine⟨p1,[lb,lt],[b,t],rfl,C0,.cons (s1.seq hB) (.cons (s1.seq hT) .nil),?_⟩;generalize upd H p1 (.lst [.ref lb,.ref lt])=H1 at s1;show if ((decide (4096<b.length)||(decide (4096<t.length)||false))=true)then _ else _
  by_cases q:4096<b.length\/4096<t.length
  .rw[J0 (by simp only[NH,Y3,O0];exact q)];intro d' q' H' sm e e2;rw[TZ];exact sR.none rfl roT e e2 (J0 q)
  .rw[D0 (by simp only[NH,Y3,O0];exact q)];have dw:cP b t=match oR b with
    |.error _=>[-6,0,0]
    |.ok s=>match ZF (fl 10 t)with
     |.error _=>[-6,0,0]
     |.ok x=>match Bd.buildFrom s.2 (ED x.1 x.2) (ED x.1 x.2).parts []with
      |.error i=>[-3,1,(i:Int),0]
      |.ok F=>0::0::((Bd.draw (ED x.1 x.2) F).length:Int)::jB (Bd.draw (ED x.1 x.2) F):=D0 q
   refine⟨_,rfl,lb,b,rfl,s1.seq hB,hbl,?_⟩;cases hr1:oR b with
   |error e=>
    rw[hr1]at dw;intro fr d' q' H' sm ee e2;rw[TZ];exact sR.text rfl roF ee e2 dw
   |ok s=>
    rw[hr1]at dw;dsimp only at dw;intro H2 bo s2 ⟨bx,mk,pp,ps,B⟩;refine⟨_,rfl,lt,t,rfl,s2.seq (s1.seq hT),htl,?_⟩;cases hr2:ZF (fl 10 t)with
    |error e=>
     rw[hr2]at dw;intro fr d' q' H' sm ee e2;rw[TZ];exact sR.text rfl roF ee e2 dw
    |ok x=>
     rw[hr2]at dw;dsimp only at dw;intro H3 p s3 WA;have r8:=Xy hr2;obtain⟨dx,op,v0,as,W⟩:=WA.is (Js hr2) (by lia);have ek:=zd6 hr2;generalize ED x.1 x.2=wl at W dw ek;refine⟨_,rfl,_,rfl,bo,bx,mk,pp,p,dx,op,ps,as,v0,s.2,wl,rfl,B.same s3,Yy hr1,W,ek,?_⟩;cases hc:Bd.buildFrom s.2 wl wl.parts []with
     |error i=>
      rw[hc]at dw;intro d' q' H' sm ee e2;rw[TZ];exact⟨rfl,d',q',_,-3,[(i:Int)],rfl,roP,ee,rfl,rfl,e2,by show 1<=1000;decide,dw⟩
     |ok F=>
      rw[hc]at dw;dsimp only at dw;intro H4 c cs rws s4 nc hcc rows lr pm;have h8:=W.h8;have l32:=W.l32;have nd:(F.map Prod.fst).Nodup:=by
       rw[dR hc];exact Yc wl
      refine⟨D1 _,λr nr=>⟨_,rfl,_,rfl,?_⟩⟩;have s5:Same H4 (upd H4 r (.lst [])):=(Same.refl _).new nr;have hr5:upd H4 r (.lst []) r=some (.lst []):=C0;generalize upd H4 r (.lst [])=H5 at s5 hr5;refine⟨p,dx,op,c,as,cs,v0,wl,F,rws,rfl,W.same (s4.trans s5),Fg hc (Fn _) λp hp=>hp,nd,s5 _ _ hcc,rows.same s5,lr,pm,λH6 z s6 nz hz=>?_⟩;refine⟨0,r,z,[],jB (Bd.draw wl F),rfl,s6 _ _ hr5,by rw[hz,zca],by decide,?_,λH' q _ e=>k H' q ?_⟩
      .unfold jB;rw[B0,Zy];have:wl.high*(wl.long+1)<=8*33:=iC h8 (by lia)
       lia
      .rw[e,dw];unfold jB;rw[B0];rfl
 .intro ea C fr dx σ' H6 live wt;rw[TZ]at wt;obtain⟨Tb,hT,l1,l2⟩:=live;obtain⟨ls,d,q,F,n,ns,rfl,ro,ed,f1,f2,hq,To,dw⟩:=wt;refine⟨true,ro.x,?_⟩;rw[J0 rfl];have g:(σ'.set 5 (some (.ref ea)))[5]?=some (some (.ref ea)):=Q6 (by lia);exact⟨_,g,ea,C,d,q,fr,.ref Tb,F,n,ns,rfl,l1,sG ed,ro.D,ro.nn,ro.nt,f1,f2,sG hq,To,λH' p _ e=>k H' p (by rw[e,dw])⟩
theorem zd7(b t:List Int):PyWqbnhd.fill b t=cP (SiteNeutral.text b) (SiteNeutral.text t):=by
 show SiteNeutral.f [[5],b,t]=_;unfold SiteNeutral.f;show(let a:=BdSiteCalls.answer (.fill (SiteNeutral.text b) (SiteNeutral.text t));a.ret::(a.nums.length:Int)::(a.nums++(a.bytes.length:Int)::a.bytes.map λ(b:UInt8)=>(b.toNat:Int)))=_;generalize SiteNeutral.text b=b;generalize SiteNeutral.text t=t;unfold cP;have e:BdSiteCalls.answer (.fill b t)=if BdSiteCalls.TEXT<b.length\/BdSiteCalls.TEXT<t.length then BdSiteCalls.BAD else(match judge b with
  |.error _=>BdSiteCalls.FORM
  |.ok c=>if BdSiteCalls.TEXT<t.length then BdSiteCalls.BAD else match judgeWall t with
   |.error _=>BdSiteCalls.FORM
   |.ok w=>match w.built c with
    |.error n=>BdSiteCalls.tells (-3) [n]
    |.ok F=>BdSiteCalls.shows (Bd.draw w F)):=rfl
 rw[e];by_cases q2:4096<b.length\/4096<t.length
 .rw[J0 (show BdSiteCalls.TEXT<b.length\/BdSiteCalls.TEXT<t.length from q2),J0 q2];rfl
 rw[D0 (show ¬(BdSiteCalls.TEXT<b.length\/BdSiteCalls.TEXT<t.length)from q2),D0 q2,Jm];unfold oR;cases hb:JG CA oO (0,FE) (fl 10 b)with
 |error f=>rfl
 |ok s=>
  dsimp only;rw[D0 (show ¬BdSiteCalls.TEXT<t.length from λz=>q2 (.inr z)),Sb];cases ZF (fl 10 t)with
  |error f=>rfl
  |ok x=>
   dsimp only;unfold Wall.built;cases Bd.buildFrom s.2 (ED x.1 x.2) (ED x.1 x.2).parts []with
   |error e=>rfl
   |ok F=>rfl
theorem zd8{P:Program}{w:World}{K:Frag}{mg:Str->Option Value}{h:Heap}{fa:Addr}(KX:K.In h) (z:∃a:Ad,fa=a.LU/\vA K mg a/\∀(s:Shared)(us:List Value),us.length=(["b","t"]:List Str).length->BindsTo s a.vN ⟨us,[]⟩ ((["b","t"]:List Str).zip us)) :
  ∃fd:FuncData,(∀(s:Shared)(us:List Value),us.length=(["b","t"]:List Str).length->BindsTo s fd ⟨us,[]⟩ ((["b","t"]:List Str).zip us))/\∀base:Heap,K.In base->base.Ns mainGlobals mg->EA P w K mg base (MR P w) true 17 fa fd ["b","t"] (BQ K):=by
 obtain⟨a,rfl,T,b⟩:=z;exact⟨a.vN,b,λbase _ _=>ziz zbs ⟨P,w,K,mg,base,a⟩ T⟩
end Wb
namespace PySem.W
structure Fast:Prop where
 (tw5800608712223634597 tw14367802292154923931 tw5325532633067921678 tw11400429680810657832 tw6884688245919195653 tw4991300891034354123 tw10730032834958341673 tw2383696047982392283 tw12018271791177269301 tw7345845139502729449 tw15012469590474406436 tw1636193885128575597 tw5762717716483739074 tw17971147931392615745 tw4069653730379001475 tw11980025402560923978 tw12696915894880718132 tw2222327335178001995 tw6366956374666421687 tw11623602873840175206 tw370603881077208601 tw14297334438096138824 tw3469228453310614727 tw5527594119965358873 tw1474803018101686200 tw4663384330354228903 tw3935877508891046526 tw18374689121679069865 tw16213580960853699428 tw912711731369179898 tw13984384791013252750 tw11961025107763018984 tw4917486179875584313 tw18429829044624430549 tw2558445223993577990 tw930047136858181480 tw14475681531678458304 tw502108787318903304 tw7414198176993771653 tw7033435102269488893 tw4076696998607695235 tw15141649600844874908 tw7790973267753650100 tw8718574715474329082 tw16866414236699016686 tw17181869573746473173 tw10334010071862262223 tw15847075203553539032 tw5485788732237639758 tw4712423046496453337 tw14822293200537485199 tw9854677928694263025 tw13175968561408264051 tw13137261272219994742 tw1797499723827606292 tw2639120151401368454 tw5863383710440619406 tw9744625414824092346 tw1781704459018348304 tw13791112160137895454 tw6038368875535430852 tw17090380591049024201 tw14863145733180211588 tw1459068173588120013 tw4178275516742521406 tw13222535483018191603 tw3551154653624339386 tw18079185692706759277 tw15106339327197622828 tw16714424430644596000 tw11942884483377097993 tw13184184113520541366 tw11683880898111876448 tw3568658009590641655 tw4825628502275867490 tw13442267655226901548 tw7428488844047761740 tw4923293950754950302 tw1065561813440215258 tw16877700450930527326 tw17730970774624072468 tw6070744940929761235 tw12897809012604235369 tw7586146870579694814 tw247918193974335784 tw18174735180854360059 tw3681513266760135900 tw15979577215802424654 tw16366842728145360502 tw3161968141881213593 tw7325358161639343544 tw17065297515676622142 tw4822041054428419214 tw5086119989703433391 tw10540046197597033192 tw8034470357101053617 tw9458548002140728335 tw7393508013493113720 tw8827801815989119057 tw14736122080841069352 tw17021234235183285018 tw13871077679432747251 tw6119601547567137242 tw327362776667276080 tw3088781508083967621 tw16412304701380752095 tw4248133711047551731 tw12461902569754955685 tw14404070367251317575 tw15974482166836708012 tw12483506390638897114 tw5993821896305340873 tw10450152072492129689 tw998790073914215449 tw6150892118966450876 tw17374359801653917582 tw13624181152534369889 tw1120510375789694410 tw14187557379672856119 tw17683427393998406191 tw15143936108433360508 tw12781997800281139553 tw3483845488579892770 tw2827953820993914809 tw133060567650592659 tw17892883509933470616 tw6104381958741065188 tw17160122619826972282 tw2173256202165594037 tw2868394747460601547 tw686527124796341711 tw14371935897980381149 tw5766938261834182479 tw7832342977999227291 tw2316538991051789470 tw5357152980365756293 tw11329802804088159852 tw8762223063538344868 tw7913425621478788904 tw16815879197879194514 tw60598082560393219 tw3562156724681446388 tw14370375374361276466 tw13322282659985093799 tw17031614448107907383 tw9602780669492859908 tw14539017891162305513 tw15727091111449037616 tw2747434790104447850 tw1740803665791140838 tw16119720090948476223 tw4323381778636118271 tw12911112495124512393 tw9992225344302344326 tw381573074653372968 tw13438286930946606312 tw11297152577822203405 tw9631612835625621775 tw7328871872274052689 tw174521733120713275 tw2690524438959944927 tw2693815211279783511 tw11530901906275255514 tw10986459787768271953 tw9492967006305119428 tw6455806926415110787 tw16687337216389307626 tw4790362586129759592 tw9638894008198676212 tw1349082969264701641 tw16087430912963577702 tw13268439389541432142 tw7243020801935044908 tw1891020263724211608 tw7540162144258223628 tw8740382830835807348 tw17943153052969902828 tw6485336493565951996 tw1718764529290300743 tw552652328981358614 tw1853457623463282289 tw14344796946960139540 tw12231618051474137181 tw6718869540458471586 tw6524427687888874433 tw8482605087619060948 tw5728898066557765787 tw17780115059635329005 tw1690432615891992308 tw11167995921304379941 tw18358552400088453792 tw6360915938142522991 tw17591635377154317931 tw14231203870066573729 tw15412165561856884864 tw10078179730984540298 tw1793377513568809098 tw4948366043604642342 tw11401271166022393241 tw2670620456573662395 tw14061506127565256718 tw13989255276869755798 tw12608599663139778090 tw2285304852022082 tw9240669890999400004 tw16923620423514310483 tw8164341108628028008 tw4989945369030527118 tw16438938777869583471 tw6705397005450935897 tw12658599615147719815 tw8009103969098810182 tw10917615069071335894 tw201174682967160377 tw12160040408655104441 tw14519906491637155080 tw11929929717420614290 tw7265223849829896364 tw12847067058201751347 tw11761722172098653930 tw11120518711596239962 tw10719373872127714305 tw16110779763017485719 tw11438366637064960468 tw16571903953681610011 tw15515630765401837128 tw5677664317638477041 tw13250406061142179773 tw936903956353711319 tw8369289210381326449 tw1846364937687141211 tw6989168425486164784 tw5150748363393124034 tw760699973756413099 tw13521907149186723370 tw15066579103524641139 tw7951270563637962820 tw115817004922523471 tw15332232471204081861 tw603839061366696537 tw18171846754153954978 tw17153142786284771814 tw12028476652003713387 tw13310722819506374376 tw10751402034593573415 tw12879431697346875257 tw17452056029796159195 tw6120928854630474889 tw7086132796432171562 tw10556651081841235153 tw8608854570641302512 tw14342724339706768589 tw7007681732393627865 tw16504814885797469812 tw16118393923477896604 tw11675221967425051470 tw11452584212810722275 tw12182938955451190428 tw2221157230388716318 tw12494379730269662268 tw8313261104379910935 tw15685314265765095799 tw16839130238511541690 tw7087680909540505723 tw14117332394484934363 tw5850048734247816143 tw2928757024877159421 tw2994603125217649393 tw11397648363038617829 tw10993946522958063623 tw18002119006544079591 tw10833214006211883643 tw3479935370880086746:True)
end PySem.W
open PySem PySem.W PyProof.Rows L2 Wb
set_option maxRecDepth 100000 in
set_option maxHeartbeats 0 in
theorem PySem.Challenge.cw_wallbonds_s05_fill_holds : PySem.Challenge.rw_wallbonds_s05_fill.Holds := by
 w_on;k_headS;(case hw=>exact⟨[.list [],.list []],by decide +kernel,by decide +kernel⟩)
 k_fillS
 refine L2.walk_specX (r:=PySem.Challenge.rw_wallbonds_s05_fill) (cm:=true) (k:=17) (ps:=["b","t"]) (sp:=BQ) (by decide +kernel) rfl rfl ⟨λ_=>rfl,by decide,by decide⟩ (λw h Y=>PySem.W.kIn_of Y) ?F ?S
 case F=>
  intro w mg fa h Y KX G hmg;refine zd8 KX ?_;refine' zdV (a:=Ad.mk ..) hmg ⟨?e1,?e2,?e3,?e4,?e5,?e6,?e7,?e8,?e9,?e10,?e11,?e12,?e13,?e14,?e15,?e16,?e17,?e18,?e19,?e20,?e21,?e22,?e23,?e24,?e25,?e26,?e27,?e28,?e29,?e30,?e31,?e32,?e33,?e34,?e35,?e36,?e37,?e38,?e39,?e40,?e41,?e42,?e43,?e44,?e45,?e46,?e47,?e48,?e49,?e50,?e51,?e52,?e53,?e54,?e55,?e56,?e57,?e58,?e59,?e60,?e61,?e62,?e63,?e64,?e65,?e66,?e67,?e68,?e69,?e70,?e71,?e72,?e73,?e74,?e75,?e76,?e77,?e78,?e79,?e80,?e81,?e82,?e83,?e84,?e85,?e86,?e87,?e88,?e89,?e90,?e91,?e92,?e93,?e94,?e95,?e96,?e97,?e98,?e99,?e100,?e101,?e102,?e103,?e104,?e105,?e106,?e107,?e108,?e109,?e110,?e111,?e112,?e113,?e114,?e115,?e116,?e117,?e118,?e119,?e120,?e121,?e122,?e123,?e124,?e125,?e126,?e127,?e128,?e129,?e130,?e131,?e132,?e133,?e134,?e135,?e136,?e137,?e138,?e139,?e140,?e141,?e142,?e143,?e144,?e145,?e146,?e147,?e148,?e149,?e150,?e151,?e152,?e153,?e154,?e155,?e156,?e157,?e158,?e159,?e160,?e161,?e162,?e163,?e164,?e165,?e166,?e167,?e168,?e169,?e170,?e171,?e172,?e173,?e174,?e175,?e176,?e177,?e178,?e179,?e180,?e181,?e182,?e183,?e184,?e185,?e186,?e187,?e188,?e189,?e190,?e191,?e192,?e193,?e194⟩
  (case e6|e7|e8|e9|e10|e11|e12=>dsimp only;refine' ⟨eI KX G ?_,⟨?_,?_,?_,?_⟩,?_,?_⟩<;>k_is)
  (case e1|e2|e3|e4|e5=>dsimp only;refine' ⟨eI KX G ?_,⟨?_,?_,?_,?_,?_⟩,⟨?_,?_⟩,?_,?_⟩<;>first|k_is|kernel_rfl)
  (case e13|e14|e15|e16|e17|e18|e19|e20|e21|e22|e23|e24|e25|e26|e27|e28|e29|e30|e31|e32|e33|e34|e35|e36|e37|e38|e39|e40|e41|e42|e43|e44|e45|e46|e47|e48|e49|e50|e51|e52|e53|e54|e55|e56|e57|e58|e59|e60|e61|e62|e63|e64=>dsimp only;apply FT.of KX G;k_is;k_is;k_is;k_is;(first|exact λ_ _ _ _ _ _=>ln1 λ_=>rfl|exact λ_ _ _ _ _ _=>ln2 λ_ _=>rfl|exact λ_ _ _ _ _ _=>ln3 λ_ _ _=>rfl|exact λ_ _ _ _ _ _=>ln4 λ_ _ _ _=>rfl|exact λ_ _ _ _ _ _=>ln5 λ_ _ _ _ _=>rfl);exact scq)
  (case e65|e66|e67|e68|e69|e70|e71|e72|e73|e74|e75|e76|e77|e78|e79|e80|e81|e82|e83|e84|e85|e86|e87|e88=>dsimp only;apply MT.of;k_is;k_is;k_is;k_is;k_is;(first|exact λ_ _ _ _ _ _=>ln1 λ_=>rfl|exact λ_ _ _ _ _ _=>ln2 λ_ _=>rfl|exact λ_ _ _ _ _ _=>ln3 λ_ _ _=>rfl|exact λ_ _ _ _ _ _=>ln4 λ_ _ _ _=>rfl|exact λ_ _ _ _ _ _=>ln5 λ_ _ _ _ _=>rfl);exact scq)
  (case e89|e90|e91|e92|e93|e94|e95|e96|e97|e98|e99|e100|e101|e102|e103|e104|e105|e106|e107|e108|e109|e110|e111|e112|e113|e114|e115|e116|e117|e118|e119|e120|e121|e122|e123|e124|e125|e126|e127|e128|e129|e130|e131|e132=>dsimp only[M3];k_is)
  (case e133=>dsimp only;refine' ⟨?_,?_,?_,?_⟩<;>k_is)
  (case e134|e135|e136|e137|e138|e139|e140|e141|e142|e143=>dsimp only;kernel_rfl)
  (case e144|e145|e146|e147|e148|e149|e150|e151|e152|e154|e155|e156|e157|e158|e159|e160|e161|e162|e163|e164|e165|e166|e167|e168|e169|e170|e171|e173|e174|e176|e177|e178|e179|e180|e181|e182=>dsimp only;refine' eI KX G ?_;k_is)
  (case e153|e172|e175=>dsimp only;apply zit;k_is;exact⟨by decide +kernel,by repeat (first|exact .nil|refine .cons ⟨_,rfl⟩ ?_)⟩)
  (case e183|e184|e185|e186|e187|e188|e189|e190|e191|e192|e193=>refine' PySem.W.mg_none_of KX G ?_;k_is)
  (case e194=>dsimp only;exact λs=>ln2 λ_ _=>.of_eq rfl)
 case S=>
  intro K H xs a hO Ig zov hx;cases hx with
  |cons h0 hx1=>
   cases hx1 with
   |cons h1 hx2=>
    cases hx2;cases h0 with
    |lst hs0 ha0=>
     have e0:=L2.ints_dw a.1 _ ha0;subst e0;cases h1 with
     |lst hs1 ha1=>
      have e1:=L2.ints_dw a.2.1 _ ha1;subst e1;have q:((Codec.inLen 0 6000 a.1&&a.1.all (Codec.inInt 0 255))&&((Codec.inLen 0 6000 a.2.1&&a.2.1.all (Codec.inInt 0 255))&&true))=true:=Ig;simp only[E1]at q;have hb0:∀x∈a.1,0<=x/\x<=255:=λx hx=>Codec.inInt_iff.mp (Q7.mp q.1.2 x hx);obtain⟨d0,l0⟩:=Ro a.1 hb0;rw[d0]at hs0;have m0:(SiteNeutral.text a.1).length<=6000:=by rw[l0];exact(Codec.inNat_iff.mp q.1.1).2
      have hb1:∀x∈a.2.1,0<=x/\x<=255:=λx hx=>Codec.inInt_iff.mp (Q7.mp q.2.1.2 x hx);obtain⟨d1,l1⟩:=Ro a.2.1 hb1;rw[d1]at hs1;have m1:(SiteNeutral.text a.2.1).length<=6000:=by rw[l1];exact(Codec.inNat_iff.mp q.2.1.1).2
      refine⟨_,_,SiteNeutral.text a.1,SiteNeutral.text a.2.1,rfl,hs0,m0,hs1,m1,λH' p hp=>?_⟩;show Dw _ H' (.ref p) (.list ((PyWqbnhd.fill a.1 a.2.1).map WData.int));rw[zd7 a.1 a.2.1];exact .lst (L2.SqL.of hp) (L2.dw_ints _)
#print axioms PySem.Challenge.cw_wallbonds_s05_fill_holds
end
