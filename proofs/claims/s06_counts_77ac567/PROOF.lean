import PyProof.Rows.All
import Wide.All
import OpenK.AllK
import Wide.FinOn
import PyProof.EqAt
import PyProof.EqKinds
import PyProof.TupleCall
import KE.BitLaws
import Open.SpecLaws
import KE.OsHead
import KE.OsGo
import KE.KTryMore
import KE.KLooksOwn
import PyProof.RulesAs
import PyProof.RulesDel
import PyProof.ExcBaseAll.Exception
import PyProof.InstStoreFacts
import PyProof.ExcArgs
import PyProof.ExcAttrAll.Exception
import PyProof.Draws
import PyProof.NeKinds
import PyProof.Rows.SortRuns
import PyProof.Rows.SortG.SortRunsSt
import KE.KSortTup
import KE.KDictLaws
import KE.KMinKey
import PyProof.Rows.RuleM_int
import KE.KSortTupUse
import PySem.Challenge.RW_wallbonds_s06_counts
set_option Elab.async false
set_option linter.all false
set_option maxRecDepth 100000
set_option maxHeartbeats 4000000
namespace Wm
end Wm
namespace Ws
end Ws
namespace Wf
end Wf
namespace Wc
end Wc
namespace Wg
end Wg
namespace Wp
end Wp
open Wm Ws Wf Wc Wg Wp
open Bd (Bond Bytes Filled Opening PIECES Panel Part Piece Wall allPieces ascii bitsOf cutsIn cutsOf endIs fillOf floorOf inOrder isBig isDigit isSmall jointsFrom jointsOf judge judgeWall lengthOf lettersOf near piecesAt piecesIn readNumber readRow repeated rowBefore sooner stretchesFrom valueOf)
open PySem.W (Frag InitBack KatTups Looks WalkOS any_some bind_fn callWith_K callWith_K0 cellsFrom_some check_slot clsIn codeIn emptyDict exmOne findIn findObj_own fnOf handedIn hasDictIn instObj isFn keepIn length_le_weightAllW lookIn looks_clsIn looks_findIn looks_mroIn looks_typeIn makesIn methodCall_KW methodObj mg_of mroIn plainGet plainGet_of plainOver set_plain specialIn takerIn typeIn)
open Array renaming getElem?_eq_some_iff->G9,getElem?_setIfInBounds_ne->uA,toList_map->JA,length_toList->IF,size_map->AG,perm_iff_toList_perm->BG,getElem?_eq_none->tJ
open Bool renaming and_eq_true->D1,false_ne_true->T1,eq_iff_iff->Z2,false_eq_true->i3,not_eq_true'->O3,or_eq_true->W3,eq_false_iff->Q4,false_and->GB,and_eq_true_iff->HB,true_and->IC,false_or->BH,and_true->FH,or_false->EM
open Classical renaming byContradiction->sC,epsilon_spec->UD
open Except.ok renaming inj->b3
open Iff renaming rfl->jC
open Int renaming toNat_natCast->P4,zero_add->NO
open List renaming length_map->B0,getElem?_eq_some_iff->N0,getElem?_eq_getElem->O0,map_append->V0,size_toArray->J1,length_cons->M1,mem_of_getElem?->N1,getElem?_map->P1,mem_singleton->Q1,mem_cons->S1,take_length->V1,length_append->Y1,length_take->Z1,mem_append->N2,mem_map->S2,getD_eq_getElem?_getD->U2,append_nil->d3,mem_cons_of_mem->o3,map_map->B3,map_cons->C3,length_eq_zero_iff->X3,mem_append_right->Y3,mem_iff_getElem->j4,mem_filter->O4,mem_cons_self->S4,length_pos_iff->c5,filter_cons->i5,nodup_cons->N5,getElem_map->U5,map_congr_left->Y5,mem_range->j6,mem_append_left->n6,mem_filterMap->o6,length_nil->F6,getElem?_set_self->K6,drop_eq_getElem_cons->O6,filter_append->j7,all_eq_true->t7,mem_flatMap->u7,getElem?_append_right->Q7,append_assoc->R7,length_range->T7,getElem?_range->d8,getElem?_append_left->j8,length_singleton->m8,length_replicate->n8,length_filter_le->t8,all_cons->O8,any_cons->P8,getElem?_set_ne->S8,mapM_cons->U8,lookup_cons->B9,pairwise_iff_getElem->R9,of_mem_zip->U9,find?_cons->W9,eq_of_mem_replicate->nA,take_succ_cons->CA,mem_nil_iff->OA,find?_eq_some_iff_append->RA,range_succ_eq_map->aB,forIn_cons->fB,dropLast_concat_getLast->lB,contains_iff_mem->wB,getElem_inj->ZB,length_drop->eC,map_nil->fC,drop_length->iC,replicate_succ->wC,flatMap_append->xC,takeWhile_cons->yC,foldl_cons->OC,range_succ->SC,zip_cons_cons->WC,contains_cons->aD,mem_mergeSort->dD,map_inj_right->eD,all_map->FD,take_append_drop->pE,getElem?_toArray->sE,any_eq_true->zE,getElem_mem->FE,filter_nil->uF,length_zip->yF,filterMap_cons->FF,pairwise_cons->xG,find?_eq_none->yG,flatten_cons->iH,getElem?_take_of_lt->AH,getElem?_cons_zero->uI,zipIdx_cons->GI,getElem_zip->HI,take_of_length_le->qJ,length_pos_of_mem->HJ,forIn_nil->UK,drop_zero->jL,any_map->EN,all_nil->ON
open List.Nodup renaming idxOf_getElem->XH
open List.cons renaming inj->pB
open Nat renaming le_refl->j1,zero_le->E1,lt_of_lt_of_le->O2,ne_of_lt->j3,le_trans->d4,lt_irrefl->B5,testBit_succ->G8,eq_of_testBit_eq->V8,lt_of_le_of_lt->F9,pow_le_pow_right->eA,zero_add->bB,le_of_eq->cC,testBit_zero->kC,shiftRight_eq_div_pow->rC,le_of_succ_le->GD,lt_succ_of_lt->HD,lt_trans->ID,one_shiftLeft->dE,lt_succ_self->wE,min_le_right->yE,testBit_and->tF,ne_of_gt->PF,testBit_or->wG,mul_le_mul->NG,mod_two_eq_zero_or_one->OG,lt_pow_two_of_testBit->WG,shiftLeft_eq->EI,le_of_lt->eJ,and_comm->CJ,and_le_left->gK,two_pow_pos->mK,le_succ->TK,mod_lt->PM,pow_succ->PN,sub_self->TN
open Ne renaming symm->K2
open Option renaming bind_some->o4,map_some->QC,bind_eq_some_iff->uD,isSome_iff_exists->zH,map_eq_some_iff->rJ
open Option.some renaming inj->J0
open Prod.mk renaming inj->KB
open PyProof.Rows renaming slot_tuple_getitem->b5,callWith_type1->b6,listUpdate_at->KH
open PySem renaming wpAny_bind->z0,wpAny_pure->S0,mem_of_lookup->N3,wpAny_truthy_bool->D5,wpAny_newObj_type->F5,wpAny_field->K5,wpAny_mono->L5,wpAny_holding->T5,wpAny_Call_Name_kw->u6,wpAny_callSpecial?_slot->o7,wpAny_call_entry->w9,wpAny_setField->E9,wpAny_passesOwn->T9,wpAny_standAt->lA,wpAny_loadPart->EA,wpAny_seqItems->IB,wpAny_tryCatch->NB,codeAny_mono->dC,wpAny_execs_nil->NC,tupleKind_room_in1->YC,wpAny_throw->tD,richCompare_meets_room->DD,wpAny_pyIter_enum->JD,plainObj_wpAny_Assign_Attribute->gE,wpAny_call->xE,sizeLine_eq->YE,wpAny_typeNameOfWhole_keyiter->cF,pushCells_keeps->kF,codeAny_builtin->nF,wpAny_pyIter_tuple->iG,wpAny_letOwnedTupleGo_enum->nG,wpAny_pyIter_list->bH,wpAny_letGo->uH,wpAny_attempt->CH,wpAny_typeNameOf_keyiter->DH,wpAny_handled->EH,plainId_quiet->LH,wpAny_lookBehind->bI,pastItsLine_dict->cI,wpAny_forIn_list->fI,noFill_tuple_add->jI,wpAny_pyNext_range_end->hJ,wpAny_pyIter_rangeiter->iJ,call_meets->pJ,wpAny_updateSeq->fK,wpAny_isTrue_Compare1->pK,wpAny_alloc->ZK,seq_tuple_add->sM,wpAny_newList->xM,typeIs_int->JM,wpAny_rule->MM,wpAny_nsSet1->wN,concat_meets->xN,wpAny_typeOf->yN,seqIndex_neg->AN,call_meetsIn->GN
open PySem.Around renaming under_plainId->eF
open PySem.AutoSeq1 renaming sub_tuple_tuple->EC
open PySem.Calls renaming spliced_cons->XA,callWith_builtin->ZA,evalArgs_plain->ZE,Name_function_global->fG,spliced_nil->gH
open PySem.F renaming plainAttrs_list->P2,slot_list_append->K3,type_list_append->L3,plain_min_loop->N6,slot_list_extend->Q8,type_list_extend->R8,slot_tuple_iterator_next->J9,slot_dict_keyiterator_next->gB,args_tuple_add_2->FC,entry_tuple_add->rD,slot_tuple_add->ED,entry_min_loop->VD,slot_dict_get->nE,args_tuple_iterator_next_1->pF,slot_dict_setdefault->xF,entry_tuple_iterator_next->TF,args_tuple_lt_2->iI,slot_list_index->nI,args_dict_get_3->sI,plainAttrs_dict->tI,entry_tuple_lt->mJ,entry_dict_get->sJ,slot_tuple_lt->qK,slot_enumerate_next->sK
open PySem.Heap renaming get?_push_of_some->U0,get?_push_size->X1,lt_size->F2,size_push->X4,get?_update_other->M5,get?_update_self->vB,get?_update_ne->AC
open PySem.Heap.SameBut renaming update->JF
open PySem.Paired renaming length->K1,snoc->K4
open PySem.PassesOwn renaming looking->lH
open PySem.Sem renaming wp_bind'->M6,wp_mono->qL,wp_pure'->eO
open PySem.SeqAt.EqAt renaming int_int->mG
open PySem.W renaming looks_findIn->bA,looks_clsIn->zA,looks_mroIn->AA,callWith_K->YA,any_some->bC,methodCall_KW->lE,length_le_weightAllW->mF,plainGet_of->GF,callWith_K0->HF,check_slot->sG,set_plain->cH,mg_of->QH,cellsFrom_some->lJ
open PySem.W.Looks renaming ld->C9,of_pure->oE,here->kG
open PySem.Within renaming cons->dH
open StateT renaming run_bind->wF
open Std.Legacy.Range renaming forIn_eq_forIn_range'->MB
open String renaming toList_ofList->dF
open Sum.inl renaming inj->fA
open True renaming intro->c9
open UInt8 renaming toNat_inj->qF
def D0:=@if_neg
def K0:=@if_pos
def P0:=@decide_eq_true_eq
def Y0:=@decide_eq_false
def F1:=@decide_eq_true
def P3:=@decide_eq_decide
def L4:=@beq_iff_eq
def Y4:=@of_decide_eq_true
def j5:=@decide_eq_false_iff_not
def X5:=@beq_eq_false_iff_ne
def w6:=@of_decide_eq_false
def l7:=@if_false
def P7:=@congrArg
def gC:=@beq_self_eq_true
def MD:=@bne_self_eq_false
def QF:=@if_true
def dL:=@not_or
def LL:=@or_false
namespace L2
inductive E2{A B:Type}(p:A->B->Prop):Prop
 |mk (a:A) (b:B):p a b->E2 p
inductive E3{A B C:Type}(p:A->B->C->Prop):Prop
 |mk (a:A) (b:B) (c:C):p a b c->E3 p
inductive E4{A B C D:Type}(p:A->B->C->D->Prop):Prop
 |mk (a:A) (b:B) (c:C) (d:D):p a b c d->E4 p
inductive E5{A B C D E:Type}(p:A->B->C->D->E->Prop):Prop
 |mk (a:A) (b:B) (c:C) (d:D) (e:E):p a b c d e->E5 p
inductive E6{A B C D E F:Type}(p:A->B->C->D->E->F->Prop):Prop
 |mk (a:A) (b:B) (c:C) (d:D) (e:E) (f:F):p a b c d e f->E6 p
inductive E7{A B C D E F G:Type}(p:A->B->C->D->E->F->G->Prop):Prop
 |mk (a:A) (b:B) (c:C) (d:D) (e:E) (f:F) (g:G):p a b c d e f g->E7 p
inductive A3(p0 p1 p2:Prop):Prop
 |mk:p0->p1->p2->A3 p0 p1 p2
inductive A4(p0 p1 p2 p3:Prop):Prop
 |mk:p0->p1->p2->p3->A4 p0 p1 p2 p3
inductive A5(p0 p1 p2 p3 p4:Prop):Prop
 |mk:p0->p1->p2->p3->p4->A5 p0 p1 p2 p3 p4
inductive A6(p0 p1 p2 p3 p4 p5:Prop):Prop
 |mk:p0->p1->p2->p3->p4->p5->A6 p0 p1 p2 p3 p4 p5
inductive A7(p0 p1 p2 p3 p4 p5 p6:Prop):Prop
 |mk:p0->p1->p2->p3->p4->p5->p6->A7 p0 p1 p2 p3 p4 p5 p6
inductive A8(p0 p1 p2 p3 p4 p5 p6 p7:Prop):Prop
 |mk:p0->p1->p2->p3->p4->p5->p6->p7->A8 p0 p1 p2 p3 p4 p5 p6 p7
inductive A9(p0 p1 p2 p3 p4 p5 p6 p7 p8:Prop):Prop
 |mk:p0->p1->p2->p3->p4->p5->p6->p7->p8->A9 p0 p1 p2 p3 p4 p5 p6 p7 p8
end L2
namespace L2
open PySem PySem.Spec PyProof.Rows
abbrev MC:=Sum Int Str
def rQ:MC->Value->Bool
 |.inl k,v=>Value.isInt k v
 |.inr x,v=>Value.isStrOf x v
def zhb(w:World):MC->Int
 |.inl k=>hashInt k
 |.inr x=>hashStr w x
theorem j9:∀{k:MC}{v:Value},rQ k v=true->(∃i t,k=Sum.inl i/\v=Value.int i t)\/(∃x t,k=Sum.inr x/\v=Value.str x t)
 |.inl i,v,h=>by
  obtain⟨t,e⟩:=Value.isInt_shape (k:=i) (v:=v) h;exact .inl ⟨i,t,rfl,e⟩
 |.inr x,v,h=>by
  obtain⟨t,e⟩:=Value.isStrOf_shape (x:=x) (v:=v) h;exact .inr ⟨x,t,rfl,e⟩
theorem Vn(i:Int)(t:Tok):rQ (.inl i) (.int i t)=true:=by simp[rQ,Value.isInt]
theorem Wn(x:Str)(t:Tok):rQ (.inr x) (.str x t)=true:=by simp[rQ,Value.isStrOf]
theorem zbZ(a b:Int):decide ((Sum.inl a:MC)=Sum.inl b)=(a==b):=by
 by_cases e:a=b
 all_goals grind
theorem zb0(a b:Str):decide ((Sum.inr a:MC)=Sum.inr b)=decide (a=b):=by
 grind
theorem zb1(a:Int)(b:Str):decide ((Sum.inl a:MC)=Sum.inr b)=false:=Y0 (λq=>nomatch q)
theorem zb2(a:Str)(b:Int):decide ((Sum.inr a:MC)=Sum.inl b)=false:=Y0 (λq=>nomatch q)
def O9(prog:Program)(w:World):PySem.KeyKind prog w MC where
 is:=rQ
 hash:=zhb w
 inj:=λv a b ha hb=>by
  rcases j9 ha with⟨i,t,rfl,rfl⟩|⟨x,t,rfl,rfl⟩
  .rcases j9 hb with⟨j,u,rfl,e⟩|⟨y,u,rfl,e⟩
   .injection e with e1 _;rw[e1]
   .exact nomatch e
  .rcases j9 hb with⟨j,u,rfl,e⟩|⟨y,u,rfl,e⟩
   .exact nomatch e
   .injection e with e1 _;rw[e1]
 byValue:=λk v h=>by
  rcases j9 h with⟨i,t,rfl,rfl⟩|⟨x,t,rfl,rfl⟩<;>rfl
 pyHash:=λhv h=>by
  rcases j9 hv with⟨i,t,rfl,rfl⟩|⟨x,t,rfl,rfl⟩
  .exact wpAny_pyHash_int h
  .exact wpAny_pyHash_str h
 eqBool:=λhu hv h=>by
  rcases j9 hu with⟨i,t,rfl,rfl⟩|⟨x,t,rfl,rfl⟩
  .rcases j9 hv with⟨j,u,rfl,rfl⟩|⟨y,u,rfl,rfl⟩
   .rw[zbZ]at h;exact wpAny_eqBool_int h
   .rw[zb1]at h;exact SeqAt.EqAt.int_str i t y u _ _ _ _ h
  .rcases j9 hv with⟨j,u,rfl,rfl⟩|⟨y,u,rfl,rfl⟩
   .rw[zb2]at h;exact SeqAt.EqAt.str_int x t j u _ _ _ _ h
   .rw[zb0]at h;exact wpAny_eqBool_str h
 «strs»:=λk x t v h=>by
  rcases j9 h with⟨i,u,rfl,e⟩|⟨y,u,rfl,e⟩
  .exact nomatch e
  .injection e with e1 _;subst e1;cases v<;>rfl
theorem sZ(prog:Program)(w:World)(i:Int)(t:Tok):(O9 prog w).is (.inl i) (.int i t)=true:=Vn i t
theorem tZ(prog:Program)(w:World)(x:Str)(t:Tok):(O9 prog w).is (.inr x) (.str x t)=true:=Wn x t
end L2
namespace L2
open PySem PySem.Spec PyProof.Rows
variable {x a b e:Addr}{h h':Heap}{P:Program}{w:World}
inductive V where
 |non|bl (b:Bool)|int (i:Int)|str (x:Str)|byt (b:Array UInt8)|flt (b:UInt64)|ref (a:Addr)|ty (n:String)
 deriving DecidableEq
def R4:V->Value->Prop
 |.non,u=>u=Value.none
 |.bl b,u=>u=Value.bool b
 |.int i,u=>∃t,u=Value.int i t
 |.str x,u=>∃t,u=Value.str x t
 |.byt b,u=>∃t,u=Value.bytes b t
 |.flt b,u=>∃t,u=Value.float b t
 |.ref a,u=>u=Value.ref a
 |.ty n,u=>u=Value.type n
abbrev k4:List V->List Value->Prop:=Paired R4
theorem k4.length{xs:List V}{us:List Value}(r:k4 xs us):xs.length=us.length:=K1 r
theorem k4.get:∀{xs:List V}{us:List Value}{i:Nat}{x:V},k4 xs us->xs[i]?=some x->∃u,us[i]?=some u/\R4 x u
 |_,_,_,_,.nil,e=>by simp at e
 |_,_,0,_,.cons r _,e=>by simp at e;subst e;exact⟨_,rfl,r⟩
 |_,_,i+1,x,.cons _ t,e=>by
  obtain⟨u,h1,h2⟩:=k4.get (i:=i) (x:=x) t (by simpa using e);exact⟨u,by simpa using h1,h2⟩
theorem k4.set{x:V}{u:Value}(r:R4 x u):∀{xs:List V}{us:List Value}(i:Nat),k4 xs us->k4 (xs.set i x) (us.set i u)
 |_,_,_,.nil=>.nil
 |_,_,0,.cons _ t=>.cons r t
 |_,_,i+1,.cons q t=>.cons q (k4.set r i t)
theorem k4.append:∀{xs ys:List V}{us ws:List Value},k4 xs us->k4 ys ws->k4 (xs++ys) (us++ws)
 |_,_,_,_,.nil,s=>s
 |_,_,_,_,.cons r t,s=>.cons r (k4.append t s)
theorem k4.take:∀{xs:List V}{us:List Value}(n:Nat),k4 xs us->k4 (xs.take n) (us.take n)
 |_,_,0,_=>.nil
 |_,_,_+1,.nil=>.nil
 |_,_,n+1,.cons r t=>.cons r (k4.take n t)
theorem k4.drop:∀{xs:List V}{us:List Value}(n:Nat),k4 xs us->k4 (xs.drop n) (us.drop n)
 |_,_,0,r=>r
 |_,_,_+1,.nil=>.nil
 |_,_,n+1,.cons _ t=>k4.drop n t
def eG:Option V->Option Value->Prop
 |some v,some u=>R4 v u
 |none,none=>True
 |_,_=>False
def KV{κ:Type}:List (κ×V)->List (κ×Value)->Prop:=Paired λ(p:κ×V)(q:κ×Value)=>p.1=q.1/\R4 p.2 q.2
def kV:MC->V
 |.inl i=>.int i
 |.inr x=>.str x
inductive HO where
 |lst (xs:List V)
 |tup (xs:List V)
 |dK (kvs:List (MC×V))|dT (kvs:List (List MC×V))
 |set (S:Int->Bool) (n:Nat)
 |ins (C dx:Addr) (fs:List (Str×V))
 |own (x:Addr)
 |xd (fs:List (Str×V))
 |met (f x:Addr)
 |rng (lo hi:Int)
 |frz (o:Obj) (u:HO)
 |tbl (ps:Array Value)
 |ext (φ:Heap->Prop)
variable {u o:HO}
abbrev Hp:=Addr->Option HO
variable {H:Hp}
def upd(H:Hp)(a:Addr)(o:HO):Hp:=λb=>if b=a then some o else H b
theorem C0:upd H a o a=some o:=by grind [upd]
theorem M0(h:b≠a):upd H a o b=H b:=by unfold upd;rw[D0 h]
theorem V4:upd (upd H a o) a u=upd H a u:=by
 grind [upd]
theorem XE(h:H a=some o)(h':H b=some u)(d:o≠u):a≠b:=by
 intro e;grind
theorem C1(h:H a=some o)(h':H b=none):a≠b:=by
 intro e;grind
section
variable (P:Program)(w:World)
def k9(H:Hp)(h:Heap)(a:Addr):HO->Prop
 |.lst xs=>xs.length<=sizeLine/\∃(its:List Value)(n:Nat),k4 xs its/\h.get? a=some {cls:=.type "list",data:=.seq its.toArray n}
 |.tup xs=>xs.length<=sizeLine/\∃its:List Value,k4 xs its/\IsTup h a its.toArray
 |.dK kvs=>kvs.length<=sizeLine/\(a==sysModules)=false/\∃vs,KV kvs vs/\h.DictOf (O9 P w) a vs
 |.dT kvs=>kvs.length<=sizeLine/\(a==sysModules)=false/\∃xs:List (List MC×Addr×Value),
   Paired (λ(p:List MC×V)(q:List MC×Addr×Value)=>p.1=q.1/\H q.2.1=some (.tup (p.1.map kV))/\R4 p.2 q.2.2) kvs xs/\
   ∃o es ep,h.get? a=some o/\o.ExactDict/\o.data=.dict es ep/\es.toList=xs.map (entryOfKey (tupleKind (O9 P w)))/\(xs.map (·.1)).Nodup
 |.set S n=>h.SetOf (intKind P w) a S n
 |.ins C dx fs=>H dx=some (.own a)/\fs.length<=1000/\dx≠a/\h.get? a=some (instObj C dx)/\
   ∃mA,h.Ns1 dx mA/\(∀f,eG (fs.lookup f) (mA f))/\PySem.Within mA (fs.map (·.1))
 |.own _=>∃o,h.get? a=some o
 |.xd fs=>∃mA,h.Ns1 a mA/\(∀f,eG (fs.lookup f) (mA f))/\fs.length<=1000/\PySem.Within mA (fs.map (·.1))
 |.rng lo hi=>∃t u v,h.get? a=some {cls:=.type "range",data:=.fields #[.int lo t,.int hi u,.int 1 v]}
 |.frz o u=>h.get? a=some o/\k9 H h a u
 |.tbl ps=>h.get? a=some {cls:=.none,data:=.fields ps}
 |.met f x=>h.get? a=some (methodObj (.ref f) (.ref x))
 |.ext φ=>φ h/\(∃o,h.get? a=some o)/\∀h1 h2:Heap,φ h1->(∀o,h1.get? a=some o->h2.get? a=some o)->φ h2
def ZJ(H:Hp)(h:Heap):Prop:=∀a o,H a=some o->k9 P w H h a o
end
section
variable {H':Hp}
theorem k9.lt(x:k9 P w H h a o):a<h.objs.size:=by
 cases o with
 |lst xs=>obtain⟨_,_,_,_,e⟩:=x;exact F2 e
 |tup xs=>obtain⟨_,_,_,p⟩:=x;exact p.lt
 |dK kvs=>obtain⟨_,_,_,_,o,_,_,e,_⟩:=x;exact F2 e
 |dT kvs=>obtain⟨_,_,_,_,o,_,_,e,_⟩:=x;exact F2 e
 |set S n=>obtain⟨o,_,_,_,e,_⟩:=x;exact F2 e
 |ins C dx fs=>obtain⟨_,_,_,e,_⟩:=x;exact F2 e
 |own y=>obtain⟨_,e⟩:=x;exact F2 e
 |xd fs=>obtain⟨_,⟨_,_,_,e,_⟩,_⟩:=x;exact F2 e
 |rng lo hi=>obtain⟨_,_,_,e⟩:=x;exact F2 e
 |frz ob u=>obtain⟨e,_⟩:=x;exact F2 e
 |tbl ps=>exact F2 (show h.get? a=some _ from x)
 |met f y=>exact F2 (show h.get? a=some _ from x)
 |ext φ=>obtain⟨_,⟨_,e⟩,_⟩:=x;exact F2 e
theorem Paired.mapP{α β:Type}{F G:α->β->Prop}:∀{l₁:List α}{l₂:List β},Paired F l₁ l₂->(∀a b,F a b->G a b)->Paired G l₁ l₂
 |_,_,.nil,_=>.nil
 |_,_,.cons r t,f=>.cons (f _ _ r) (Paired.mapP t f)
theorem k9.stay(x:k9 P w H h a o)(k:∀b u,(b=a\/H b=some (.own a))->h.get? b=some u->h'.get? b=some u)
 (ho:∀b,H b=some (.own a)->H' b=some (.own a)) (ht:∀b xs,H b=some (.tup xs)->H' b=some (.tup xs)):k9 P w H' h' a o:=by
  induction o with
  |lst xs=>obtain⟨z,its,n,r,e⟩:=x;exact⟨z,its,n,r,k _ _ (.inl rfl) e⟩
  |tup xs=>obtain⟨z,its,r,ob,e,c⟩:=x;exact⟨z,its,r,ob,k _ _ (.inl rfl) e,c⟩
  |dK kvs=>obtain⟨z,y,vs,r,ob,es,ep,e,c⟩:=x;exact⟨z,y,vs,r,ob,es,ep,k _ _ (.inl rfl) e,c⟩
  |dT kvs=>
   obtain⟨z,y,xs,r,ob,es,ep,e,c⟩:=x;exact⟨z,y,xs,Paired.mapP r λp q z=>⟨z.1,ht _ _ z.2.1,z.2.2⟩,ob,es,ep,k _ _ (.inl rfl) e,c⟩
  |set S n=>obtain⟨ob,es,ep,t,e,c⟩:=x;exact⟨ob,es,ep,t,k _ _ (.inl rfl) e,c⟩
  |ins C dx fs=>
   obtain⟨d,z,ne,e,mA,⟨od,es,ep,e2,c⟩,r⟩:=x;exact⟨ho _ d,z,ne,k _ _ (.inl rfl) e,mA,⟨od,es,ep,k _ _ (.inr d) e2,c⟩,r⟩
  |own y=>obtain⟨ob,e⟩:=x;exact⟨ob,k _ _ (.inl rfl) e⟩
  |xd fs=>obtain⟨mA,⟨od,es,ep,e,c⟩,r⟩:=x;exact⟨mA,⟨od,es,ep,k _ _ (.inl rfl) e,c⟩,r⟩
  |rng lo hi=>obtain⟨t,u,v,e⟩:=x;exact⟨t,u,v,k _ _ (.inl rfl) e⟩
  |frz ob u ih=>obtain⟨e,q⟩:=x;exact⟨k _ _ (.inl rfl) e,ih q⟩
  |tbl ps=>
   have e:h.get? a=some {cls:=.none,data:=.fields ps}:=x;show h'.get? a=some {cls:=.none,data:=.fields ps};exact k a _ (.inl rfl) e
  |met f y=>
   have e:h.get? a=some (methodObj (.ref f) (.ref y)):=x;show h'.get? a=some (methodObj (.ref f) (.ref y));exact k a _ (.inl rfl) e
  |ext φ=>obtain⟨p,⟨o,e⟩,st⟩:=x;exact⟨st _ _ p λo q=>k _ _ (.inl rfl) q,⟨o,k _ _ (.inl rfl) e⟩,st⟩
theorem ZJ.lt(x:ZJ P w H h)(e:H a=some o):a<h.objs.size:=(x a o e).lt
theorem ZJ.fresh(x:ZJ P w H h)(e:h.objs.size<=a):H a=none:=by
 cases q:H a with
 |none=>rfl
 |some u=>exact absurd (O2 (x.lt q) e) (B5 _)
theorem ZJ.kept(x:ZJ P w H h)(k:∀b u,h.get? b=some u->h'.get? b=some u):ZJ P w H h':=λa o e=>
 (x a o e).stay (λb u _ q=>k b u q) (λ_ q=>q) λ_ _ q=>q
theorem ZJ.laid(x:ZJ P w H h)(k:∀b u,h.get? b=some u->h'.get? b=some u)(hp:h.objs.size<=a)(new:k9 P w (upd H a o) h' a o):ZJ P w (upd H a o) h':=λb u e=>by
 have hn:=x.fresh hp;by_cases hb:b=a
 .subst hb;grind [C0]
 .rw[M0 hb]at e;exact(x b u e).stay (λc v _ q=>k c v q) (λc q=>by rw[M0 (C1 q hn)];exact q) λc xs q=>by rw[M0 (C1 q hn)];exact q
end
def Rd(H:Hp)(a:Addr)(u:HO):Prop:=H a=some u\/∃o,H a=some (.frz o u)
theorem Rd.ok(r:Rd H a u)(x:ZJ P w H h):k9 P w H h a u:=by
 rcases r with r|⟨o,r⟩
 .exact x a u r
 .obtain⟨_,q⟩:=x a _ r;exact q
def Of:Option HO->Prop
 |some (.lst _)=>True
 |some (.dK _)=>True
 |some (.dT _)=>True
 |some (.set _ _)=>True
 |some (.ins _ _ _)=>True
 |some (.ext _)=>True
 |some (.xd _)=>True
 |_=>False
section
variable {o':HO}
theorem ZJ.write(ok:ZJ P w H h)(mu:Of (H x))(he:e=x\/H e=some (.own x))(k:∀b u,b≠e->h.get? b=some u->h'.get? b=some u)(heo:∃u,h'.get? e=some u)
 (new:k9 P w (upd H x o') h' x o'):ZJ P w (upd H x o') h':=λb u q=>by
  have zfe:∀c y,H c=some (.own y)->c≠x:=λc y r z=>by subst z;rw[r]at mu;exact mu
  have zhF:∀c xs,H c=some (.tup xs)->c≠x:=λc xs r z=>by subst z;rw[r]at mu;exact mu
  by_cases hb:b=x
  .subst hb;rw[C0]at q;grind
  .rw[M0 hb]at q;by_cases hbe:b=e
   .have q':H b=some (.own x):=by
     grind
    rw[q]at q';cases q';obtain⟨v,hv⟩:=heo;exact⟨v,by rw[hbe];exact hv⟩
   .refine(ok b u q).stay (λc v hc r=>k c v ?_ r) (λc r=>by rw[M0 (zfe c b r)];exact r) λc xs r=>by rw[M0 (zhF c xs r)];exact r
    rcases hc with rfl|hc
    .exact hbe
    .rintro rfl;rcases he with z|z
     .exact zfe c b hc z
     all_goals grind
end
structure Un(fs ex:List Addr)(H H':Hp)(h h':Heap):Prop where
 keep:∀b o,h.get? b=some o->H b=none->b∉fs->b∉ex->h'.get? b=some o
 slot:∀b o,h.get? b=some o->H b=none->b∈fs->b∉ex->∃sl,h'.get? b=some {o with slots:=sl}
 free:∀b o,h.get? b=some o->H b=none->b∉ex->H' b=none
 there:∀b o,h.get? b=some o->b∉ex->∃o',h'.get? b=some o'
 tups:∀b xs,H b=some (.tup xs)->H' b=some (.tup xs)
 frzs:∀b o u,H b=some (.frz o u)->H' b=some (.frz o u)
 tbls:∀b ps,H b=some (.tbl ps)->∃zdl,H' b=some (.tbl (ps++zdl))
section
variable {fs Dx ex ex':List Addr}{H1 H2:Hp}{h1 h2:Heap}
theorem Un.any(u:Un fs ex H H1 h h1){ob:Obj}(q:h.get? b=some ob) (n:H b=none) (hx:b∉ex):∃sl,h1.get? b=some {ob with slots:=sl}:=by
 by_cases hb:b∈fs
 .exact u.slot b ob q n hb hx
 .exact⟨ob.slots,u.keep b ob q n hb hx⟩
theorem Un.kept(k:∀b u,h.get? b=some u->h'.get? b=some u):Un fs ex H H h h':=
 ⟨λb ob q _ _ _=>k b ob q,λb ob q _ _ _=>⟨ob.slots,k b ob q⟩,λ_ _ _ n _=>n,λb ob q _=>⟨ob,k b ob q⟩,λ_ _ q=>q,λ_ _ _ q=>q,λ_ ps q=>⟨#[],by rw[q];simp⟩⟩
theorem Un.refl:Un fs ex H H h h:=Un.kept λ_ _ q=>q
theorem Un.laid(k:∀b u,h.get? b=some u->h'.get? b=some u)(hp:h.objs.size<=a)(hn:H a=none):Un fs ex H (upd H a o) h h' where
 keep:=λb u q _ _ _=>k b u q
 slot:=λb u q _ _ _=>⟨u.slots,k b u q⟩
 free:=λb u q n _=>by rw[M0 (j3 (O2 (F2 q) hp))];exact n
 there:=λb u q _=>⟨u,k b u q⟩
 tups:=λb xs q=>by rw[M0 (C1 q hn)];exact q
 frzs:=λb u xs q=>by rw[M0 (C1 q hn)];exact q
 tbls:=λb ps q=>⟨#[],by rw[M0 (C1 q hn),q];simp⟩
theorem Un.write(mu:Of (H x))(he:e=x\/H e=some (.own x))(k:∀b u,b≠e->h.get? b=some u->h'.get? b=some u)(heo:∃u,h'.get? e=some u):Un fs ex H (upd H x o) h h':=by
 have hx:∀b,H b=none->b≠x:=λb n z=>by subst z;rw[n]at mu;exact mu
 have hb:∀b,H b=none->b≠e:=λb n z=>by
  grind
 have hm:∀b u,H b=some u->¬Of (some u)->b≠x:=λb u q nm z=>by grind
 refine⟨λb u q n _ _=>k b u (hb b n) q,λb u q n _ _=>⟨u.slots,k b u (hb b n) q⟩,λb u q n _=>by rw[M0 (hx b n)];exact n,λb u q _=>?_,
  λb xs q=>by rw[M0 (hm b _ q λz=>z)];exact q,λb u xs q=>by rw[M0 (hm b _ q λz=>z)];exact q,λb ps q=>⟨#[],by rw[M0 (hm b _ q λz=>z),q];simp⟩⟩
 by_cases hbe:b=e
 all_goals grind
end
def trk(h:Heap)(H:Hp):List Addr:=(List.range h.objs.size).filter λa=>(H a).isSome
def HX(h:Heap)(H:Hp):Heap:=PySem.W.hideAll h (trk h H)
theorem Xn(h:Heap)(H:Hp):(HX h H).objs.size=h.objs.size:=PySem.W.hideAll_size _ _
theorem Ds{o:Obj}(e:h.get? b=some o) (n:H b=none):(HX h H).get? b=some o:=
 PySem.W.hideAll_get _ e λhm=>by
  have q:(H b).isSome=true:=(O4.mp hm).2;grind
theorem Oy{o:Obj}(e:(HX h H).get? b=some o):h.get? b=some o/\H b=none:=by
 have e':h.get? b=some o:=PySem.W.of_hideAll (trk h H) e;refine⟨e',?_⟩;cases q:H b with
 |none=>rfl
 |some x=>
  have hm:b∈trk h H:=O4.mpr ⟨j6.mpr (F2 e'),by simp[q]⟩;have z:(HX h H).get? b=none:=PySem.W.hideAll_none (trk h H) hm;grind
def Py(g h:Heap)(L:Addr):List (Addr×Obj):=(List.range h.objs.size).filterMap λa=>if a=L\/(g.get? a).isSome=true then none else(h.get? a).map λo=>(a,o)
def N7(g h:Heap)(L d:Addr):List (Addr×Obj):=(Py g h L).filter λp=>decide (p.1≠d)
end L2
namespace L2
open PySem PySem.Spec PyProof.Rows
variable {a:Addr}{A:Around}{g':Array GenState}{d':Drawn}{o:HO}{ch:List Addr}{M:Model}{t' i:Nat}{s:Shared}{x:Str}{Q:Unit->Shared->Prop}{v:V}{u:Value}{E:Value->Shared->Prop}
structure Mod(K:Frag)(mg:Str->Option Value)(base:Heap):Prop where
 kin:K.In base
 glob:base.Ns mainGlobals mg
 blt:∃mb,base.Ns builtinsNs mb/\∀x:Str,x ≠ "__name__" -> mb x=bootBuiltins x
 nolimit:base.NoLimit
structure Cx where
 prog:Program
 w:World
 K:Frag
 mg:Str->Option Value
 base:Heap
 A:Around
 N:List Str
 s_0:Shared
 H_0:Hp
 env:Env
 outer:List Env
 stack:List Env
 ex:List Addr
 fn:Str->Bool
 calm:Bool
 pn:List (Addr×Obj)
 xe:Value->Shared->Prop
variable {X:Cx}
def Pj(l:List Env):List Addr:=l.filterMap (·.frame)
abbrev Cx.fs(X:Cx):List Addr:=Pj X.outer
def Vis(sc:Scope)(x:Str):Prop:=sc.names.lookup x=some .local\/sc.names.lookup x=some .cell\/sc.names.lookup x=some .free
def Loc(sc:Scope)(x:Str):Prop:=sc.names.lookup x=some .local\/sc.names.lookup x=some .cell
def zhc(env:Env)(h:Heap)(m:Str->Option Value)(x:Str)(u:Value):Prop:=
 (env.kindOf x=some .local/\m x=some u)\/((env.kindOf x=some .cell\/env.kindOf x=some .free)/\∃c,env.cells.lookup x=some c/\h.IsCell c (some u))
structure Cx.Ok(X:Cx):Prop where
 mod:Mod X.K X.mg X.base
 kind:X.env.scope.kind=.function
 glob:X.env.globals=mainGlobals
 blt:X.env.builtins=builtinsNs
 above:X.s_0.heap.objs.size<=X.env.locals
 inj:∀x y c,X.env.cells.lookup x=some c->X.env.cells.lookup y=some c->x=y
 has:∀x,(X.env.kindOf x=some .cell\/X.env.kindOf x=some .free)->∃c,X.env.cells.lookup x=some c
 cab:∀x c,X.fn x=true->X.env.cells.lookup x=some c->X.s_0.heap.objs.size<=c
 hd:X.calm=true->X.A.handled=none
 frames:X.A.frames=some X.stack
 stk:X.stack=X.outer\/(X.stack=X.env::X.outer/\X.env.frame=some X.env.locals)
 exf:∀b∈X.ex,b≠X.env.locals/\∀x c,X.env.cells.lookup x=some c->c≠b
 bs:∀b o,X.base.get? b=some o->X.s_0.heap.get? b=some o/\X.H_0 b=none
 bsz:X.base.objs.size<=X.s_0.heap.objs.size
 noex:∀b o,X.base.get? b=some o->b∉X.ex
 exfs:∀b∈X.ex,b∉X.fs
 funs:X.s_0.heap.FunFrames X.base X.outer
 frf:∀b∈X.fs,X.H_0 b=none
structure V2(X:Cx)(pins:List (Addr×Obj))(σ:List (Option V))(H:Hp)(s:Shared):Prop where
 ok:X.Ok
 os:s.os=X.s_0.os
 bare:AllBare s.gens
 base:Un X.fs X.ex X.H_0 H X.s_0.heap s.heap
 loc:∃m,s.heap.Ns X.env.locals m/\∀(i:Nat)(x:Str)(v:V),X.N[i]?=some x->σ[i]?=some (some v)->Vis X.env.scope x->∃u,R4 v u/\zhc X.env s.heap m x u
 cell:∀x c,X.env.cells.lookup x=some c->∃v,s.heap.IsCell c v
 free:H X.env.locals=none
 freeC:∀x c,X.env.cells.lookup x=some c->H c=none
 pin:∀p∈X.pn++pins,s.heap.get? p.1=some p.2/\H p.1=none/\p.1≠X.env.locals/\p.1∉X.fs/\∀v,p.2.data≠.cell v
 hok:ZJ X.prog X.w H s.heap
 len:σ.length=X.N.length
section
variable {pins:List (Addr×Obj)}{σ:List (Option V)}{H H':Hp}{h':Heap}
theorem Cx.Ok.nofr(ok:X.Ok){b:Addr}{o:Obj}(e:X.base.get? b=some o):b∉X.fs:=λhb=>by
 have:=(ok.funs.mem hb).1;grind
theorem V2.bs(I:V2 X pins σ H s):∀b o,X.base.get? b=some o->s.heap.get? b=some o/\H b=none:=λb o e=>
 ⟨I.base.keep b o (I.ok.bs b o e).1 (I.ok.bs b o e).2 (I.ok.nofr e) (I.ok.noex b o e),I.base.free b o (I.ok.bs b o e).1 (I.ok.bs b o e).2 (I.ok.noex b o e)⟩
theorem V2.bk(I:V2 X pins σ H s):∀b o,X.base.get? b=some o->s.heap.get? b=some o:=λb o e=>(I.bs b o e).1
theorem V2.mod(I:V2 X pins σ H s):Mod X.K X.mg X.base:=I.ok.mod
theorem V2.kIn(I:V2 X pins σ H s):X.K.In s.heap:=I.ok.mod.kin.keeps I.bk
theorem V2.lt(I:V2 X pins σ H s):X.env.locals<s.heap.objs.size:=let ⟨_,hn,_⟩:=I.loc;hn.lt
theorem V2.sz(I:V2 X pins σ H s):X.s_0.heap.objs.size<=s.heap.objs.size:=d4 I.ok.above (eJ I.lt)
theorem V2.nofs(I:V2 X pins σ H s)(h:s.heap.objs.size<=a):a∉X.fs:=λhb=>by
 obtain⟨_,o,ho,_⟩:=I.ok.funs.mem hb;exact absurd (O2 (F2 ho) (d4 I.sz h)) (B5 _)
theorem V2.cne(I:V2 X pins σ H s):∀x c,X.env.cells.lookup x=some c->c≠X.env.locals:=λx c e z=>by
 obtain⟨v,o,ho,hd⟩:=I.cell x c e;obtain⟨m,⟨o',es,ep,En,hd',_⟩,_⟩:=I.loc;grind
theorem V2.funs(I:V2 X pins σ H s):s.heap.FunFrames X.base X.outer:=by
 have all:∀(l:List Env),(∀b∈Pj l,b∈X.fs)->X.s_0.heap.FunFrames X.base l->s.heap.FunFrames X.base l:=by
  intro l
  induction l with
  |nil=>intro _ _;trivial
  |cons env r ih=>
   intro hs hl;obtain⟨hk,⟨L,o,hf,hn,ho,hd⟩,hr⟩:=hl;have hL:L∈X.fs:=hs L (by unfold Pj;rw[FF,hf];exact S4);obtain⟨sl,e⟩:=I.base.slot L o ho (I.ok.frf L hL) hL λz=>I.ok.exfs L z hL;exact⟨hk,⟨L,_,hf,hn,e,hd⟩,ih (λb hb=>hs b (by unfold Pj;rw[FF,hf];exact o3 _ hb)) hr⟩
 exact all X.outer (λ_ hb=>hb) I.ok.funs
theorem V2.stack(I:V2 X pins σ H s):s.heap.FunFrames X.base X.stack:=by
 rcases I.ok.stk with e|⟨e,hf⟩
 .rw[e];exact I.funs
 .rw[e];obtain⟨m,hn,_⟩:=I.loc;refine .cons (by rw[I.ok.kind];decide) hf hn ?_ I.funs;exact Heap.get?_none_of_le (d4 I.ok.bsz I.ok.above)
theorem V2.stkSub(I:V2 X pins σ H s):∀b∈Pj X.stack,b∈X.env.locals::X.fs:=λb hb=>by
 rcases I.ok.stk with e|⟨e,hf⟩
 .grind
 .rw[e]at hb;unfold Pj at hb;rw[FF,hf]at hb;exact hb
theorem V2.stkFree(I:V2 X pins σ H s):∀b∈Pj X.stack,H b=none:=λb hb=>by
 rcases S1.mp (I.stkSub b hb)with e|hb
 .rw[e];exact I.free
 .obtain⟨_,o,ho,_⟩:=I.ok.funs.mem hb;exact I.base.free b o ho (I.ok.frf b hb) λz=>I.ok.exfs b z hb
theorem V2.step(I:V2 X pins σ H s)
 (Fy:∀b∈ch,(b∈X.ex\/X.s_0.heap.objs.size<=b)/\b≠X.env.locals/\(∀x c,X.env.cells.lookup x=some c->c≠b)/\∀p∈X.pn++pins,p.1≠b)
 (keep:∀b o,b≠X.env.locals->b∉X.fs->b∉ch->s.heap.get? b=some o->H b=none->h'.get? b=some o)
 (slot:∀b o,b≠X.env.locals->b∈X.fs->b∉ch->s.heap.get? b=some o->H b=none->∃sl,h'.get? b=some {o with slots:=sl}) (free:∀b o,b∉ch->s.heap.get? b=some o->H b=none->H' b=none)
 (there:∀b o,b∉ch->s.heap.get? b=some o->∃o',h'.get? b=some o')
 (tups:∀b xs,H b=some (.tup xs)->H' b=some (.tup xs)) (frzs:∀b o u,H b=some (.frz o u)->H' b=some (.frz o u)) (tbls:∀b ps,H b=some (.tbl ps)->∃zdl,H' b=some (.tbl (ps++zdl)))
 (ns:∀m,s.heap.Ns X.env.locals m->h'.Ns X.env.locals m) (hok:ZJ X.prog X.w H' h') (hg:AllBare g') :
   V2 X pins σ H' {s with heap:=h',gens:=g',drawn:=d',toks:=t'}:=by
  have neL:∀b o,X.s_0.heap.get? b=some o->b≠X.env.locals:=λb o e=>j3 (O2 (F2 e) I.ok.above);have neC:∀b o,X.s_0.heap.get? b=some o->b∉X.ex->b∉ch:=λb o e hx hb=>by
   rcases(Fy b hb).1 with z|z
   .exact hx z
   .exact absurd (O2 (F2 e) z) (B5 _)
  have zbw:∀x c,X.env.cells.lookup x=some c->∀v,s.heap.IsCell c v->h'.IsCell c v:=λx c e v ⟨o,ho,hd⟩=>by
   have nch:c∉ch:=λz=>(Fy c z).2.2.1 x c e rfl;by_cases hc:c∈X.fs
   .obtain⟨sl,q⟩:=slot c o (I.cne x c e) hc nch ho (I.freeC x c e);exact⟨_,q,hd⟩
   .exact⟨o,keep c o (I.cne x c e) hc nch ho (I.freeC x c e),hd⟩
  refine⟨I.ok,I.os,hg,⟨λb o e n hb hx=>?_,λb o e n hb hx=>?_,λb o e n hx=>?_,λb o e hx=>?_,λb xs e=>tups b xs (I.base.tups b xs e),λb o xs e=>frzs b o xs (I.base.frzs b o xs e),λb ps e=>?_⟩,?_,λx c e=>?_,?_,λx c e=>?_,λp hp=>?_,hok,I.len⟩
  .exact keep b o (neL b o e) hb (neC b o e hx) (I.base.keep b o e n hb hx) (I.base.free b o e n hx)
  .obtain⟨sl,e1⟩:=I.base.slot b o e n hb hx;obtain⟨sl',e2⟩:=slot b _ (neL b o e) hb (neC b o e hx) e1 (I.base.free b o e n hx);exact⟨sl',e2⟩
  .obtain⟨o',e1⟩:=I.base.there b o e hx;exact free b o' (neC b o e hx) e1 (I.base.free b o e n hx)
  .obtain⟨o',e1⟩:=I.base.there b o e hx;exact there b o' (neC b o e hx) e1
  .obtain⟨m1,e1⟩:=I.base.tbls b ps e;obtain⟨m2,e2⟩:=tbls b _ e1;exact⟨m1++m2,by rw[e2,Array.append_assoc]⟩
  .obtain⟨m,hn,hl⟩:=I.loc;refine⟨m,ns m hn,λi x v e1 e2 e3=>?_⟩;obtain⟨u,r,l⟩:=hl i x v e1 e2 e3;refine⟨u,r,?_⟩;rcases l with l|⟨k,c,e,z⟩
   .exact .inl l
   .exact .inr ⟨k,c,e,zbw x c e _ z⟩
  .obtain⟨v,z⟩:=I.cell x c e;exact⟨v,zbw x c e v z⟩
  .obtain⟨m,⟨o,_,_,ho,_⟩,_⟩:=I.loc;exact free _ o (λz=>(Fy _ z).2.1 rfl) ho I.free
  .obtain⟨v,o,ho,hd⟩:=I.cell x c e;exact free c o (λz=>(Fy c z).2.2.1 x c e rfl) ho (I.freeC x c e)
  .obtain⟨e,n,ne,nf,d⟩:=I.pin p hp;have nch:p.1∉ch:=λz=>(Fy p.1 z).2.2.2 p hp rfl;exact⟨keep p.1 p.2 ne nf nch e n,free p.1 p.2 nch e n,ne,nf,d⟩
theorem V2.un(I:V2 X pins σ H s)(u:Un X.fs [] H H' s.heap h')(hok:ZJ X.prog X.w H' h'):V2 X pins σ H' {s with heap:=h',toks:=t'}:=by
 obtain⟨m,⟨o,es,ep,ho,r⟩,_⟩:=id I.loc;obtain⟨sl,hL⟩:=u.any ho I.free (by simp);exact I.step (g':=s.gens) (d':=s.drawn) (ch:=[]) (λ_ z=>nomatch z) (λb o _ hb _ e n=>u.keep b o e n hb (by simp)) (λb o _ hb _ e n=>u.slot b o e n hb (by simp)) (λb o _ e n=>u.free b o e n (by simp)) (λb o _ e=>u.there b o e (by simp)) u.tups u.frzs u.tbls (λm' hm=>by
  obtain⟨o',es',ep',En,r'⟩:=hm;rw[ho]at En;cases En;exact⟨_,es',ep',hL,r'⟩) hok I.bare
theorem V2.call(I:V2 X pins σ H s)(u:Un (Pj X.stack) ch H H' s.heap h')(hok:ZJ X.prog X.w H' h')(hg:AllBare g')
 (Fy:∀b∈ch,(b∈X.ex\/X.s_0.heap.objs.size<=b)/\b≠X.env.locals/\(∀x c,X.env.cells.lookup x=some c->c≠b)/\∀p∈X.pn++pins,p.1≠b) :
   V2 X pins σ H' {s with heap:=h',gens:=g',drawn:=d',toks:=t'}:=by
  obtain⟨m,⟨o,es,ep,ho,r⟩,_⟩:=id I.loc;obtain⟨sl,hL⟩:=u.any ho I.free λz=>(Fy _ z).2.1 rfl;exact I.step (ch:=ch) Fy (λb o hL hb hc e n=>u.keep b o e n (λz=>(S1.mp (I.stkSub b z)).elim hL hb) hc) (λb o _ _ hc e n=>u.any e n hc) (λb o hc e n=>u.free b o e n hc) (λb o hc e=>u.there b o e hc) u.tups u.frzs u.tbls (λm' hm=>by
   obtain⟨o',es',ep',En,r'⟩:=hm;rw[ho]at En;cases En;exact⟨_,es',ep',hL,r'⟩) hok hg
theorem V2.turned{it:Addr}(I:V2 X pins σ H s) (k:∀b o,b≠it->s.heap.get? b=some o->h'.get? b=some o) (hn:H it=none) (hL:it≠X.env.locals)
 (h1:it∈X.ex\/X.s_0.heap.objs.size<=it) (h2:∀x c,X.env.cells.lookup x=some c->c≠it) (h3:∀p∈X.pn++pins,p.1≠it):V2 X pins σ H {s with heap:=h',toks:=t'}:=by
  have nit:∀b u,H b=some u->b≠it:=λb u e z=>by grind
  refine I.step (g':=s.gens) (d':=s.drawn) (ch:=[it]) (λb hb=>?_) (λb o _ _ hc e _=>k b o (λz=>hc (by simp[z])) e) (λb o _ _ hc e _=>⟨o.slots,k b o (λz=>hc (by simp[z])) e⟩) (λ_ _ _ _ n=>n)
   (λb o hc e=>⟨o,k b o (λz=>hc (by simp[z])) e⟩) (λ_ _ e=>e) (λ_ _ _ e=>e) (λb ps e=>⟨#[],by rw[e];simp⟩) (λm hm=>?_) (λb u e=>?_) I.bare
  .have e:b=it:=by simpa using hb
   subst e;exact⟨h1,hL,h2,h3⟩
  .obtain⟨o,es,ep,ho,r⟩:=hm;exact⟨o,es,ep,k _ o (K2 hL) ho,r⟩
  .refine(I.hok b u e).stay (λc v hc q=>k c v ?_ q) (λ_ q=>q) λ_ _ q=>q;rcases hc with z|z
   all_goals grind
theorem V2.tok(I:V2 X pins σ H s)(t:Nat):V2 X pins σ H {s with toks:=t}:=I.un (h':=s.heap) (t':=t) Un.refl I.hok
theorem V2.kept(I:V2 X pins σ H s)(k:∀b u,s.heap.get? b=some u->h'.get? b=some u):V2 X pins σ H {s with heap:=h',toks:=t'}:=I.un (Un.kept k) (I.hok.kept k)
theorem V2.laid(I:V2 X pins σ H s)(k:∀b u,s.heap.get? b=some u->h'.get? b=some u)(hp:s.heap.objs.size<=a)(new:k9 X.prog X.w (upd H a o) h' a o) :
  V2 X pins σ (upd H a o) {s with heap:=h',toks:=t'}:=I.un (Un.laid k hp (I.hok.fresh hp)) (I.hok.laid k hp new)
theorem V2.write{x e:Addr}(I:V2 X pins σ H s) (mu:Of (H x)) (he:e=x\/H e=some (.own x)) (k:∀b u,b≠e->s.heap.get? b=some u->h'.get? b=some u) (heo:∃u,h'.get? e=some u)
 (new:k9 X.prog X.w (upd H x o) h' x o):V2 X pins σ (upd H x o) {s with heap:=h',toks:=t'}:=I.un (Un.write mu he k heo) (I.hok.write mu he k heo new)
theorem V2.weak{σ':List (Option V)}(I:V2 X pins σ H s) (hl:σ'.length=σ.length) (w:∀(i:Nat) v,σ'[i]?=some (some v)->σ[i]?=some (some v)):V2 X pins σ' H s:=
 ⟨I.ok,I.os,I.bare,I.base,let ⟨m,hn,Fn⟩:=I.loc;⟨m,hn,λi x v e1 e2 e3=>Fn i x v e1 (w i v e2) e3⟩,I.cell,I.free,I.freeC,I.pin,I.hok,hl.trans I.len⟩
theorem V2.pins_of{Xe:List (Addr×Obj)}(I:V2 X pins σ H s) (h:∀p∈Xe,s.heap.get? p.1=some p.2/\H p.1=none/\p.1≠X.env.locals/\p.1∉X.fs/\∀v,p.2.data≠.cell v):V2 X Xe σ H s:=
 ⟨I.ok,I.os,I.bare,I.base,I.loc,I.cell,I.free,I.freeC,λp hp=>(N2.mp hp).elim (λz=>I.pin p (n6 _ z)) (h p),I.hok,I.len⟩
theorem sN{N:List Str}(hN:N.Nodup) {j:Nat}(a:N[i]?=some x) (b:N[j]?=some x):i=j:=by
 obtain⟨h1,e1⟩:=N0.mp a;obtain⟨h2,e2⟩:=N0.mp b;exact(ZB hN).mp (e1.trans e2.symm)
theorem fW(I:V2 X pins σ H s)(hN:X.N.Nodup)(hi:X.N[i]?=some x)(hx:Loc X.env.scope x)(r:R4 v u)
 (h:∀s',V2 X pins (σ.set i (some v)) H s'->(∃a,Heap.SameBut a s.heap s'.heap/\(a=X.env.locals\/X.env.cells.lookup x=some a))->Q () s') (hf:X.fn x=true\/X.env.scope.names.lookup x=some .local:=by first|exact .inl rfl|exact .inr rfl|assumption):wpAny M A (storeName X.env x u) Q E s:=by
  obtain⟨m,hn,hl⟩:=id I.loc;have zdm:(X.env.scope.kind == .class||(X.env.scope.kind == .module&&X.env.locals != X.env.globals))=false:=by rw[I.ok.kind];rfl
  have hiσ:i<σ.length:=by rw[I.len];exact(N0.mp hi).1
  have cne:=I.cne;have Gn:∀{a:Addr}{h':Heap},(∃o,s.heap.get? a=some o/\H a=none)->Heap.SameBut a s.heap h'->ZJ X.prog X.w H h':=λ{a h'} ha hs b ob e=>by
   obtain⟨_,_,Jn⟩:=ha;refine(I.hok b ob e).stay (λc w' hc q=>(hs.2 c ?_).trans q) (λ_ q=>q) λ_ _ q=>q;rintro rfl;grind
  rcases hx with hk|hk
  .refine wpAny_storeName_local hk hn (λh' hn' hs=>?_) zdm;obtain⟨oL,_,_,hoL,_⟩:=id hn;refine h _ ⟨I.ok,I.os,I.bare,⟨λb o e n hb hx=>?_,λb o e n hb hx=>?_,I.base.free,λb o e hx=>?_,I.base.tups,I.base.frzs,I.base.tbls⟩,⟨_,hn',λj y v' e1 e2 e3=>?_⟩,λy c e=>?_,I.free,I.freeC,λp hp=>?_,Gn ⟨oL,hoL,I.free⟩ hs,by simpa using I.len⟩ ⟨_,hs,.inl rfl⟩
   .exact(hs.2 b (j3 (O2 (F2 e) I.ok.above))).trans (I.base.keep b o e n hb hx)
   .obtain⟨sl,e1⟩:=I.base.slot b o e n hb hx;exact⟨sl,(hs.2 b (j3 (O2 (F2 e) I.ok.above))).trans e1⟩
   .obtain⟨o',e1⟩:=I.base.there b o e hx;exact⟨o',(hs.2 b (j3 (O2 (F2 e) I.ok.above))).trans e1⟩
   .by_cases hj:j=i
    .subst hj;rw[hi]at e1;cases e1;rw[K6 hiσ]at e2;cases e2;exact⟨u,r,.inl ⟨hk,by simp⟩⟩
    .rw[S8 (K2 hj)]at e2;obtain⟨u',r',q⟩:=hl j y v' e1 e2 e3;refine⟨u',r',?_⟩;rcases q with⟨k,e⟩|⟨k,c,e,z⟩
     .refine .inl ⟨k,?_⟩;have:y≠x:=λe=>hj (sN hN e1 (e ▸ hi));grind
     .exact .inr ⟨k,c,e,z.sameBut hs (cne y c e)⟩
   .obtain⟨w',z⟩:=I.cell y c e;exact⟨w',z.sameBut hs (cne y c e)⟩
   .obtain⟨e,n,ne,nf,d⟩:=I.pin p hp;exact⟨(hs.2 p.1 ne).trans e,n,ne,nf,d⟩
  .have hfn:X.fn x=true:=by
    grind
   obtain⟨c,hc⟩:=I.ok.has x (.inl hk);obtain⟨w',z⟩:=I.cell x c hc;refine wpAny_storeName_cell I.ok.kind hk hc z (λh' hc' hs=>?_);obtain⟨oc,hoc,zla⟩:=id z;refine h {s with heap:=h'} ⟨I.ok,I.os,I.bare,⟨λb o e n hb hx=>?_,λb o e n hb hx=>?_,I.base.free,λb o e hx=>?_,I.base.tups,I.base.frzs,I.base.tbls⟩,⟨m,hn.sameBut hs (K2 (cne x c hc)),λj y v' e1 e2 e3=>?_⟩,λy c' e=>?_,I.free,I.freeC,λp hp=>?_,Gn ⟨oc,hoc,I.freeC x c hc⟩ hs,by simpa using I.len⟩ ⟨c,hs,.inr hc⟩
   .exact(hs.2 b (j3 (O2 (F2 e) (I.ok.cab x c hfn hc)))).trans (I.base.keep b o e n hb hx)
   .obtain⟨sl,e1⟩:=I.base.slot b o e n hb hx;exact⟨sl,(hs.2 b (j3 (O2 (F2 e) (I.ok.cab x c hfn hc)))).trans e1⟩
   .obtain⟨o',e1⟩:=I.base.there b o e hx;exact⟨o',(hs.2 b (j3 (O2 (F2 e) (I.ok.cab x c hfn hc)))).trans e1⟩
   .by_cases hj:j=i
    .subst hj;rw[hi]at e1;cases e1;rw[K6 hiσ]at e2;cases e2;exact⟨u,r,.inr ⟨.inl hk,c,hc,hc'⟩⟩
    .rw[S8 (K2 hj)]at e2;obtain⟨u',r',q⟩:=hl j y v' e1 e2 e3;refine⟨u',r',?_⟩;rcases q with q|⟨k,c',e,z'⟩
     .exact .inl q
     .refine .inr ⟨k,c',e,z'.sameBut hs ?_⟩;rintro rfl;exact hj (sN hN e1 (I.ok.inj _ _ _ e hc ▸ hi))
   .by_cases hcc:c'=c
    .subst hcc;exact⟨_,hc'⟩
    .obtain⟨w2,z2⟩:=I.cell y c' e;exact⟨w2,z2.sameBut hs hcc⟩
   .obtain⟨e,n,ne,nf,d⟩:=I.pin p hp;refine⟨(hs.2 p.1 ?_).trans e,n,ne,nf,d⟩;intro q;grind
theorem LK(I:V2 X pins σ H s)(hN:X.N.Nodup)(hi:X.N[i]?=some x)(hx:Loc X.env.scope x)(r:R4 v u)
 (h:∀s',V2 X pins (σ.set i (some v)) H s'->Q () s') (hf:X.fn x=true\/X.env.scope.names.lookup x=some .local:=by first|exact .inl rfl|exact .inr rfl|assumption):wpAny M A (storeName X.env x u) Q E s:=
  fW I hN hi hx r (λs' I' _=>h s' I') hf
theorem V2.call'{s':Shared}(I:V2 X pins σ H s) (ho:s'.os=s.os) (u:Un (Pj X.stack) ch H H' s.heap s'.heap) (hok:ZJ X.prog X.w H' s'.heap) (hg:AllBare s'.gens)
 (Fy:∀b∈ch,(b∈X.ex\/X.s_0.heap.objs.size<=b)/\b≠X.env.locals/\(∀x c,X.env.cells.lookup x=some c->c≠b)/\∀p∈X.pn++pins,p.1≠b):V2 X pins σ H' s':=by
  obtain⟨h',g',d',t',o'⟩:=s';have e:o'=s.os:=ho;subst e;exact I.call (g':=g') (t':=t') (d':=d') u hok hg Fy
end
abbrev XK:=Addr×Bool->Option Addr->Hp->Prop
abbrev St:=List (Option V)
abbrev VK:=V->Hp->Prop
abbrev TE:=St->Hp->VK->Prop
abbrev TT:=St->Hp->(Bool->Hp->Prop)->Prop
abbrev TA:=St->Hp->(List V->Hp->Prop)->Prop
structure MK where
 nx:St->Hp->Prop
 rt:VK
 bk:St->Hp->Prop:=λ_ _=>False
 ct:St->Hp->Prop:=λ_ _=>False
abbrev TS:=MK->St->Hp->Prop
inductive EP(X:Cx)(pins:List (Addr×Obj))(σ:St)(Q:VK)(u:Value)(s':Shared):Prop
 |mk (v:V) (H':Hp):V2 X pins σ H' s'->R4 v u->Q v H'->EP X pins σ Q u s'
inductive TP(X:Cx)(pins:List (Addr×Obj))(σ:St)(Q:Bool->Hp->Prop)(b:Bool)(s':Shared):Prop
 |mk (H':Hp):V2 X pins σ H' s'->Q b H'->TP X pins σ Q b s'
inductive AP(X:Cx)(pins:List (Addr×Obj))(σ:St)(Q:List V->Hp->Prop)(us:List Value)(s':Shared):Prop
 |mk (vs:List V) (H':Hp):V2 X pins σ H' s'->k4 vs us->Q vs H'->AP X pins σ Q us s'
inductive SQ(X:Cx)(pins:List (Addr×Obj))(Q:St->Hp->Prop)(s':Shared):Prop
 |mk (σ':St) (H':Hp):V2 X pins σ' H' s'->Q σ' H'->SQ X pins Q s'
def SP(X:Cx)(pins:List (Addr×Obj))(D:MK)(f:Flow)(s':Shared):Prop:=
 match f with
 |.next=>SQ X pins D.nx s'
 |.brk=>SQ X pins D.bk s'
 |.cont=>SQ X pins D.ct s'
 |.ret u=>∃v σ' H',V2 X pins σ' H' s'/\R4 v u/\D.rt v H'
def PE(X:Cx)(e:Expr)(t:TE):Prop:=
 ∀(pins:List (Addr×Obj))(s:Shared)(σ:St)(H:Hp)(Q:VK),V2 X pins σ H s->t σ H Q->wpAny (model X.prog X.w) X.A (eval e X.env) (EP X pins σ Q) X.xe s
def PT(X:Cx)(e:Expr)(t:TT):Prop:=
 ∀(pins:List (Addr×Obj))(s:Shared)(σ:St)(H:Hp)(Q:Bool->Hp->Prop),V2 X pins σ H s->t σ H Q->wpAny (model X.prog X.w) X.A (isTrue e X.env (eval e X.env)) (TP X pins σ Q) X.xe s
def PW(X:Cx)(e:Expr)(t:TT):Prop:=
 ∀(Kn:Sem Value)(pins:List (Addr×Obj))(s:Shared)(σ:St)(H:Hp)(Q:Bool->Hp->Prop),V2 X pins σ H s->t σ H Q->wpAny (model X.prog X.w) X.A (isTrue e X.env Kn) (TP X pins σ Q) X.xe s
theorem PW.pt{e:Expr}{t:TT}(h:PW X e t):PT X e t:=h _
def PA(X:Cx)(es:List Expr)(t:TA):Prop:=
 ∀(pos:Pos)(pins:List (Addr×Obj))(s:Shared)(σ:St)(H:Hp)(Q:List V->Hp->Prop),V2 X pins σ H s->t σ H Q->wpAny (model X.prog X.w) X.A (spliced (backTo pos (starEach es X.env))) (AP X pins σ Q) X.xe s
def PS(X:Cx)(st:Stmt)(t:TS):Prop:=
 ∀(pins:List (Addr×Obj))(s:Shared)(σ:St)(H:Hp)(D:MK),V2 X pins σ H s->t D σ H->wpAny (model X.prog X.w) X.A (exec st X.env) (SP X pins D) X.xe s
def Nr(X:Cx)(st:List Stmt)(t:TS):Prop:=
 ∀(pins:List (Addr×Obj))(s:Shared)(σ:St)(H:Hp)(D:MK),V2 X pins σ H s->t D σ H->wpAny (model X.prog X.w) X.A (execs st X.env) (SP X pins D) X.xe s
theorem i8{α:Type}{t:Sem α}{Q Q':α->Shared->Prop}(h:wpAny M A t Q E s) (hQ:∀a s,Q a s->Q' a s):wpAny M A t Q' E s:=L5 h hQ λ_ _ x=>x
end L2
namespace L2
open PySem PySem.Spec PyProof.Rows
variable {H:Hp}{pins:List (Addr×Obj)}{pos:Pos}{s:Shared}{σ:St}{x:Str}{t:TE}{u:Value}{E Q:Value->Shared->Prop}
section
variable {X:Cx}
inductive OF(i:Nat)(σ:St)(H:Hp)(Q:VK):Prop
 |mk (v:_):σ[i]?=some (some v)->Q v H->OF i σ H Q
def tC(v:V):TE:=λ_ H Q=>Q v H
theorem zb3{i:Nat}(hN:X.N[i]?=some x) (hv:Vis X.env.scope x) (hd:(x==("__debug__": Str))=false:=by decide) (Vr:(x==("__classdict__": Str))=false:=by decide):PE X (.Name x pos) (OF i):=by
 intro pins s σ H Q I h;obtain⟨v,e,h⟩:=h;obtain⟨m,hn,hl⟩:=I.loc;obtain⟨u,r,l⟩:=hl i x v hN e hv;have fin:EP X pins σ Q u s:=⟨v,H,I,r,h⟩
 rcases l with⟨hk,hm⟩|⟨hk,c,hc,Ln⟩
 .exact wpAny_Name (wpAny_loadName_local I.ok.kind hk hn hm fin) hd
 .rcases hk with hk|hk
  .exact wpAny_Name (wpAny_loadName_cell I.ok.kind hk hc Ln fin) hd
  .exact wpAny_Name (wpAny_loadName_free I.ok.kind hk hc Ln fin Vr) hd
theorem A2{i j pos}:PE X (.Constant (.int i) j pos) (tC (.int i)):=λ_ _ _ H _ I h=>wpAny_Constant_int ⟨.int i,H,I.tok _,⟨_,rfl⟩,h⟩
theorem IX{j pos}:PE X (.Constant .none j pos) (tC .non):=λ_ _ _ H _ I h=>Constant_none ⟨.non,H,I,rfl,h⟩
theorem tS{x j pos}:PE X (.Constant (.str x) j pos) (tC (.str x)):=λ_ _ _ H _ I h=>Calls.Constant_str ⟨.str x,H,I.tok _,⟨_,rfl⟩,h⟩
def Gl(X:Cx)(x:Str):Prop:=X.env.kindOf x=some .globalImplicit
theorem ZG(I:V2 X pins σ H s)(hg:Gl X x)(hm:X.mg x=some u)(h:Q u s)
 (hd:(x==("__debug__": Str))=false:=by decide):wpAny (model X.prog X.w) X.A (eval (.Name x pos) X.env) Q E s:=
  fG I.ok.kind hg (Calls.loadGlobal_global (by rw[I.ok.glob];exact I.mod.glob.keeps I.bk) hm h) hd
theorem fJ(I:V2 X pins σ H s)(hg:Gl X x)(hm:X.mg x=none)(hv:bootBuiltins x=some u)(h:Q u s)
 (hn:x ≠ "__name__":= by decide) (hd:(x==("__debug__": Str))=false:=by decide):wpAny (model X.prog X.w) X.A (eval (.Name x pos) X.env) Q E s:=by
  obtain⟨mb,h1,h2⟩:=I.mod.blt;exact fG I.ok.kind hg (Calls.loadGlobal_builtin (by rw[I.ok.glob];exact I.mod.glob.keeps I.bk) hm (by rw[I.ok.blt];exact h1.keeps I.bk) ((h2 x hn).trans hv) h) hd
theorem aC{v:V}(hg:Gl X x) (hm:X.mg x=some u) (r:R4 v u) (hd:(x==("__debug__": Str))=false:=by decide):PE X (.Name x pos) (tC v):=
 λ_ _ _ H _ I h=>ZG I hg hm ⟨v,H,I,r,h⟩ hd
variable {a b:Expr}{ta tb:TE}
def PC(X:Cx)(op:CmpOp)(a b:Expr)(t:TE):Prop:=
 ∀(pins:List (Addr×Obj))(s:Shared)(σ:St)(H:Hp)(Q:VK),V2 X pins σ H s->t σ H Q->
  wpAny (model X.prog X.w) X.A (eval a X.env) (λv s₁=>wpAny (model X.prog X.w) X.A (eval b X.env) (λu s₂=>wpAny (model X.prog X.w) X.A (compareOp op v u) (EP X pins σ Q) X.xe s₂) X.xe s₁) X.xe s
inductive tBI(Q:Bool->Hp->Prop)(x:V)(H1:Hp):Prop
 |mk (c:_):x=.bl c->Q c H1->tBI Q x H1
def tB(t:TE):TT:=λσ H Q=>t σ H (tBI Q)
theorem zb4{op:CmpOp}(h:PC X op a b t) (h1:behindInMarks op b=false:=by first|exact nobehind _ (by decide) (by decide)|rfl):PT X (.Compare a [op] [b] pos) (tB t):=by
 intro pins s σ H Q I hw;refine pK (i8 (h pins s σ H _ I hw) λv s1 h1=>i8 h1 λu s2 h2=>i8 h2 λc s3 ⟨x,H1,I1,r1,q1⟩=>?_) h1;obtain⟨d,rfl,q⟩:=q1;cases r1;exact D5 ⟨H1,I1,q⟩
theorem VC{e:Expr}(h:PE X e t) (he:∀Kn,isTrue e X.env Kn=(do let v <-Kn;standAt e.pos;holding [v] (truthy v)):=by intro _;rfl):PT X e (tB t):=by
 intro pins s σ H Q I hw;refine isTrue_plain (i8 (h pins s σ H _ I hw) λv s1 ⟨x,H1,I1,r1,q1⟩=>?_) (he _);obtain⟨d,rfl,q⟩:=q1;cases r1;exact D5 ⟨H1,I1,q⟩
variable {tA tB':TT}{N7:List Expr}
def zb5(t u:TT):TT:=λσ H Q=>t σ H λc H1=>if c=true then u σ H1 Q else Q false H1
def tOr(t u:TT):TT:=λσ H Q=>t σ H λc H1=>if c=true then Q true H1 else u σ H1 Q
def zhe(t:TT):TT:=λσ H Q=>t σ H λc H1=>Q (!c) H1
theorem tN(ha:PT X a tA):PW X (.BoolOp .And [a] pos) tA:=by
 intro wh pins s σ H Q I h;refine isTrue_and (i8 (ha pins s σ H Q I h) λc s1 e=>?_);cases c with
 |true=>exact isTrue_and_nil e
 |false=>exact e
theorem HM(ha:PT X a tA):PW X (.BoolOp .Or [a] pos) tA:=by
 intro wh pins s σ H Q I h;refine isTrue_or (i8 (ha pins s σ H Q I h) λc s1 e=>?_);cases c with
 |false=>exact isTrue_or_nil e
 |true=>exact e
theorem uS(ha:PT X a tA)(hb:PW X (.BoolOp .And (b::N7) pos) tB'):PW X (.BoolOp .And (a::b::N7) pos) (zb5 tA tB'):=by
 intro wh pins s σ H Q I h;refine isTrue_and (i8 (ha pins s σ H _ I h) λc s1 ⟨H1,I1,q1⟩=>?_);cases c with
 |true=>exact hb wh pins s1 σ H1 Q I1 q1
 |false=>exact⟨H1,I1,q1⟩
theorem vS(ha:PT X a tA)(hb:PW X (.BoolOp .Or (b::N7) pos) tB'):PW X (.BoolOp .Or (a::b::N7) pos) (tOr tA tB'):=by
 intro wh pins s σ H Q I h;refine isTrue_or (i8 (ha pins s σ H _ I h) λc s1 ⟨H1,I1,q1⟩=>?_);cases c with
 |true=>exact⟨H1,I1,q1⟩
 |false=>exact hb wh pins s1 σ H1 Q I1 q1
theorem gG(ha:PT X a tA):PT X (.UnaryOp .Not a pos) (zhe tA):=by
 intro pins s σ H Q I h;exact isTrue_not (i8 (ha pins s σ H (λc H1=>Q (!c) H1) I h) λc s' ⟨H1,I1,q⟩=>⟨H1,I1,q⟩)
def Es(ta tb:TE):TE:=λσ H Q=>ta σ H λx H1=>∃c,x=.bl c/\if c=true then tb σ H1 Q else Q (.bl false) H1
def zb6(ta tb:TE):TE:=λσ H Q=>ta σ H λx H1=>∃c,x=.bl c/\if c=true then Q (.bl true) H1 else tb σ H1 Q
inductive Fs(Q:VK)(x:V)(H1:Hp):Prop
 |mk (c:_):x=.bl c->Q (.bl (!c)) H1->Fs Q x H1
def zei(ta:TE):TE:=λσ H Q=>ta σ H (Fs Q)
theorem NK{op}(h:PE X a t):PE X (.BoolOp op [a] pos) t:=λpins s σ H Q I hw=>BoolOp_one (h pins s σ H Q I hw)
theorem dP(ha:PE X a ta)(hb:PE X (.BoolOp .And (b::N7) pos) tb):PE X (.BoolOp .And (a::b::N7) pos) (Es ta tb):=by
 intro pins s σ H Q I h;refine BoolOp_and (i8 (ha pins s σ H _ I h) λv s1 ⟨x,H1,I1,r1,q1⟩=>?_);obtain⟨c,rfl,q1⟩:=q1;cases r1;refine D5 ?_;cases c with
 |true=>exact hb pins s1 σ H1 Q I1 q1
 |false=>exact⟨.bl false,H1,I1,rfl,q1⟩
theorem Qj(ha:PE X a ta)(hb:PE X (.BoolOp .Or (b::N7) pos) tb):PE X (.BoolOp .Or (a::b::N7) pos) (zb6 ta tb):=by
 intro pins s σ H Q I h;refine BoolOp_or (i8 (ha pins s σ H _ I h) λv s1 ⟨x,H1,I1,r1,q1⟩=>?_);obtain⟨c,rfl,q1⟩:=q1;cases r1;refine D5 ?_;cases c with
 |false=>exact hb pins s1 σ H1 Q I1 q1
 |true=>exact⟨.bl true,H1,I1,rfl,q1⟩
theorem Gs(ha:PE X a ta):PE X (.UnaryOp .Not a pos) (zei ta):=by
 intro pins s σ H Q I h;refine UnaryOp_ (i8 (ha pins s σ H _ I h) λv s1 ⟨x,H1,I1,r1,q1⟩=>?_);obtain⟨c,rfl,q1⟩:=q1;cases r1;exact not_of (D5 ⟨.bl (!c),H1,I1,rfl,q1⟩)
def tIf(t:TT)(ta tb:TE):TE:=λσ H Q=>t σ H λc H1=>if c=true then ta σ H1 Q else tb σ H1 Q
theorem uZ{c:Expr}(hc:PT X c tA) (ha:PE X a ta) (hb:PE X b tb):PE X (.IfExp c a b pos) (tIf tA ta tb):=by
 intro pins s σ H Q I h;refine wpAny_IfExp (i8 (hc pins s σ H _ I h) λd s1 ⟨H1,I1,q1⟩=>?_);cases d with
 |true=>exact ha pins s1 σ H1 Q I1 q1
 |false=>exact hb pins s1 σ H1 Q I1 q1
end
end L2
namespace L2
open PySem PySem.Spec PyProof.Rows
variable {X:Cx}{e c tg:Expr}{H:Hp}{pins:List (Addr×Obj)}{es:List Expr}{i:Nat}{op:Operator}{pos HK:Pos}{P:Program}{K:Frag}{s:Shared}{σ:St}{x:Str}{te:TE}{tc:TT}{u:Value}{E:Value->Shared->Prop}{w:World}
def SqL(K:Frag)(H:Hp)(a:Addr)(xs:List V):Prop:=
 Rd H a (.lst xs)\/
  ∃(o:Obj)(its:Array Value)(n:Nat),K.lookup a=some o/\o.cls=.type "list" /\ o.dict=none/\o.data=.seq its n/\its.size<=sizeLine/\k4 xs its.toList
def S9(K:Frag)(H:Hp)(a:Addr)(xs:List V):Prop:=
 Rd H a (.tup xs)\/
  ∃(o:Obj)(its:Array Value)(n:Nat),K.lookup a=some o/\o.cls=.type "tuple" /\ o.data=.seq its n/\its.size<=sizeLine/\k4 xs its.toList
def zhf:Value->Option V
 |.none=>some .non
 |.bool b=>some (.bl b)
 |.int i _=>some (.int i)
 |.str x _=>some (.str x)
 |.bytes b _=>some (.byt b)
 |.float b _=>some (.flt b)
 |.ref a=>some (.ref a)
 |.type n=>some (.ty n)
 |_=>none
theorem R4.abs{x:V}(r:R4 x u):zhf u=some x:=by
 cases x with
 |non=>cases r;rfl
 |bl _=>cases r;rfl
 |int _=>obtain⟨t,rfl⟩:=r;rfl
 |str _=>obtain⟨t,rfl⟩:=r;rfl
 |byt _=>obtain⟨t,rfl⟩:=r;rfl
 |flt _=>obtain⟨t,rfl⟩:=r;rfl
 |ref _=>cases r;rfl
 |ty _=>cases r;rfl
theorem R4.inj{x y:V}(r:R4 x u) (q:R4 y u):x=y:=J0 (r.abs.symm.trans q.abs)
theorem k4.inj:∀{xs ys:List V}{us:List Value},k4 xs us->k4 ys us->xs=ys
 |_,_,_,.nil,.nil=>rfl
 |_,_,_,.cons r t,.cons r' t'=>by rw[r.inj r',k4.inj t t']
section
variable {a:Addr}{xs ys:List V}
theorem SqL.of(h:H a=some (.lst xs)):SqL K H a xs:=.inl (.inl h)
theorem V2.list(I:V2 X pins σ H s)(h:SqL X.K H a xs):∃its:List Value,k4 xs its/\PlainL s.heap a its.toArray/\xs.length<=sizeLine:=by
 rcases h with h|⟨o,its,n,hk,hc,hd,hs,hz,r⟩
 .obtain⟨z,its,n,r,e⟩:=h.ok I.hok;exact⟨its,r,⟨_,n,e,rfl,rfl,rfl⟩,z⟩
 .refine⟨its.toList,r,⟨o,n,I.kIn a o hk,hc,hd,by simpa using hs⟩,?_⟩;have e:=r.length;grind
theorem V2.tuple(I:V2 X pins σ H s)(h:S9 X.K H a xs):∃its:List Value,k4 xs its/\IsTup s.heap a its.toArray/\xs.length<=sizeLine:=by
 rcases h with h|⟨o,its,n,hk,hc,hs,hz,r⟩
 .obtain⟨z,its,r,p⟩:=h.ok I.hok;exact⟨its,r,p,z⟩
 .refine⟨its.toList,r,⟨o,I.kIn a o hk,hc,n,by simpa using hs⟩,?_⟩;have e:=r.length;grind
theorem V2.list_inj(I:V2 X pins σ H s)(h:SqL X.K H a xs)(h':SqL X.K H a ys):xs=ys:=by
 obtain⟨its,r,⟨o,n,e,_,_,d⟩,_⟩:=I.list h;obtain⟨its',r',⟨o',n',e',_,_,d'⟩,_⟩:=I.list h';rw[e]at e';cases e';rw[d]at d';injection d' with d1 _;have:its=its':=by grind
 subst this;exact r.inj r'
theorem V2.tuple_inj(I:V2 X pins σ H s)(h:S9 X.K H a xs)(h':S9 X.K H a ys):xs=ys:=by
 obtain⟨its,r,⟨o,e,_,n,d⟩,_⟩:=I.tuple h;obtain⟨its',r',⟨o',e',_,n',d'⟩,_⟩:=I.tuple h';rw[e]at e';cases e';rw[d]at d';injection d' with d1 _;have:its=its':=by grind
 subst this;exact r.inj r'
end
abbrev Cx.wish(X:Cx)(E:Value->Shared->Prop):Cx:={X with xe:=E}
theorem Cx.Ok.wish(ok:X.Ok)(E:Value->Shared->Prop):(X.wish E).Ok:=
 ⟨ok.mod,ok.kind,ok.glob,ok.blt,ok.above,ok.inj,ok.has,ok.cab,ok.hd,ok.frames,ok.stk,ok.exf,ok.bs,ok.bsz,ok.noex,ok.exfs,ok.funs,ok.frf⟩
theorem Cx.Ok.unwish(ok:(X.wish E).Ok):X.Ok:=
 ⟨ok.mod,ok.kind,ok.glob,ok.blt,ok.above,ok.inj,ok.has,ok.cab,ok.hd,ok.frames,ok.stk,ok.exf,ok.bs,ok.bsz,ok.noex,ok.exfs,ok.funs,ok.frf⟩
theorem V2.wish(I:V2 X pins σ H s)(E:Value->Shared->Prop):V2 (X.wish E) pins σ H s:=⟨I.ok.wish E,I.os,I.bare,I.base,I.loc,I.cell,I.free,I.freeC,I.pin,I.hok,I.len⟩
theorem V2.unwish(I:V2 (X.wish E) pins σ H s):V2 X pins σ H s:=⟨I.ok.unwish,I.os,I.bare,I.base,I.loc,I.cell,I.free,I.freeC,I.pin,I.hok,I.len⟩
section
variable {st:Stmt}{N7:List Stmt}{t u:TS}
def aK:TS:=λD σ H=>D.nx σ H
def iR(t u:TS):TS:=λD σ H=>t {D with nx:=u D} σ H
theorem T4:Nr X [] aK:=λ_ _ σ H _ I h=>NC ⟨σ,H,I,h⟩
theorem T0(h1:PS X st t)(h2:Nr X N7 u):Nr X (st::N7) (iR t u):=by
 intro pins s σ H D I h;refine wpAny_execs_cons (i8 (h1 pins s σ H {D with nx:=u D} I h) λf s1 q=>?_);cases f with
 |next=>
  obtain⟨σ',H',I',q⟩:=q;exact h2 pins s1 σ' H' D I' q
 |ret v=>exact q
 |brk=>exact q
 |cont=>exact q
theorem X0(h1:PS X st t):Nr X [st] t:=by
 intro pins s σ H D I h;refine wpAny_execs_cons (i8 (h1 pins s σ H D I h) λf s1 q=>?_);cases f with
 |next=>exact NC q
 |ret v=>exact q
 |brk=>exact q
 |cont=>exact q
theorem V2.quiet(I:V2 X pins σ H s):interactive X.env=false:=by simp[interactive,I.ok.kind]
def zej(te:TE):TS:=λD σ H=>te σ H λ_ H1=>D.nx σ H1
theorem L6(he:PE X e te)(hs:swapsWith e none pos.line X.env=pure false:=by rfl):PS X (.Expr e pos) (zej te):=by
 intro pins s σ H D I h;exact wpAny_Expr_any (i8 (he pins s σ H _ I h) λv s1 ⟨x,H1,I1,r1,q1⟩=>⟨σ,H1,I1,q1⟩) I.quiet hs
def zek(te:TE):TS:=λD σ H=>te σ H D.rt
theorem S3(he:PE X e te):PS X (.Return (some e) pos) (zek te):=by
 intro pins s σ H D I h;exact wpAny_Return_some (i8 (he pins s σ H _ I h) λv s1 ⟨x,H1,I1,r1,q1⟩=>⟨x,σ,H1,I1,r1,q1⟩)
def jV(c:TT)(t u:TS):TS:=λD σ H=>c σ H λb H1=>if b=true then t D σ H1 else u D σ H1
theorem Q6{a b:List Stmt}(hc:PT X c tc) (ha:Nr X a t) (hb:Nr X b u):PS X (.If c a b pos) (jV tc t u):=by
 intro pins s σ H D I h;refine wpAny_If (i8 (hc pins s σ H _ I h) λd s1 ⟨H1,I1,q1⟩=>?_);cases d with
 |true=>exact ha pins s1 σ H1 D I1 q1
 |false=>exact hb pins s1 σ H1 D I1 q1
end
abbrev TG:=V->St->Hp->(St->Hp->Prop)->Prop
abbrev TGs:=List V->St->Hp->(St->Hp->Prop)->Prop
def PG(X:Cx)(pQ:Expr)(t:TG):Prop:=
 ∀(pins:List (Addr×Obj))(s:Shared)(σ:St)(H:Hp)(v:V)(u:Value)(Q:St->Hp->Prop),V2 X pins σ H s->R4 v u->t v σ H Q->
  wpAny (model X.prog X.w) X.A (assign pQ X.env u) (λ_ s'=>∃σ' H',V2 X pins σ' H' s'/\Q σ' H') X.xe s
def PGs(X:Cx)(ts:List Expr)(t:TGs):Prop:=
 ∀(pins:List (Addr×Obj))(s:Shared)(σ:St)(H:Hp)(vs:List V)(us:List Value)(Q:St->Hp->Prop),V2 X pins σ H s->k4 vs us->t vs σ H Q->
  wpAny (model X.prog X.w) X.A (assignInOrder ((assignEach ts X.env).map (·.2)) us) (λ_ s'=>∃σ' H',V2 X pins σ' H' s'/\Q σ' H') X.xe s
abbrev zb7:=V->V->V->Hp->(Hp->Prop)->Prop
def zel(X:Cx)(t:zb7):Prop:=
 ∀(pins:List (Addr×Obj))(s:Shared)(σ:St)(H:Hp)(o i v:V)(ov iv u:Value)(Q:Hp->Prop),V2 X pins σ H s->R4 o ov->R4 i iv->R4 v u->t o i v H Q->
  wpAny (model X.prog X.w) X.A (setItem ov iv u) (λ_ s'=>∃H',V2 X pins σ H' s'/\Q H') X.xe s
abbrev TIp:=V->V->Hp->VK->Prop
def PIp(X:Cx)(op:Operator)(t:TIp):Prop:=
 ∀(pins:List (Addr×Obj))(s:Shared)(σ:St)(H:Hp)(x y:V)(v u:Value)(Q:VK),V2 X pins σ H s->R4 x v->R4 y u->t x y H Q->
  wpAny (model X.prog X.w) X.A (inplaceOp op v u) (EP X pins σ Q) X.xe s
def aH(i:Nat):TG:=λv σ H Q=>Q (σ.set i (some v)) H
theorem Qy(hN:X.N.Nodup)(hi:X.N[i]?=some x)(hx:Loc X.env.scope x)(hf:X.fn x=true\/X.env.scope.names.lookup x=some .local:=by first|exact .inl rfl|exact .inr rfl|assumption):PG X (.Name x pos) (aH i):=by
 intro pins s σ H v u Q I r h;exact wpAny_assign_Name (LK I hN hi hx r (λs' I'=>⟨_,H,I',h⟩) hf)
def zhg:TGs:=λvs σ H Q=>vs=[]/\Q σ H
inductive za4(t:TG)(u:TGs)(vs:List V)(σ:St)(H:Hp)(Q:St->Hp->Prop):Prop
 |mk (v r:_):vs=v::r->(t v σ H λσ' H'=>u r σ' H' Q)->za4 t u vs σ H Q
theorem gJ:PGs X [] zhg:=by
 intro pins s σ H vs us Q I r h;obtain⟨e,h⟩:=h;subst e;cases r;exact assignInOrder_nil ⟨σ,H,I,h⟩
theorem aA{t:TG}{u:TGs}(h1:PG X e t) (h2:PGs X es u)
 (hs:(assignEach (e::es) X.env).map (·.2)=assign e X.env::(assignEach es X.env).map (·.2):=by rfl):PGs X (e::es) (za4 t u):=by
  intro pins s σ H vs us Q I r h;obtain⟨v,vr,e1,h⟩:=h;subst e1;cases r with
  |cons r rr=>
   rw[hs];refine assignInOrder_cons (i8 (h1 pins s σ H _ _ _ I r h) λ_ s1 ⟨σ1,H1,I1,q1⟩=>?_);exact h2 pins s1 σ1 H1 _ _ Q I1 rr q1
inductive zen(K:Frag)(n:Nat)(t:TGs)(v:V)(σ:St)(H:Hp)(Q:St->Hp->Prop):Prop
 |mk (a xs:_):v=.ref a->S9 K H a xs->xs.length=n->t xs σ H Q->zen K n t v σ H Q
theorem IM{k:Nat}{t:TGs}{n:Nat}(hc:X.calm=true) (h:PGs X es t)
 (hn:(assignEach es X.env).length=n:=by rfl) (FM:(assignEach es X.env).findIdx? (·.1)=none:=by rfl):PG X (.Tuple es k pos) (zen X.K n t):=by
  intro pins s σ H v u Q I r hw;obtain⟨a,xs,e1,hq,hl,hw⟩:=hw;subst e1;cases r;obtain⟨its,rv,ht,hz⟩:=I.tuple hq;refine assign_Tuple_tuple (I.ok.hd hc) ht (by simp[hn,<-hl,rv.length]) FM λh' hx=>?_;have I1:V2 X pins σ H {s with heap:=h'}:=I.kept (t':=s.toks) λb o e=>hx b o (j3 (F2 e)) e;exact h pins _ σ H xs _ Q I1 (by simpa using rv) hw
def Ry(te:TE)(g:TG):TS:=λD σ H=>te σ H λx H1=>g x σ H1 D.nx
theorem zb9(hN:X.N.Nodup)(hi:X.N[i]?=some x)(hx:Loc X.env.scope x)(he:PE X e te)(hs:swapsWith e (some (.Name x HK)) pos.line X.env=pure false:=by rfl)(hf:X.fn x=true\/X.env.scope.names.lookup x=some .local:=by first|exact .inl rfl|exact .inr rfl|assumption) :
  PS X (.Assign [.Name x HK] e pos) (Ry te (aH i)):=by
 intro pins s σ H D I h;refine wpAny_Assign_Name (i8 (he pins s σ H _ I h) λv s1 ⟨y,H1,I1,r1,q1⟩=>?_) hs;exact LK I1 hN hi hx r1 (λs2 I2=>⟨_,H1,I2,q1⟩) hf
def zeo(i:Nat)(te:TE)(ti:TIp):TS:=λD σ H=>∃x,σ[i]?=some (some x)/\te σ H λy H1=>ti x y H1 λz H2=>D.nx (σ.set i (some z)) H2
theorem zca{ti:TIp}(hN:X.N.Nodup) (hi:X.N[i]?=some x) (hx:Loc X.env.scope x) (he:PE X e te) (ho:PIp X op ti) (hf:X.fn x=true\/X.env.scope.names.lookup x=some .local:=by first|exact .inl rfl|exact .inr rfl|assumption) :
  PS X (.AugAssign (.Name x HK) op e pos) (zeo i te ti):=by
 intro pins s σ H D I h;obtain⟨v,e1,h⟩:=h;obtain⟨m,hn,hl⟩:=I.loc;have vis:Vis X.env.scope x:=by rcases hx with k|k;exact .inl k;exact .inr (.inl k)
 obtain⟨u,r,l⟩:=hl i x v hi e1 vis;refine wpAny_AugAssign_Name ?_;have go:wpAny (model X.prog X.w) X.A (eval e X.env) (λw s₂=>wpAny (model X.prog X.w) X.A (inplaceOp op u w) (λr s₃=>wpAny (model X.prog X.w) X.A (storeName X.env x r) (λ_=>SP X pins D .next) X.xe s₃) X.xe s₂) X.xe s:=by
  refine i8 (he pins s σ H _ I h) λw s1 ⟨y,H1,I1,r1,q1⟩=>?_;refine i8 (ho pins s1 σ H1 v y u w _ I1 r r1 q1) λz s2 ⟨zv,H2,I2,r2,q2⟩=>?_;exact LK I2 hN hi hx r2 (λs3 I3=>⟨_,H2,I3,q2⟩) hf
 rcases l with⟨hk,hm⟩|⟨hk,c,hc,Ln⟩
 .exact wpAny_loadName_local I.ok.kind hk hn hm go
 .rcases hk with hk|hk
  .exact wpAny_loadName_cell I.ok.kind hk hc Ln go
  .rcases hx with k|k
   .have:X.env.scope.names.lookup x=some .free:=hk;grind
   .have:X.env.scope.names.lookup x=some .free:=hk;grind
def zep(to ti te:TE)(zaI:V->V->Hp->VK->Prop)(tip:TIp)(zaJ:zb7):TS:=λD σ H=>to σ H λo H1=>ti σ H1 λi H2=>zaI o i H2 λx H3=>te σ H3 λy H4=>tip x y H4 λz H5=>zaJ o i z H5 λH6=>D.nx σ H6
def zeq(X:Cx)(t:V->V->Hp->VK->Prop):Prop:=
 ∀(pins:List (Addr×Obj))(s:Shared)(σ:St)(H:Hp)(o i:V)(ov iv:Value)(Q:VK),V2 X pins σ H s->R4 o ov->R4 i iv->t o i H Q->
  wpAny (model X.prog X.w) X.A (getItem ov iv) (EP X pins σ Q) X.xe s
theorem Sy{o i:Expr}{to ti:TE}{zaI:V->V->Hp->VK->Prop}{tip:TIp}{zaJ:zb7}{aW:Pos}(ho:PE X o to) (hi:PE X i ti) (hg:zeq X zaI) (he:PE X e te) (hp:PIp X op tip) (hs:zel X zaJ)
 (ha:∀ov iv new,augStore i ov iv new=(do holding [new,ov,iv] (setItem ov iv new);release [new,ov,iv] [];pure .next):=by intros;rfl):PS X (.AugAssign (.Subscript o i aW) op e pos) (zep to ti te zaI tip zaJ):=by
  intro pins s σ H D I h;refine wpAny_AugAssign_SubscriptAny (i8 (ho pins s σ H _ I h) λov s1 ⟨x1,H1,I1,r1,q1⟩=>?_) ha;refine i8 (hi pins s1 σ H1 _ I1 q1) λiv s2 ⟨x2,H2,I2,r2,q2⟩=>?_;refine i8 (hg pins s2 σ H2 x1 x2 ov iv _ I2 r1 r2 q2) λold s3 ⟨x3,H3,I3,r3,q3⟩=>?_;refine i8 (he pins s3 σ H3 _ I3 q3) λv s4 ⟨x4,H4,I4,r4,q4⟩=>?_;refine i8 (hp pins s4 σ H4 x3 x4 old v _ I4 r3 r4 q4) λnew s5 ⟨x5,H5,I5,r5,q5⟩=>?_;exact i8 (hs pins s5 σ H5 x1 x2 x5 ov iv new _ I5 r1 r2 r5 q5) λ_ s6 ⟨H6,I6,q6⟩=>⟨σ,H6,I6,q6⟩
def ipI(f:Int->Int->Int):TIp:=λx y H Q=>∃i j,x=.int i/\y=.int j/\Q (.int (f i j)) H
theorem wS:PIp X .Add (ipI λi j=>i+j):=by
 intro pins s σ H x y v u Q I r1 r2 h;obtain⟨i,j,e1,e2,q⟩:=h;subst e1;subst e2;obtain⟨t,rfl⟩:=r1;obtain⟨t',rfl⟩:=r2;exact iadd_int ⟨.int _,H,I.tok _,⟨_,rfl⟩,q⟩
theorem zcb:PIp X .Sub (ipI λi j=>i-j):=by
 intro pins s σ H x y v u Q I r1 r2 h;obtain⟨i,j,e1,e2,q⟩:=h;subst e1;subst e2;obtain⟨t,rfl⟩:=r1;obtain⟨t',rfl⟩:=r2;exact isub_int ⟨.int _,H,I.tok _,⟨_,rfl⟩,q⟩
def Hs(c:TT)(tb:TS):TS:=λD σ H=>∃W:Nat->St->Hp->Prop,(∃m,W m σ H)/\∀m σ H,W m σ H->
 c σ H λb H1=>if b=true then ∃N:St->Hp->Prop,(∀σ' H',N σ' H'->∃m',m'<m/\W m' σ' H')/\tb {D with nx:=N,ct:=N,bk:=D.nx} σ H1 else D.nx σ H1
theorem uN{body:List Stmt}{tb:TS}(hp:PassesOwn (model X.prog X.w) X.A X.env X.xe) (hc:PT X c tc) (hb:Nr X body tb):PS X (.While c body [] pos) (Hs tc tb):=by
 intro pins s σ H D I h;obtain⟨W,⟨m0,w0⟩,turn⟩:=h;refine wpAny_While (codeAny_whileLoop (λn s'=>∃σ' H',V2 X pins σ' H' s'/\W n σ' H') ?_ m0 ⟨σ,H,I,w0⟩);rintro n s1 ⟨σ1,H1,I1,w1⟩;refine T9 hp (i8 (hc pins s1 σ1 H1 _ I1 (turn n σ1 H1 w1)) λb s2 ⟨H2,I2,q2⟩=>?_);cases b with
 |true=>
  obtain⟨N,hN,q2⟩:=q2;rw[K0 rfl];refine T9 hp (i8 (hb pins s2 σ1 H2 _ I2 q2) λf s3 q3=>?_);cases f with
  |next=>
   obtain⟨σ3,H3,I3,n3⟩:=q3;obtain⟨m',hm,w3⟩:=hN σ3 H3 n3;exact⟨m',hm,σ3,H3,I3,w3⟩
  |cont=>
   obtain⟨σ3,H3,I3,n3⟩:=q3;obtain⟨m',hm,w3⟩:=hN σ3 H3 n3;exact⟨m',hm,σ3,H3,I3,w3⟩
  |brk=>exact q3
  |ret v=>exact q3
 |false=>
  rw[D0 T1];exact NC ⟨σ1,H2,I2,q2⟩
structure It where
 go:Nat->Hp->Prop
 yld:Nat->Hp->V->Hp->Prop
 stop:Nat->Hp->Prop
def OK(X:Cx)(pins:List (Addr×Obj))(H:Hp)(b:Addr):Prop:=
 H b=none/\b≠X.env.locals/\b∉X.fs/\(b∈X.ex\/X.s_0.heap.objs.size<=b)/\(∀x c,X.env.cells.lookup x=some c->c≠b)/\∀p∈X.pn++pins,p.1≠b
theorem V2.fpOk{H':Hp}{b:Addr}(I:V2 X pins σ H s) (hb:s.heap.objs.size<=b) (hn:H' b=none):OK X pins H' b:=by
 refine⟨hn,PF (O2 I.lt hb),I.nofs hb,.inr (d4 I.sz hb),λx c e z=>?_,λp hp z=>?_⟩
 .obtain⟨v,q⟩:=I.cell x c e;exact absurd (O2 q.lt (by rw[z];exact hb)) (B5 _)
 .exact absurd (O2 (F2 (I.pin p hp).1) (by rw[z];exact hb)) (B5 _)
structure lV(P:Program)(w:World)(K:Frag)(tg:Expr)(J:It)(fp:List Addr)(it:Addr)(tn:Nat->Heap->Prop):Prop where
 mem:it∈fp
 obj:∀i h,tn i h->∀b∈fp,∃o,h.get? b=some o/\∀v,o.data≠.cell v
 keep:∀i h h',tn i h->(∀b∈fp,∀o,h.get? b=some o->h'.get? b=some o)->tn i h'
 item:∀(X:Cx),X.prog=P->X.w=w->X.K=K->X.calm=true->∀(i:Nat)(pins:List (Addr×Obj))(s:Shared)(σ:St)(H:Hp)(E:Value->Shared->Prop),V2 X pins σ H s->(∀b∈fp,OK X pins H b)->tn i s.heap->J.go i H->
  wpAny (model P w) X.A (pyNext (.ref it)) (λr s1=>∃u,r=some u/\
   wpAny (model P w) X.A (letOwnedTupleGo tg (.ref it) u) (λ_ s2=>∃x H',V2 X pins σ H' s2/\R4 x u/\J.yld i H x H'/\tn (i+1) s2.heap/\∀b∈fp,H' b=none) E s1) E s
 done:∀(X:Cx),X.prog=P->X.w=w->X.K=K->X.calm=true->∀(i:Nat)(pins:List (Addr×Obj))(s:Shared)(σ:St)(H:Hp)(E:Value->Shared->Prop),V2 X pins σ H s->(∀b∈fp,OK X pins H b)->tn i s.heap->J.stop i H->
  wpAny (model P w) X.A (pyNext (.ref it)) (λr s1=>r=none/\V2 X pins σ H s1) E s
 self:∀(A:Around)(i:Nat)(s:Shared)(Q:Value->Shared->Prop)(E:Value->Shared->Prop),tn i s.heap->Q (.ref it) s->wpAny (model P w) A (pyIter (.ref it)) Q E s
abbrev TI:=St->Hp->(It->Hp->Prop)->Prop
inductive PIE(X:Cx)(pins:List (Addr×Obj))(σ:St)(tg:Expr)(R:It->Hp->Prop)(itv:Value)(s2:Shared):Prop
 |mk (it:Addr) (fp:List Addr) (tn:Nat->Heap->Prop) (J:It) (H':Hp):itv=.ref it->V2 X pins σ H' s2->lV X.prog X.w X.K tg J fp it tn->tn 0 s2.heap->(∀b∈fp,OK X pins H' b)->R J H'->PIE X pins σ tg R itv s2
def PI(X:Cx)(tg DF:Expr)(wi:TI):Prop:=
 ∀(pins:List (Addr×Obj))(s:Shared)(σ:St)(H:Hp)(R:It->Hp->Prop),V2 X pins σ H s->wi σ H R->
  wpAny (model X.prog X.w) X.A (eval DF X.env) (λv s1=>wpAny (model X.prog X.w) X.A (pyIter v) (PIE X pins σ tg R) X.xe s1) X.xe s
theorem gW{M:Model}{A:Around}{it:Addr}{o:Obj}{n:String}{vs:Array Value}{Q:Unit->Shared->Prop}(ho:s.heap.get? it=some o) (hc:o.cls=.type n) (hd:o.data=.fields vs)
 (hn:["enumerate","zip","dict_itemiterator","dict_reverseitemiterator","odict_iterator","itertools.zip_longest","itertools.pairwise"].contains n=false) (hQ:Q () s):wpAny M A (letOwnedTupleGo tg (.ref it) u) Q E s:=by
  unfold letOwnedTupleGo;cases tg<;>first
   |exact S0 hQ
   |(cases u<;>first
      |exact S0 hQ
      |(refine z0 (wpAny_load ho ?_)
        rw[hc,hd];show wpAny M A (if (["enumerate","zip","dict_itemiterator","dict_reverseitemiterator","odict_iterator","itertools.zip_longest","itertools.pairwise"].contains n&&vs[0]? == some (rawInt _))=true then _ else _) Q E s;rw[D0 (by intro h;rw[hn,GB]at h;cases h)];exact S0 hQ))
def Is(K:Frag)(a:Addr):It:=
 ⟨λi H=>∃xs x,SqL K H a xs/\xs[i]?=some x,λi H x H'=>H'=H/\∀xs,SqL K H a xs->xs[i]?=some x,λi H=>∃xs,SqL K H a xs/\xs.length<=i⟩
def Itt(K:Frag)(a:Addr):It:=
 ⟨λi H=>∃xs x,S9 K H a xs/\xs[i]?=some x,λi H x H'=>H'=H/\∀xs,S9 K H a xs->xs[i]?=some x,λi H=>∃xs,S9 K H a xs/\xs.length<=i⟩
def By(lo:Int)(n:Nat):It:=⟨λi _=>i<n,λi H x H'=>H'=H/\x=.int (lo+i),λi _=>n<=i⟩
theorem Yn(a it:Addr):lV P w K tg (Is K a) [it] it (λi h=>h.IsListIter it a i) where
 mem:=by simp
 obj:=λi h st b hb=>by
  have e:b=it:=by simpa using hb
  subst e;obtain⟨o,e,c,d⟩:=st;grind
 keep:=λi h h' st k=>st.at λo e=>k it (by simp) o e
 item:=by
  intro X hP hw hK hc i pins s σ H E I hf st hg;subst hP hw hK;obtain⟨xs,x,hq,hx⟩:=hg;obtain⟨its,rv,p,hz⟩:=I.list hq;obtain⟨u,hu,ru⟩:=rv.get hx;obtain⟨f0,f1,f2,f3,f4,f5⟩:=hf it (by simp);refine wpAny_pyNext_list_item st p.isList (x:=u) (by simpa using hu) λh' jA sb=>?_;have I1:V2 X pins σ H {s with heap:=h'}:=I.turned (t':=s.toks) (λb o hb e=>(sb.2 b hb).trans e) f0 f1 f3 f4 f5;obtain⟨o,e,c,d⟩:=id jA;exact⟨u,rfl,gW (s:={s with heap:=h'}) e c d (by decide) ⟨x,H,I1,ru,⟨rfl,λys hy=>by rw[I.list_inj hy hq];exact hx⟩,jA,λb hb=>(hf b hb).1⟩⟩
 done:=by
  intro X hP hw hK hc i pins s σ H E I hf st hg;subst hP hw hK;obtain⟨xs,hq,hx⟩:=hg;obtain⟨its,rv,p,hz⟩:=I.list hq;obtain⟨f0,f1,f2,f3,f4,f5⟩:=hf it (by simp);have hl:=rv.length;exact wpAny_pyNext_list_end (I.ok.hd hc) st p.isList (by simp;lia) λh' eb=>⟨rfl,I.turned (t':=s.toks) (λb o hb e=>eb b o hb e) f0 f1 f3 f4 f5⟩
 self:=λ_ _ _ _ _ st h=>wpAny_pyIter_listiter st h
theorem Pf(a it:Addr):lV P w K tg (Itt K a) [it] it (λi h=>h.IsTupleIter it a i) where
 mem:=by simp
 obj:=λi h st b hb=>by
  have e:b=it:=by simpa using hb
  subst e;obtain⟨o,e,c,d⟩:=st;grind
 keep:=λi h h' st k=>st.at λo e=>k it (by simp) o e
 item:=by
  intro X hP hw hK hc i pins s σ H E I hf st hg;subst hP hw hK;obtain⟨xs,x,hq,hx⟩:=hg;obtain⟨its,rv,p,hz⟩:=I.tuple hq;obtain⟨u,hu,ru⟩:=rv.get hx;obtain⟨f0,f1,f2,f3,f4,f5⟩:=hf it (by simp);refine wpAny_pyNext_tuple_item st (show s.heap.IsTuple a its.toArray from p) (x:=u) (by simpa using hu) λh' jA sb=>?_;have I1:V2 X pins σ H {s with heap:=h'}:=I.turned (t':=s.toks) (λb o hb e=>(sb.2 b hb).trans e) f0 f1 f3 f4 f5;obtain⟨o,e,c,d⟩:=id jA;exact⟨u,rfl,gW (s:={s with heap:=h'}) e c d (by decide) ⟨x,H,I1,ru,⟨rfl,λys hy=>by rw[I.tuple_inj hy hq];exact hx⟩,jA,λb hb=>(hf b hb).1⟩⟩
 done:=by
  intro X hP hw hK hc i pins s σ H E I hf st hg;subst hP hw hK;obtain⟨xs,hq,hx⟩:=hg;obtain⟨its,rv,p,hz⟩:=I.tuple hq;obtain⟨f0,f1,f2,f3,f4,f5⟩:=hf it (by simp);have hl:=rv.length;exact wpAny_pyNext_tuple_end (I.ok.hd hc) st (show s.heap.IsTuple a its.toArray from p) (by simp;lia) λh' eb=>⟨rfl,I.turned (t':=s.toks) (λb o hb e=>eb b o hb e) f0 f1 f3 f4 f5⟩
 self:=λ_ _ _ _ _ st h=>wpAny_pyIter_tupleiter st h
theorem Rf(it:Addr)(lo:Int)(n:Nat):lV P w K tg (By lo n) [it] it (λi h=>IsRangeIter h it (lo+(i:Nat)*1) ((n:Int)-(i:Nat)) 1) where
 mem:=by simp
 obj:=λi h st b hb=>by
  grind
 keep:=λi h h' st k=>k it (by simp) _ st
 item:=by
  intro X hP hw hK hc i pins s σ H E I hf st hg;subst hP hw hK;obtain⟨f0,f1,f2,f3,f4,f5⟩:=hf it (by simp);have W:=Walks.range (prog:=X.prog) (w:=X.w) (I.ok.hd hc) it lo 1 n;refine W.item i s _ _ hg st λv h' tk hv jA kk=>?_;obtain⟨t,rfl⟩:=hv;have I1:V2 X pins σ H {s with heap:=h',toks:=tk}:=I.turned (λb o hb e=>kk b o (by simpa using hb) e) f0 f1 f3 f4 f5;refine⟨_,rfl,gW (s:={s with heap:=h',toks:=tk}) (n:= "range_iterator") jA rfl rfl (by decide) ⟨.int (lo+i),H,I1,⟨t,?_⟩,⟨rfl,rfl⟩,jA,λb hb=>(hf b hb).1⟩⟩;rw[Int.mul_one]
 done:=by
  intro X hP hw hK hc i pins s σ H E I hf st hg;subst hP hw hK;obtain⟨f0,f1,f2,f3,f4,f5⟩:=hf it (by simp);exact hJ (I.ok.hd hc) st (by have:n<=i:=hg;lia) λh' eb=>⟨rfl,I.turned (t':=s.toks) (λb o hb e=>eb b o hb e) f0 f1 f3 f4 f5⟩
 self:=λ_ _ _ _ _ st h=>iJ st h
end L2
namespace L2
open PySem PySem.Spec PyProof.Rows
variable {D:MK}{l a:Expr}{h:Heap}{H:Hp}{lo:Int}{pins:List (Addr×Obj)}{fp:List Addr}{xs:List V}{pos:Pos}{K:Frag}{s:Shared}{σ:St}{ta:TA}{g:TG}{tb:TS}
section
variable {X:Cx}{tg:Expr}
inductive Js(K:Frag)(R:It->Hp->Prop)(x:V)(H1:Hp):Prop
 |mk (a:_):x=.ref a->(∃xs,SqL K H1 a xs)->R (Is K a) H1->Js K R x H1
def zer(K:Frag)(tl:TE):TI:=λσ H R=>tl σ H (Js K R)
inductive za6(K:Frag)(R:It->Hp->Prop)(x:V)(H1:Hp):Prop
 |mk (a:_):x=.ref a->(∃xs,S9 K H1 a xs)->R (Itt K a) H1->za6 K R x H1
def zhh(K:Frag)(tl:TE):TI:=λσ H R=>tl σ H (za6 K R)
theorem L7{tl:TE}(hl:PE X l tl):PI X tg l (zer X.K tl):=by
 intro pins s σ H R I h;refine i8 (hl pins s σ H _ I h) λv s1 ⟨x,H1,I1,r1,q1⟩=>?_;obtain⟨a,e,⟨xs,hq⟩,q⟩:=q1;subst e;cases r1;obtain⟨its,rv,p,hz⟩:=I1.list hq;refine bH p.isList ?_;refine⟨s1.heap.objs.size,[s1.heap.objs.size],_,_,H1,rfl,I1.kept (t':=s1.toks) λb o e=>U0 _ e,Yn a _,⟨_,X1 _ rfl,rfl,rfl⟩,λb hb=>?_,q⟩;have e:b=s1.heap.objs.size:=by simpa using hb
 subst e;exact I1.fpOk (j1 _) (I1.hok.fresh (j1 _))
theorem eP{tl:TE}(hl:PE X l tl):PI X tg l (zhh X.K tl):=by
 intro pins s σ H R I h;refine i8 (hl pins s σ H _ I h) λv s1 ⟨x,H1,I1,r1,q1⟩=>?_;obtain⟨a,e,⟨xs,hq⟩,q⟩:=q1;subst e;cases r1;obtain⟨its,rv,p,hz⟩:=I1.tuple hq;refine iG (show s1.heap.IsTuple a its.toArray from p) ?_;refine⟨s1.heap.objs.size,[s1.heap.objs.size],_,_,H1,rfl,I1.kept (t':=s1.toks) λb o e=>U0 _ e,Pf a _,⟨_,X1 _ rfl,rfl,rfl⟩,λb hb=>?_,q⟩;have e:b=s1.heap.objs.size:=by simpa using hb
 subst e;exact I1.fpOk (j1 _) (I1.hok.fresh (j1 _))
theorem vZ{R:It->Hp->Prop}{E:Value->Shared->Prop}{hi:Int}{t u v:Tok}{tk:Nat}(I:V2 X pins σ H s) (h1:-(2^62)<=lo) (h2:lo<2^62) (h3:-(2^62)<=hi) (h4:hi<2^62)
 (q:R (By lo (hi-lo).toNat) H):wpAny (model X.prog X.w) X.A (pyIter (.ref s.heap.objs.size)) (PIE X pins σ tg R) E {s with heap:=s.heap.push {cls:=.type "range",data:=.fields #[.int lo t,.int hi u,.int 1 v]},toks:=tk}:=by
  refine wpAny_pyIter_range (IsRange.new ..) (small_one h1 h2 h3 h4) ?_;have I1:V2 X pins σ H {s with heap:=s.heap.push {cls:=.type "range",data:=.fields #[.int lo t,.int hi u,.int 1 v]},toks:=tk}:=I.kept λb o e=>U0 _ e;refine⟨(s.heap.push {cls:=.type "range",data:=.fields #[.int lo t,.int hi u,.int 1 v]}).objs.size,[(s.heap.push {cls:=.type "range",data:=.fields #[.int lo t,.int hi u,.int 1 v]}).objs.size],_,_,H,rfl,
   I1.kept (t':=tk) λb o e=>U0 _ e,Rf _ lo (hi-lo).toNat,?_,λb hb=>?_,q⟩
  .have e1:lo+((0:Nat):Int)*1=lo:=by simp
   have e2:(((hi-lo).toNat:Nat):Int)-((0:Nat):Int)=Builtin.Range.rangeSize lo hi 1:=by rw[rangeSize_one];split<;>lia
   show IsRangeIter _ _ (lo+((0:Nat):Int)*1) ((((hi-lo).toNat:Nat):Int)-((0:Nat):Int)) 1;rw[e1,e2];exact X1 _ rfl
  .have e:b=(s.heap.push {cls:=.type "range",data:=.fields #[.int lo t,.int hi u,.int 1 v]}).objs.size:=by simpa using hb
   subst e;exact I1.fpOk (j1 _) (I1.hok.fresh (j1 _))
inductive Ks(R:It->Hp->Prop)(vs:List V)(H1:Hp):Prop
 |mk (j:Int):vs=[.int j]->-(2^62)<=j->j<2^62->R (By 0 j.toNat) H1->Ks R vs H1
def zes(ta:TA):TI:=λσ H R=>ta σ H (Ks R)
inductive Ls(R:It->Hp->Prop)(vs:List V)(H1:Hp):Prop
 |mk (i j:Int):vs=[.int i,.int j]->(-(2^62)<=i/\i<2^62/\-(2^62)<=j/\j<2^62)->R (By i (j-i).toNat) H1->Ls R vs H1
def zet(ta:TA):TI:=λσ H R=>ta σ H (Ls R)
theorem ZH{p:Pos}(hg:Gl X "range") (hm:X.mg "range"= none) (ha:PA X [a] ta) (hs:starEach [a] X.env=[(false,eval a X.env)]:=by rfl):PI X tg (.Call (.Name "range" p) [a] [] pos) (zes ta):=by
 intro pins s σ H R I h;refine Call_ (fJ I hg hm boot_range (b6 (i8 (ha pos pins s σ H _ I h) λus s1 ⟨vs,H1,I1,r1,q1⟩=>?_) hs rfl));obtain⟨j,e,q1,q2,q⟩:=q1;subst e;cases r1 with
 |cons r rr=>
  cases rr;obtain⟨t,rfl⟩:=r;exact call_range_1 (vZ I1 (by lia) (by lia) q1 q2 (by simpa using q))
theorem hW{b:Expr}{p:Pos}(hg:Gl X "range") (hm:X.mg "range"= none) (ha:PA X [a,b] ta) (hs:starEach [a,b] X.env=[(false,eval a X.env),(false,eval b X.env)]:=by rfl) (hs2:starEach [b] X.env=[(false,eval b X.env)]:=by rfl) :
  PI X tg (.Call (.Name "range" p) [a,b] [] pos) (zet ta):=by
 intro pins s σ H R I h;refine Call_ (fJ I hg hm boot_range (b6 (i8 (ha pos pins s σ H _ I h) λus s1 ⟨vs,H1,I1,r1,q1⟩=>?_) (by rw[hs,hs2]) (by rw[hs2];rfl)));obtain⟨i,j,e,⟨q1,q2,q3,q4⟩,q⟩:=q1;subst e;cases r1 with
 |cons r rr=>
  cases rr with
  |cons r' rr=>
   cases rr;obtain⟨t,rfl⟩:=r;obtain⟨t',rfl⟩:=r';exact call_range_2 (vZ I1 q1 q2 q3 q4 q)
def zhi(wi:TI)(g:TG)(tb:TS):TS:=λD σ H=>wi σ H λJ H1=>∃W:Nat->Nat->St->Hp->Prop,(∃m,W 0 m σ H1)/\∀i m σ H,W i m σ H->
 (J.stop i H/\D.nx σ H)\/(J.go i H/\∃N:St->Hp->Prop,(∀σ' H',N σ' H'->∃m',m'<m/\W (i+1) m' σ' H')/\∀x H',J.yld i H x H'->g x σ H' λσ2 H2=>tb {D with nx:=N,ct:=N,bk:=D.nx} σ2 H2)
def xS(fp:List Addr)(h:Heap):List (Addr×Obj):=fp.filterMap λb=>(h.get? b).map λo=>(b,o)
theorem jJ{b:Addr}{o:Obj}(hb:b∈fp) (e:h.get? b=some o):(b,o)∈xS fp h:=o6.mpr ⟨b,hb,by rw[e];rfl⟩
theorem Zn{p:Addr×Obj}(hp:p∈xS fp h):p.1∈fp/\h.get? p.1=some p.2:=by
 obtain⟨b,hb,e⟩:=o6.mp hp;cases q:h.get? b with
 |none=>grind
 |some o=>
  rw[q]at e;have e':(b,o)=p:=J0 e;subst e';grind
theorem V2.pinned(I:V2 X pins σ H s)(hf:∀b∈fp,OK X pins H b)(ho:∀b∈fp,∃o,s.heap.get? b=some o/\∀v,o.data≠.cell v):V2 X (pins++xS fp s.heap) σ H s:=
 I.pins_of λp hp=>(N2.mp hp).elim (λz=>I.pin p (Y3 _ z)) λz=>by
  obtain⟨hb,e⟩:=Zn z;obtain⟨f0,f1,f2,_⟩:=hf p.1 hb;obtain⟨o,e',d⟩:=ho p.1 hb;grind
theorem V2.unpinned{pl:List (Addr×Obj)}(I:V2 X (pins++pl) σ H s):V2 X pins σ H s:=I.pins_of λp hp=>I.pin p (Y3 _ (n6 _ hp))
theorem E8{DF:Expr}{body:List Stmt}{wi:TI}(hp:PassesOwn (model X.prog X.w) X.A X.env X.xe) (hc:X.calm=true) (hi:PI X tg DF wi) (hg:PG X tg g) (hb:Nr X body tb)
 (hs:∀x,foldedSetIterable DF X.env x=pure x:=by intro _;rfl):PS X (.For tg DF body [] pos) (zhi wi g tb):=by
  intro pins s σ H D I h;refine wpAny_For (i8 (hi pins s σ H _ I h) λv s1 h1=>i8 h1 λitv s2 h2=>?_) hs;obtain⟨it,fp,tn,J,H2,e,I2,T,Ij,f2,W,⟨m0,w0⟩,turn⟩:=h2;subst e;have Jj:∀{H':Hp},(∀b∈fp,H' b=none)->∀b∈fp,OK X pins H' b:=λhn b hb=>⟨hn b hb,(f2 b hb).2⟩
  refine codeAny_forLoop_any (λn s'=>∃i σ' H',V2 X pins σ' H' s'/\tn i s'.heap/\(∀b∈fp,H' b=none)/\W i n σ' H') ?_ m0 ⟨0,σ,H2,I2,Ij,λb hb=>(f2 b hb).1,w0⟩;rintro n s3 ⟨i,σ3,H3,I3,Ex,fr3,w3⟩;rcases turn i n σ3 H3 w3 with⟨stop,qn⟩|⟨go,N,hN,step⟩
  .refine T9 hp (i8 (T.done X rfl rfl rfl hc i pins s3 σ3 H3 X.xe I3 (Jj fr3) Ex stop) λr s4 ⟨hr,I4⟩=>?_);subst hr;exact NC ⟨σ3,H3,I4,qn⟩
  .refine T9 hp (i8 (T.item X rfl rfl rfl hc i pins s3 σ3 H3 X.xe I3 (Jj fr3) Ex go) λr s4 ⟨u,hr,h4⟩=>?_);subst hr;refine T9 hp (i8 h4 λ_ s5 ⟨x,H5,I5,r5,y5,st5,fr5⟩=>?_);have I5':=I5.pinned (Jj fr5) (T.obj _ _ st5);refine T9 hp (i8 (hg _ s5 σ3 H5 x u _ I5' r5 (step x H5 y5)) λ_ s6 ⟨σ6,H6,I6,q6⟩=>?_);refine T9 hp (i8 (hb _ s6 σ6 H6 _ I6 q6) λf s7 q7=>?_);have again:∀{σ7:St}{H7:Hp},V2 X (pins++xS fp s5.heap) σ7 H7 s7->N σ7 H7->∃m,m<n/\∃i σ' H',V2 X pins σ' H' s7/\tn i s7.heap/\(∀b∈fp,H' b=none)/\W i m σ' H':=λ{σ7 H7} I7 n7=>by
    obtain⟨m',hm,w7⟩:=hN σ7 H7 n7;refine⟨m',hm,i+1,σ7,H7,I7.unpinned,T.keep _ _ _ st5 λb hb o e=>(I7.pin (b,o) (Y3 _ (Y3 _ (jJ hb e)))).1,λb hb=>?_,w7⟩;obtain⟨o,e,d⟩:=T.obj _ _ st5 b hb;exact(I7.pin (b,o) (Y3 _ (Y3 _ (jJ hb e)))).2.1
   cases f with
   |next=>obtain⟨σ7,H7,I7,n7⟩:=q7;exact again I7 n7
   |cont=>obtain⟨σ7,H7,I7,n7⟩:=q7;exact again I7 n7
   |brk=>obtain⟨σ7,H7,I7,q7⟩:=q7;exact⟨σ7,H7,I7.unpinned,q7⟩
   |ret v=>obtain⟨x7,σ7,H7,I7,r7,q7⟩:=q7;exact⟨x7,σ7,H7,I7.unpinned,r7,q7⟩
end
theorem DA{a:Addr}(Pv:Nat->St->Hp->Prop) (h0:Pv 0 σ H) (hl:∀i σ H,i<=xs.length->Pv i σ H->SqL K H a xs)
 (hs:∀i x σ H,xs[i]?=some x->Pv i σ H->g x σ H λσ2 H2=>tb {D with nx:=Pv (i+1),ct:=Pv (i+1),bk:=D.nx} σ2 H2) (hd:∀σ H,Pv xs.length σ H->D.nx σ H) :
   ∃W:Nat->Nat->St->Hp->Prop,(∃m,W 0 m σ H)/\∀i m σ H,W i m σ H->
    ((Is K a).stop i H/\D.nx σ H)\/((Is K a).go i H/\∃N:St->Hp->Prop,(∀σ' H',N σ' H'->∃m',m'<m/\W (i+1) m' σ' H')/\∀x H',(Is K a).yld i H x H'->g x σ H' λσ2 H2=>tb {D with nx:=N,ct:=N,bk:=D.nx} σ2 H2):=by
  refine⟨λi m σ H=>m=xs.length-i/\i<=xs.length/\Pv i σ H,⟨xs.length,by simp,E1 _,h0⟩,?_⟩;rintro i m σ H ⟨rfl,hi,p⟩;have q:=hl i σ H hi p;by_cases UC:i<xs.length
  .refine .inr ⟨⟨xs,xs[i],q,by simp[UC]⟩,Pv (i+1),λσ' H' p'=>⟨xs.length-(i+1),by lia,rfl,UC,p'⟩,λx H' y=>?_⟩;obtain⟨e,y⟩:=y;subst e;grind
  .have e:i=xs.length:=by lia
   subst e;exact .inl ⟨⟨xs,q,j1 _⟩,hd σ H p⟩
theorem Rj{a:Addr}(Pv:Nat->St->Hp->Prop) (h0:Pv 0 σ H) (hl:∀i σ H,i<=xs.length->Pv i σ H->S9 K H a xs)
 (hs:∀i x σ H,xs[i]?=some x->Pv i σ H->g x σ H λσ2 H2=>tb {D with nx:=Pv (i+1),ct:=Pv (i+1),bk:=D.nx} σ2 H2) (hd:∀σ H,Pv xs.length σ H->D.nx σ H) :
   ∃W:Nat->Nat->St->Hp->Prop,(∃m,W 0 m σ H)/\∀i m σ H,W i m σ H->
    ((Itt K a).stop i H/\D.nx σ H)\/((Itt K a).go i H/\∃N:St->Hp->Prop,(∀σ' H',N σ' H'->∃m',m'<m/\W (i+1) m' σ' H')/\∀x H',(Itt K a).yld i H x H'->g x σ H' λσ2 H2=>tb {D with nx:=N,ct:=N,bk:=D.nx} σ2 H2):=by
  refine⟨λi m σ H=>m=xs.length-i/\i<=xs.length/\Pv i σ H,⟨xs.length,by simp,E1 _,h0⟩,?_⟩;rintro i m σ H ⟨rfl,hi,p⟩;have q:=hl i σ H hi p;by_cases UC:i<xs.length
  .refine .inr ⟨⟨xs,xs[i],q,by simp[UC]⟩,Pv (i+1),λσ' H' p'=>⟨xs.length-(i+1),by lia,rfl,UC,p'⟩,λx H' y=>?_⟩;obtain⟨e,y⟩:=y;subst e;exact hs i x σ _ (y xs q) p
  .have e:i=xs.length:=by lia
   subst e;exact .inl ⟨⟨xs,q,j1 _⟩,hd σ H p⟩
theorem UL{n:Nat}(Pv:Nat->St->Hp->Prop) (h0:Pv 0 σ H)
 (hs:∀i σ H,i<n->Pv i σ H->g (.int (lo+i)) σ H λσ2 H2=>tb {D with nx:=Pv (i+1),ct:=Pv (i+1),bk:=D.nx} σ2 H2) (hd:∀σ H,Pv n σ H->D.nx σ H) :
   ∃W:Nat->Nat->St->Hp->Prop,(∃m,W 0 m σ H)/\∀i m σ H,W i m σ H->
    ((By lo n).stop i H/\D.nx σ H)\/((By lo n).go i H/\∃N:St->Hp->Prop,(∀σ' H',N σ' H'->∃m',m'<m/\W (i+1) m' σ' H')/\∀x H',(By lo n).yld i H x H'->g x σ H' λσ2 H2=>tb {D with nx:=N,ct:=N,bk:=D.nx} σ2 H2):=by
  refine⟨λi m σ H=>m=n-i/\i<=n/\Pv i σ H,⟨n,by simp,E1 _,h0⟩,?_⟩;rintro i m σ H ⟨rfl,hi,p⟩;by_cases UC:i<n
  .refine .inr ⟨UC,Pv (i+1),λσ' H' p'=>⟨n-(i+1),by lia,rfl,UC,p'⟩,λx H' y=>?_⟩;obtain⟨e,y⟩:=y;subst e y;exact hs i σ _ UC p
  .have e:i=n:=by lia
   subst e;exact .inl ⟨j1 _,hd σ H p⟩
theorem vN{c:TT}(Pv:St->Hp->Prop) (μ:St->Hp->Nat) (h0:Pv σ H)
 (hs:∀σ H,Pv σ H->c σ H λb H1=>if b=true then tb {D with nx:=λσ' H'=>Pv σ' H'/\μ σ' H'<μ σ H,ct:=λσ' H'=>Pv σ' H'/\μ σ' H'<μ σ H,bk:=D.nx} σ H1 else D.nx σ H1)
 (mono:∀σ H Q Q',(∀b H1,Q b H1->Q' b H1)->c σ H Q->c σ H Q'):Hs c tb D σ H:=by
  refine⟨λm σ H=>m=μ σ H/\Pv σ H,⟨_,rfl,h0⟩,?_⟩;rintro m σ H ⟨rfl,p⟩;refine mono σ H _ _ (λb H1 q=>?_) (hs σ H p);cases b with
  |true=>exact⟨_,λσ' H' ⟨p',l⟩=>⟨_,l,rfl,p'⟩,q⟩
  |false=>exact q
end L2
namespace L2
open PySem PySem.Spec PyProof.Rows
variable {op op':CmpOp}{X:Cx}{a b c:Expr}{H:Hp}{g:Int->Int->Int}{pins:List (Addr×Obj)}{pos:Pos}{s:Shared}{σ:St}{ta tb tc:TE}{f:Value->Value->Sem Value}
abbrev R2:=V->V->Hp->VK->Prop
variable {r':R2}
def kJ(X:Cx)(f:Value->Value->Sem Value)(r:R2):Prop:=
 ∀(pins:List (Addr×Obj))(s:Shared)(σ:St)(H:Hp)(x y:V)(v u:Value)(Q:VK),V2 X pins σ H s->R4 x v->R4 y u->r x y H Q->
  wpAny (model X.prog X.w) X.A (f v u) (EP X pins σ Q) X.xe s
def UnR(X:Cx)(f:Value->Sem Value)(r:V->Hp->VK->Prop):Prop:=
 ∀(pins:List (Addr×Obj))(s:Shared)(σ:St)(H:Hp)(x:V)(v:Value)(Q:VK),V2 X pins σ H s->R4 x v->r x H Q->
  wpAny (model X.prog X.w) X.A (f v) (EP X pins σ Q) X.xe s
def QK(X:Cx)(f:Value)(r:List V->Hp->VK->Prop):Prop:=
 ∀(pins:List (Addr×Obj))(s:Shared)(σ:St)(H:Hp)(xs:List V)(us:List Value)(Q:VK),V2 X pins σ H s->k4 xs us->r xs H Q->
  wpAny (model X.prog X.w) X.A (call f us) (EP X pins σ Q) X.xe s
def tOp(r:R2)(ta tb:TE):TE:=λσ H Q=>ta σ H λx H1=>tb σ H1 λy H2=>r x y H2 Q
def tUn(r:V->Hp->VK->Prop)(ta:TE):TE:=λσ H Q=>ta σ H λx H1=>r x H1 Q
inductive rI(C:Int->Int->Prop)(g:Int->Int->V)(x:V)(y:V)(H:Hp)(Q:VK):Prop
 |mk (i j:_):x=.int i->y=.int j->C i j->Q (g i j) H->rI C g x y H Q
inductive eV(g:Int->Int->V)(x:V)(y:V)(H:Hp)(Q:VK):Prop
 |mk (i j:_):x=.int i->y=.int j->Q (g i j) H->eV g x y H Q
inductive rU(g:Int->V)(x:V)(H:Hp)(Q:VK):Prop
 |mk (i:_):x=.int i->Q (g i) H->rU g x H Q
theorem zcd(ha:PE X a ta)(hb:PE X b tb){R:V->V->Hp->Prop}(I:V2 X pins σ H s)
 (h:ta σ H λx H1=>tb σ H1 λy H2=>R x y H2) {Q:Value->Shared->Prop}
 (hf:∀v u s2 x y H2,V2 X pins σ H2 s2->R4 x v->R4 y u->R x y H2->wpAny (model X.prog X.w) X.A (f v u) Q X.xe s2) :
   wpAny (model X.prog X.w) X.A (eval a X.env) (λv s₁=>wpAny (model X.prog X.w) X.A (eval b X.env) (λu s₂=>wpAny (model X.prog X.w) X.A (f v u) Q X.xe s₂) X.xe s₁) X.xe s:=by
  refine i8 (ha pins s σ H _ I h) λv s1 ⟨x,H1,I1,r1,q1⟩=>?_;refine i8 (hb pins s1 σ H1 _ I1 q1) λu s2 ⟨y,H2,I2,r2,q2⟩=>?_;exact hf v u s2 x y H2 I2 r1 r2 q2
theorem W4{op:Operator}{r:R2}(ho:kJ X (binaryOp op) r) (ha:PE X a ta) (hb:PE X b tb):PE X (.BinOp a op b pos) (tOp r ta tb):=by
 intro pins s σ H Q I h;exact wpAny_BinOp (zcd ha hb I h λv u s2 x y H2 I2 rx ry q=>ho pins s2 σ H2 x y v u Q I2 rx ry q)
theorem bK{op:UnaryOp}{r:V->Hp->VK->Prop}(ho:UnR X (unaryOp op) r) (ha:PE X a ta):PE X (.UnaryOp op a pos) (tUn r ta):=by
 intro pins s σ H Q I h;exact UnaryOp_ (i8 (ha pins s σ H _ I h) λv s1 ⟨x,H1,I1,r1,q1⟩=>ho pins s1 σ H1 x v Q I1 r1 q1)
theorem opI{C:Int->Int->Prop}
 (rule:∀(i j:Int)(t u:Tok)(s:Shared)(Q:Value->Shared->Prop)(E:Value->Shared->Prop),C i j->Q (.int (g i j) s.toks) {s with toks:=s.toks+1}->wpAny (model X.prog X.w) X.A (f (.int i t) (.int j u)) Q E s) :
   kJ X f (rI C λi j=>.int (g i j)):=by
  intro pins s σ H x y v u Q I rx ry h;obtain⟨i,j,rfl,rfl,hc,q⟩:=h;obtain⟨t,rfl⟩:=rx;obtain⟨t',rfl⟩:=ry;exact rule i j t t' s _ _ hc ⟨.int (g i j),H,I.tok _,⟨_,rfl⟩,q⟩
theorem Uy
 (rule:∀(i j:Int)(t u:Tok)(s:Shared)(Q:Value->Shared->Prop)(E:Value->Shared->Prop),Q (.int (g i j) s.toks) {s with toks:=s.toks+1}->wpAny (model X.prog X.w) X.A (f (.int i t) (.int j u)) Q E s) :
   kJ X f (eV λi j=>.int (g i j)):=by
  intro pins s σ H x y v u Q I rx ry h;obtain⟨i,j,rfl,rfl,q⟩:=h;obtain⟨t,rfl⟩:=rx;obtain⟨t',rfl⟩:=ry;exact rule i j t t' s _ _ ⟨.int (g i j),H,I.tok _,⟨_,rfl⟩,q⟩
theorem Vy{g:Int->Int->Bool}
 (rule:∀(i j:Int)(t u:Tok)(s:Shared)(Q:Value->Shared->Prop)(E:Value->Shared->Prop),Q (.bool (g i j)) s->wpAny (model X.prog X.w) X.A (f (.int i t) (.int j u)) Q E s) :
   kJ X f (eV λi j=>.bl (g i j)):=by
  intro pins s σ H x y v u Q I rx ry h;obtain⟨i,j,rfl,rfl,q⟩:=h;obtain⟨t,rfl⟩:=rx;obtain⟨t',rfl⟩:=ry;exact rule i j t t' s _ _ ⟨.bl (g i j),H,I,rfl,q⟩
def zhj(i j:Int):Prop:=0<=j/\j<=1000000/\i.natAbs<2^64
def zce(i j:Int):Prop:=(-(2^64)<i/\i<2^64)\/(-(2^64)<j/\j<2^64)
theorem zce.ok{i j:Int}(h:zce i j):IntMulOk i j:=by
 rcases h with⟨h1,h2⟩|⟨h1,h2⟩
 .exact .of_left (intBits_le_64 h1 h2)
 .exact .of_right (intBits_le_64 h1 h2)
theorem Sf(k:Nat):(0:Int)<=2^k:=by
 grind
theorem uC:kJ X (binaryOp .Add) (eV λi j=>.int (i+j)):=Uy λ_ _ _ _ _ _ _ q=>add_int q
theorem vC:kJ X (binaryOp .Sub) (eV λi j=>.int (i-j)):=Uy λ_ _ _ _ _ _ _ q=>sub_int q
theorem zcf:kJ X (binaryOp .Mult) (rI zce λi j=>.int (i*j)):=opI λ_ _ _ _ _ _ _ hc q=>mul_int q hc.ok
theorem Tf:kJ X (binaryOp .Mod) (rI (λ_ j=>0<j) λi j=>.int (i%j)):=opI λi j _ _ _ _ _ hc q=>by
 have h1:(0:Int)<j:=hc;exact mod_int' (by lia) (by rw[Int.fmod_eq_emod_of_nonneg i (by lia)];exact q)
theorem yS:kJ X (binaryOp .LShift) (rI zhj λi j=>.int (i*2^j.toNat)):=opI λ_ _ _ _ _ _ _ hc q=>lshift_int_small hc.1 hc.2.1 hc.2.2 q
theorem Ms:kJ X (binaryOp .RShift) (rI (λ_ j=>0<=j) λi j=>.int (i/2^j.toNat)):=opI λi j _ _ _ _ _ hc q=>
 rshift_int hc (by rw[Int.fdiv_eq_ediv_of_nonneg i (Sf _)];exact q)
theorem JX:kJ X (binaryOp .BitAnd) (eV λi j=>.int (Builtin.bitAnd i j)):=Uy λ_ _ _ _ _ _ _ q=>and_int q
theorem wZ:kJ X (binaryOp .BitOr) (eV λi j=>.int (Builtin.bitOr i j)):=Uy λ_ _ _ _ _ _ _ q=>or_int q
theorem unI{f:Value->Sem Value}{g:Int->Int}
 (rule:∀(i:Int)(t:Tok)(s:Shared)(Q:Value->Shared->Prop)(E:Value->Shared->Prop),Q (.int (g i) s.toks) {s with toks:=s.toks+1}->wpAny (model X.prog X.w) X.A (f (.int i t)) Q E s) :
   UnR X f (rU λi=>.int (g i)):=by
  intro pins s σ H x v Q I rx h;obtain⟨i,rfl,q⟩:=h;obtain⟨t,rfl⟩:=rx;exact rule i t s _ _ ⟨.int (g i),H,I.tok _,⟨_,rfl⟩,q⟩
theorem jG:UnR X (unaryOp .USub) (rU λi=>.int (-i)):=unI λ_ _ _ _ _ q=>neg_int q
theorem zcg:UnR X (unaryOp .Invert) (rU λi=>.int (Builtin.bitNot i)):=unI λ_ _ _ _ _ q=>invert_int q
def zeu:V->V->Bool
 |.non,.non=>true|.non,.int _=>true|.int _,.non=>true|.non,.bl _=>true|.bl _,.non=>true|.non,.str _=>true|.str _,.non=>true
 |.int _,.int _=>true|.bl _,.bl _=>true|.str _,.str _=>true|.byt _,.byt _=>true
 |.int _,.str _=>true|.str _,.int _=>true|.bl _,.str _=>true|.str _,.bl _=>true
 |_,_=>false
def rEq:R2:=λx y H Q=>zeu x y=true/\Q (.bl (decide (x=y))) H
def rNe:R2:=λx y H Q=>zeu x y=true/\Q (.bl (!decide (x=y))) H
theorem Sj{i j:Int}:decide (V.int i=V.int j)=(i==j):=by
 rw[Z2];simp
theorem Os{i j:Bool}:decide (V.bl i=V.bl j)=(i==j):=by
 rw[Z2];simp
theorem Tj{i j:Str}:decide (V.str i=V.str j)=(i==j):=by
 rw[Z2];simp
theorem Uj{i j:Array UInt8}:decide (V.byt i=V.byt j)=(i.toList==j.toList):=by
 rw[Z2];cases i;cases j;simp
theorem i7{Q:VK}{k k':Bool}(I:V2 X pins σ H s) (q:Q (.bl k) H) (e:k=k'):EP X pins σ Q (.bool k') s:=by
 subst e;exact⟨.bl k,H,I,rfl,q⟩
theorem qC:kJ X (compareOp .Eq) rEq:=by
 intro pins s σ H x y v u Q I rx ry h;obtain⟨hs,q⟩:=h;cases x with
 |non=>
  cases rx;cases y with
  |non=>cases ry;exact PySem.EqNone.eq_none_none (i7 I q (by simp))
  |bl j=>cases ry;exact PySem.EqNone.eq_none_bool (i7 I q (by simp))
  |int j=>obtain⟨t',rfl⟩:=ry;exact PySem.EqNone.eq_none_int (i7 I q (by simp))
  |str j=>obtain⟨t',rfl⟩:=ry;exact PySem.EqNone.eq_none_str (i7 I q (by simp))
  |_=>exact absurd (show false=true from hs) T1
 |bl i=>
  cases rx;cases y with
  |non=>cases ry;exact PySem.EqNone.eq_bool_none (i7 I q (by simp))
  |bl j=>cases ry;exact eq_bool (i7 I q Os)
  |str j=>obtain⟨t',rfl⟩:=ry;exact PySem.EqMixed.eq_bool_str (i7 I q (by simp))
  |_=>exact absurd (show false=true from hs) T1
 |int i=>
  obtain⟨t,rfl⟩:=rx;cases y with
  |non=>cases ry;exact PySem.EqNone.eq_int_none (i7 I q (by simp))
  |int j=>obtain⟨t',rfl⟩:=ry;exact eq_int (i7 I q Sj)
  |str j=>obtain⟨t',rfl⟩:=ry;exact PySem.EqMixed.eq_int_str (i7 I q (by simp))
  |_=>exact absurd (show false=true from hs) T1
 |str i=>
  obtain⟨t,rfl⟩:=rx;cases y with
  |non=>cases ry;exact PySem.EqNone.eq_str_none (i7 I q (by simp))
  |bl j=>cases ry;exact PySem.EqMixed.eq_str_bool (i7 I q (by simp))
  |int j=>obtain⟨t',rfl⟩:=ry;exact PySem.EqMixed.eq_str_int (i7 I q (by simp))
  |str j=>obtain⟨t',rfl⟩:=ry;exact eq_str (i7 I q Tj)
  |_=>exact absurd (show false=true from hs) T1
 |byt i=>
  obtain⟨t,rfl⟩:=rx;cases y with
  |byt j=>obtain⟨t',rfl⟩:=ry;exact PySem.W.eq_bytes (i7 I q Uj)
  |_=>exact absurd (show false=true from hs) T1
 |_=>cases y<;>exact absurd (show false=true from hs) T1
theorem Vj:kJ X (compareOp .NotEq) rNe:=by
 intro pins s σ H x y v u Q I rx ry h;obtain⟨hs,q⟩:=h;cases x with
 |non=>
  cases rx;cases y with
  |non=>cases ry;exact PySem.EqNone.ne_none_none (i7 I q (by simp))
  |bl j=>cases ry;exact PySem.EqNone.ne_none_bool (i7 I q (by simp))
  |int j=>obtain⟨t',rfl⟩:=ry;exact PySem.EqNone.ne_none_int (i7 I q (by simp))
  |str j=>obtain⟨t',rfl⟩:=ry;exact PySem.EqNone.ne_none_str (i7 I q (by simp))
  |_=>exact absurd (show false=true from hs) T1
 |bl i=>
  cases rx;cases y with
  |non=>cases ry;exact PySem.EqNone.ne_bool_none (i7 I q (by simp))
  |bl j=>cases ry;exact ne_bool (i7 I q (P7 not Os))
  |str j=>obtain⟨t',rfl⟩:=ry;exact PySem.EqMixed.ne_bool_str (i7 I q (by simp))
  |_=>exact absurd (show false=true from hs) T1
 |int i=>
  obtain⟨t,rfl⟩:=rx;cases y with
  |non=>cases ry;exact PySem.EqNone.ne_int_none (i7 I q (by simp))
  |int j=>obtain⟨t',rfl⟩:=ry;exact ne_int (i7 I q (P7 not Sj))
  |str j=>obtain⟨t',rfl⟩:=ry;exact PySem.EqMixed.ne_int_str (i7 I q (by simp))
  |_=>exact absurd (show false=true from hs) T1
 |str i=>
  obtain⟨t,rfl⟩:=rx;cases y with
  |non=>cases ry;exact PySem.EqNone.ne_str_none (i7 I q (by simp))
  |bl j=>cases ry;exact PySem.EqMixed.ne_str_bool (i7 I q (by simp))
  |int j=>obtain⟨t',rfl⟩:=ry;exact PySem.EqMixed.ne_str_int (i7 I q (by simp))
  |str j=>obtain⟨t',rfl⟩:=ry;exact ne_str (i7 I q (P7 not Tj))
  |_=>exact absurd (show false=true from hs) T1
 |byt i=>
  obtain⟨t,rfl⟩:=rx;cases y with
  |byt j=>obtain⟨t',rfl⟩:=ry;exact PySem.W.ne_bytes (i7 I q (P7 not Uj))
  |_=>exact absurd (show false=true from hs) T1
 |_=>cases y<;>exact absurd (show false=true from hs) T1
theorem Wj:kJ X (compareOp .Lt) (eV λi j=>.bl (decide (i<j))):=Vy λ_ _ _ _ _ _ _ q=>lt_int q
theorem DC:kJ X (compareOp .LtE) (eV λi j=>.bl (decide (i<=j))):=Vy λ_ _ _ _ _ _ _ q=>le_int q
theorem sQ:kJ X (compareOp .Gt) (eV λi j=>.bl (decide (j<i))):=Vy λ_ _ _ _ _ _ _ q=>gt_int q
theorem za7:kJ X (compareOp .GtE) (eV λi j=>.bl (decide (j<=i))):=Vy λ_ _ _ _ _ _ _ q=>ge_int q
theorem Xj:kJ X (compareOp .IsNot) (λx y H Q=>y=.non/\Q (.bl (!decide (x=.non))) H):=by
 intro pins s σ H x y v u Q I rx ry h;obtain⟨rfl,q⟩:=h;cases ry;refine isnot_none_gen (i7 I q ?_);cases x<;>first
  |(cases rx;rfl)
  |(obtain⟨t,rfl⟩:=rx;rfl)
theorem U3(b:Expr)(h:op≠.In:=by decide)(h2:op≠.NotIn:=by decide):behindInMarks op b=false:=by
 have e1:(op==CmpOp.In)=false:=by grind
 have e2:(op==CmpOp.NotIn)=false:=by grind
 cases b<;>simp[behindInMarks,e1,e2]
theorem yA{r:R2}(ho:kJ X (compareOp op) r) (ha:PE X a ta) (hb:PE X b tb) (hm:behindInMarks op b=false):PE X (.Compare a [op] [b] pos) (tOp r ta tb):=by
 intro pins s σ H Q I h;exact wpAny_Compare1 (zcd ha hb I h λv u s2 x y H2 I2 rx ry q=>ho pins s2 σ H2 x y v u Q I2 rx ry q) hm
inductive Ps(Q:Bool->Hp->Prop)(x:V)(H':Hp):Prop
 |mk (k:_):x=.bl k->Q k H'->Ps Q x H'
def Qs(t:TE):TT:=λσ H Q=>t σ H (Ps Q)
theorem V3{r:R2}(ho:kJ X (compareOp op) r) (ha:PE X a ta) (hb:PE X b tb) (hm:behindInMarks op b=false):PT X (.Compare a [op] [b] pos) (Qs (tOp r ta tb)):=by
 intro pins s σ H Q I h;refine pK (i8 (ha pins s σ H _ I h) λv s1 ⟨x,H1,I1,r1,q1⟩=>i8 (hb pins s1 σ H1 _ I1 q1) λu s2 ⟨y,H2,I2,r2,q2⟩=>
  i8 (ho pins s2 σ H2 x y v u _ I2 r1 r2 q2) λc s3 ⟨z,H3,I3,r3,k,e,q3⟩=>?_) hm
 subst e;cases r3;exact D5 ⟨H3,I3,q3⟩
def fP(r r':R2)(ta tb tc:TE):TE:=λσ H Q=>ta σ H λx H1=>tb σ H1 λy H2=>r x y H2 λz H3=>∃k,z=.bl k/\
 (if k=true then tc σ H3 λw' H4=>r' y w' H4 Q else Q (.bl false) H3)
theorem aI{r:R2}(ho:kJ X (compareOp op) r) (En:kJ X (compareOp op') r') (ha:PE X a ta) (hb:PE X b tb) (hc:PE X c tc)
 (hm:lastMarks [op,op'] [b,c]=false:=by with_unfolding_all rfl):PE X (.Compare a [op,op'] [b,c] pos) (fP r r' ta tb tc):=by
  intro pins s σ H Q I h;refine Compare_chain (i8 (ha pins s σ H _ I h) λv s1 ⟨x,H1,I1,r1,q1⟩=>chain_link (i8 (hb pins s1 σ H1 _ I1 q1) λu s2 ⟨y,H2,I2,r2,q2⟩=>
   i8 (ho pins s2 σ H2 x y v u _ I2 r1 r2 q2) λd s3 ⟨z,H3,I3,r3,k,e,q3⟩=>?_)) hm
  subst e;cases r3;refine D5 ?_;cases k with
  |false=>exact ite_ff ⟨.bl false,H3,I3,rfl,q3⟩
  |true=>exact ite_tt (chain_last (i8 (hc pins s3 σ H3 _ I3 q3) λw' s4 ⟨z',H4,I4,r4,q4⟩=>En pins s4 σ H4 y z' u w' Q I4 r2 r4 q4))
theorem xZ{r:R2}(ho:kJ X (compareOp op) r) (En:kJ X (compareOp op') r') (ha:PE X a ta) (hb:PE X b tb) (hc:PE X c tc)
 (hm:lastMarks [op,op'] [b,c]=false:=by with_unfolding_all rfl):PT X (.Compare a [op,op'] [b,c] pos) (Qs (fP r r' ta tb tc)):=by
  intro pins s σ H Q I h;refine isTrue_chain (i8 (ha pins s σ H _ I h) λv s1 ⟨x,H1,I1,r1,q1⟩=>test_link (i8 (hb pins s1 σ H1 _ I1 q1) λu s2 ⟨y,H2,I2,r2,q2⟩=>
   i8 (ho pins s2 σ H2 x y v u _ I2 r1 r2 q2) λd s3 ⟨z,H3,I3,r3,k,e,q3⟩=>?_)) hm
  subst e;cases r3;refine D5 ?_;cases k with
  |false=>
   obtain⟨k',e',q'⟩:=q3;cases e';exact ite_ff ⟨H3,I3,q'⟩
  |true=>
   refine ite_tt (test_last (i8 (hc pins s3 σ H3 _ I3 q3) λw' s4 ⟨z',H4,I4,r4,q4⟩=>i8 (En pins s4 σ H4 y z' u w' _ I4 r2 r4 q4) λd' s5 ⟨z2,H5,I5,r5,k2,e2,q5⟩=>?_));subst e2;cases r5;exact D5 ⟨H5,I5,q5⟩
theorem gP:(sizeLine:Nat)<2^63:=by rw[YE];decide
theorem Yj{x:V}{us:List Value}(r:k4 [x] us):∃u,us=[u]/\R4 x u:=by
 cases r with
 |cons r1 r2=>cases r2;exact⟨_,rfl,r1⟩
theorem Rs:QK X (.builtin "ord") (λxs H Q=>∃x,xs=[.str x]/\x.length=1/\Q (.int (x.cps.getD 0 0:Nat)) H):=by
 intro pins s σ H xs us Q I r h;obtain⟨x,rfl,hz,q⟩:=h;obtain⟨u,rfl,t,rfl⟩:=Yj r;exact ord_of_one hz ⟨.int _,H,I.tok _,⟨_,rfl⟩,q⟩
end L2
namespace L2
open PySem PySem.Spec PyProof.Rows
variable {dx x C a:Addr}{A:Around}{b:Bool}{X:Cx}{e:Expr}{h:Heap}{H:Hp}{pins:List (Addr×Obj)}{o:Option Value}{pos:Pos}{prog:Program}{K:Frag}{pl:Sem Bool}{s:Shared}{σ:St}{f:Str}{mA:Str->Option Value}{u:Value}{E Q:Value->Shared->Prop}{w:World}
structure Uf(h:Heap)(x dx C:Addr)(mA:Str->Option Value):Prop where
 obj:h.get? x=some (instObj C dx)
 ns:h.Ns1 dx mA
 ne:dx≠x
theorem iP(n:h.Ns1 dx mA):∃od,h.get? dx=some od/\∀name,lookIn name od=some (mA name):=by
 obtain⟨o,es,ep,ho,hd,hk,_,hm⟩:=n;refine⟨o,ho,λname=>?_⟩;have e:=hm name;unfold nsFind findBy at e;rw[<-Array.find?_toList]at e;unfold lookIn;rw[hd];dsimp only;split
 .grind
 .rename_i q;rw[q]at e;have a:es.toList.any (·.refKey)=false:=by
   rw[List.any_eq_false];intro y hy;obtain⟨z,t,zdo⟩:=hk y (Array.mem_toList_iff.mp hy);simp[DictEntry.refKey,zdo]
  grind
theorem Uf.look(I:Uf h x dx C mA):∃od,PySem.W.InstAt h x (instObj C dx) C (some od)/\∀name,lookIn name od=some (mA name):=
 let ⟨od,ho,hl⟩:=iP I.ns
 ⟨od,⟨I.obj,rfl,rfl,ho⟩,hl⟩
section
variable {f:Addr}{name:Str}{v:Value}
theorem Wy{zhH:Bool}(X:K.In s.heap) (I:Uf s.heap x dx C mA) (hg:plainGet K C name=true) (hh:hasDictIn K C=true)
 (ha:findIn K (.ref C) name=some none) (hv:mA name=some v) (hv':handedIn v=true) (h:Q v {s with toks:=s.toks+1}) :
   wpAny (model prog w) A (getAttr (.ref x) name zhH) Q E s:=by
  obtain⟨od,J,hl⟩:=I.look;exact PySem.W.get_value X J (GF hg).1 (findObj_own hh ha rfl (by rw[hl,hv])) hv' h
theorem Ss{Q:Value×List Value->Shared->Prop}(X:K.In s.heap) (I:Uf s.heap x dx C mA) (hg:plainGet K C name=true)
 (hf:findIn K (.ref C) name=some (some (.ref f))) (ht:isFn K (.ref f)=true) (hv:mA name=none) (h:Q (.ref f,[.ref x]) s) :
   wpAny (model prog w) A (getMethod (.ref x) name pl) Q E s:=by
  obtain⟨od,J,hl⟩:=I.look;exact PySem.W.method_fn X J (GF hg).1 (GF hg).2 hf (L4.mp ht) (by show(lookIn name od).map (·.isSome)=some false;rw[hl,hv];rfl) h
theorem Xy{ns:List Str}{Q:Unit->Shared->Prop}(X:K.In s.heap) (I:Uf s.heap x dx C mA)
 (hs:findIn K (.ref C) "__setattr__"= some (some (.builtin "object.__setattr__"))) (hp:plainOver K C=true) (ht:takerIn K C name=some none) (hh:hasDictIn K C=true)
 (hw:PySem.Within mA ns) (hsz:ns.length<=sizeLine)
 (h:∀h',Uf h' x dx C (λy=>if y=name then some v else mA y)->Heap.SameBut dx s.heap h'->Q () {s with heap:=h',toks:=s.toks+2}) :
   wpAny (model prog w) A (setAttr (.ref x) name v) Q E s:=by
  obtain⟨od,J,hl⟩:=I.look;refine cH X J hs (PySem.W.osa_open (s:={s with toks:=s.toks+1}) (r:=none) X J hp ht λb=>?_);obtain⟨cd,hc,hd'⟩:=bC hh;have hx:s.heap.get? x=some ⟨.ref C,some dx,.plain,#[]⟩:=I.obj;refine z0 (S0 (z0 (z0 (EA hx (z0 (kG (s:={s with toks:=s.toks+1}) (zA X hc) ?_))))));rw[hd'];refine S0 (a:=some dx) (z0 (S0 (z0 ?_)));refine wN (s:={s with toks:=s.toks+1}) I.ns λh' hn2 hs2=>?_;obtain⟨oD,esD,epD,hoD,hdD,hcD⟩:=hn2.count (dH name v hw);refine z0 (bI hoD (by rw[hdD];exact cI (d4 hcD (by rw[M1];lia))) ?_);exact S0 (h _ ⟨(hs2.2 _ (K2 I.ne)).trans I.obj,hn2,I.ne⟩ hs2)
theorem Ts{R:Result->Shared->Prop}{vs:List Value}{kw:List (Str×Value)}(X:K.In s.heap) (hm:makesIn K C=true)
 (hi:findIn K (.ref C) "__init__"= some (some (.ref f))) (hf:typeIn K (.ref f)=some (.type "function"))
 (h:codeAny (model prog w) (A.under (.builtin "type.__call__" ⟨.ref C::vs,kw⟩)) (.call (.ref f) ⟨.ref (s.heap.objs.size+1)::vs,kw⟩) (InitBack (s.heap.objs.size+1) R)
 {s with heap:=(s.heap.push emptyDict).push (instObj C s.heap.objs.size)}) :
   codeAny (model prog w) A (.call (.ref C) ⟨vs,kw⟩) R s:=by
  obtain⟨hh,g,d,t,os⟩:=s;exact PySem.W.make_core (PySem.W.makes_of X hm) (bA X hi) (λself=>bind_fn X self hf) (.inl rfl) h
end
def lG(f:Str)(v:V):List (Str×V)->List (Str×V)
 |[]=>[(f,v)]
 |(g,x)::r=>if g=f then(g,v)::r else(g,x)::lG f v r
theorem RK(f g:Str)(v:V):∀fs:List (Str×V),(lG f v fs).lookup g=if g=f then some v else fs.lookup g
 |[]=>by
  show List.lookup g [(f,v)]=_;by_cases h:g=f
  all_goals grind
 |(k,x)::r=>by
  have ih:=RK f g v r;rw[show lG f v ((k,x)::r)=(if k=f then(k,v)::r else(k,x)::lG f v r)from rfl];by_cases hk:k=f
  .rw[K0 hk];by_cases h:g=k
   .grind
   .have hb:(g==k)=false:=X5.mpr h;simp only[List.lookup,hb,D0 (λe:g=f=>h (e.trans hk.symm))]
  .rw[D0 hk];grind
theorem eI(f:Str)(v:V):∀fs:List (Str×V),f∈(lG f v fs).map (·.1)/\∀g,g∈fs.map (·.1)->g∈(lG f v fs).map (·.1)
 |[]=>⟨by simp[lG],λg h=>by simp at h⟩
 |(k,x)::r=>by
  obtain⟨i1,i2⟩:=eI f v r;rw[show lG f v ((k,x)::r)=(if k=f then(k,v)::r else(k,x)::lG f v r)from rfl];by_cases hk:k=f
  .grind
  .rw[D0 hk];refine⟨?_,λg h=>?_⟩
   .grind
   .rw[C3]at h ⊢;rcases S1.mp h with e|e
    .grind
    .exact o3 _ (i2 g e)
theorem SK(f:Str)(v:V):∀fs:List (Str×V),(lG f v fs).length<=fs.length+1
 |[]=>by simp[lG]
 |(k,x)::r=>by
  have ih:=SK f v r;rw[show lG f v ((k,x)::r)=(if k=f then(k,v)::r else(k,x)::lG f v r)from rfl];by_cases hk:k=f
  all_goals grind
theorem eG.some_of{v:V}(r:eG (some v) o):∃u,o=some u/\R4 v u:=by
 cases o with
 |none=>exact(show False from r).elim
 |some u=>exact⟨u,rfl,r⟩
theorem eG.none_of(r:eG none o):o=none:=by
 cases o with
 |none=>rfl
 |some u=>exact(show False from r).elim
theorem iW{v:V}(r:R4 v u):handedIn u=true:=by
 cases v with
 |non=>cases (show u=Value.none from r);rfl
 |bl b=>cases (show u=Value.bool b from r);rfl
 |int i=>obtain⟨t,e⟩:=(show ∃t,u=Value.int i t from r);cases e;rfl
 |str x=>obtain⟨t,e⟩:=(show ∃t,u=Value.str x t from r);cases e;rfl
 |byt b=>obtain⟨t,e⟩:=(show ∃t,u=Value.bytes b t from r);cases e;rfl
 |flt b=>obtain⟨t,e⟩:=(show ∃t,u=Value.float b t from r);cases e;rfl
 |ref a=>cases (show u=Value.ref a from r);rfl
 |ty n=>cases (show u=Value.type n from r);rfl
section
variable {P:Program}{H':Hp}{h':Heap}{fs Dx:List (Str×V)}
theorem LX(hok:ZJ P w H h)(e:H a=some (.ins C dx fs)):∃mA,Uf h a dx C mA/\(∀f,eG (fs.lookup f) (mA f))/\PySem.Within mA (fs.map (·.1))/\fs.length<=1000/\H dx=some (.own a):=by
 obtain⟨d,z,ne,ob,mA,n,r,q⟩:=(show k9 P w H h a (.ins C dx fs)from hok a _ e)
 exact⟨mA,⟨ob,n,ne⟩,r,q,z,d⟩
end
structure Ao(K:Frag)(C:Addr):Prop where
 pg:plainGet K C Str.empty=true
 hd:hasDictIn K C=true
 po:plainOver K C=true
 sa:findIn K (.ref C) "__setattr__"= some (some (.builtin "object.__setattr__"))
theorem Ao.get(c:Ao K C)(f:Str):plainGet K C f=true:=c.pg
def D3(K:Frag)(C:Addr)(f:Str):Prop:=findIn K (.ref C) f=some none
theorem D3.taker(n:D3 K C f):takerIn K C f=some none:=by
 unfold takerIn;rw[show findIn K (.ref C) f=some none from n];rfl
structure Bo(K:Frag)(C:Addr)(m:Str)(f:Addr):Prop where
 at_:findIn K (.ref C) m=some (some (.ref f))
 fn:isFn K (.ref f)=true
 kp:keepIn K (.ref f)=true
section
variable {fs:List (Str×V)}{v:V}
theorem zS(I:V2 X pins σ H s)(e:H a=some (.ins C dx fs))(c:Ao X.K C)(n:D3 X.K C f)(l:fs.lookup f=some v)
 (h:∀u s',V2 X pins σ H s'->R4 v u->Q u s'):wpAny (model X.prog X.w) A (getAttr (.ref a) f b) Q E s:=by
  obtain⟨mA,O,r,_,_,_⟩:=LX I.hok e;obtain⟨u,hu,ru⟩:=eG.some_of (v:=v) (o:=mA f) (by rw[<-l];exact r f);exact Wy I.kIn O (c.get f) c.hd n hu (iW ru) (h u _ (I.tok _) ru)
theorem AS{m:Str}{g:Addr}{Q:Value×List Value->Shared->Prop}(I:V2 X pins σ H s) (e:H a=some (.ins C dx fs)) (c:Ao X.K C) (k:Bo X.K C m g) (l:fs.lookup m=none)
 (h:Q (.ref g,[.ref a]) s):wpAny (model X.prog X.w) A (getMethod (.ref a) m pl) Q E s:=by
  obtain⟨mA,O,r,_,_,_⟩:=LX I.hok e;have hn:mA m=none:=eG.none_of (by rw[<-l];exact r m);exact Ss I.kIn O (c.get m) k.at_ k.fn hn h
theorem CS{y:V}{Q:Unit->Shared->Prop}(I:V2 X pins σ H s) (e:H a=some (.ins C dx fs)) (c:Ao X.K C) (n:D3 X.K C f) (hl:fs.length<1000) (ry:R4 y u)
 (h:∀s',V2 X pins σ (upd H a (.ins C dx (lG f y fs))) s'->Q () s'):wpAny (model X.prog X.w) A (setAttr (.ref a) f u) Q E s:=by
  obtain⟨mA,O,r,wi,_,ho⟩:=LX I.hok e;have hz:(fs.map (·.1)).length<=sizeLine:=by rw[B0,YE];lia
  refine Xy I.kIn O c.sa c.po n.taker c.hd wi hz λh' O' sb=>h _ ?_;have hd:∃o,h'.get? dx=some o:=let ⟨o,_,_,e',_⟩:=O'.ns;⟨o,e'⟩
  refine I.write (x:=a) (e:=dx) (by rw[e];exact c9) (.inr ho) (λb q hb z=>(sb.2 b hb).trans z) hd ?_;refine⟨by rw[M0 O.ne];exact ho,?_,O.ne,O'.obj,_,O'.ns,λg=>?_,λg hg=>?_⟩
  .have:=SK f y fs;lia
  .show eG ((lG f y fs).lookup g) (if g=f then some u else mA g);rw[RK];by_cases q:g=f
   .rw[K0 q,K0 q];exact ry
   all_goals grind
  .by_cases q:g=f
   .rw[q];exact(eI f y fs).1
   .refine(eI f y fs).2 g (wi g λz=>hg ?_);grind
theorem V2.made(I:V2 X pins σ H s):V2 X pins σ (upd (upd H s.heap.objs.size (.own (s.heap.objs.size+1))) (s.heap.objs.size+1) (.ins C s.heap.objs.size []))
  {s with heap:=(s.heap.push emptyDict).push (instObj C s.heap.objs.size)}:=by
 have e1:(s.heap.push emptyDict).get? s.heap.objs.size=some emptyDict:=X1 s.heap rfl;have e2:((s.heap.push emptyDict).push (instObj C s.heap.objs.size)).get? (s.heap.objs.size+1)=some (instObj C s.heap.objs.size):=by
  have:=X1 (s.heap.push emptyDict) (o:=instObj C s.heap.objs.size) rfl
  simp_all
 have e3:(s.heap.push emptyDict).Ns s.heap.objs.size (λ_=>none):=⟨emptyDict,#[],_,e1,rfl,(λe he=>absurd he (by simp)),λ_=>rfl⟩
 have I1:=I.laid (a:=s.heap.objs.size) (o:=.own (s.heap.objs.size+1)) (h':=s.heap.push emptyDict) (t':=s.toks) (λb u q=>U0 _ q) (j1 _) ⟨_,e1⟩;refine I1.laid (a:=s.heap.objs.size+1) (o:=.ins C s.heap.objs.size []) (t':=s.toks) (λb u q=>U0 _ q) (cC (X4 _ _)) ?_;have ne:s.heap.objs.size≠s.heap.objs.size+1:=j3 (wE _);refine⟨by rw[M0 ne,C0],E1 _,ne,e2,λ_=>none,(Heap.Ns1.of_empty e3).at λo q=>U0 _ q,λ_=>c9,λy hy=>absurd rfl hy⟩
theorem Zj{env:Env}(hb:attributeBase e f env (eval e env)=eval e env)
 (h:wpAny (model prog w) A (eval e env) (λo s₁=>wpAny (model prog w) A (getAttr o f true) Q E s₁) E s):wpAny (model prog w) A (eval (.Attribute e f pos) env) Q E s:=
  Attribute_any_ h (by rw[arm_eval_Attribute,hb])
end
inductive za8(K:Frag)(f:Str)(Q:VK)(x:V)(H1:Hp):Prop
 |mk (a C dx fs v:_):x=.ref a->H1 a=some (.ins C dx fs)->Ao K C->D3 K C f->fs.lookup f=some v->Q v H1->za8 K f Q x H1
def yH(K:Frag)(ta:TE)(f:Str):TE:=λσ H Q=>ta σ H (za8 K f Q)
inductive za9(K:Frag)(f:Str)(D:MK)(σ:St)(y:V)(x:V)(H2:Hp):Prop
 |mk (a C dx fs:_):x=.ref a->H2 a=some (.ins C dx fs)->Ao K C->D3 K C f->fs.length<1000->D.nx σ (upd H2 a (.ins C dx (lG f y fs)))->za9 K f D σ y x H2
def zhk(K:Frag)(ta tv:TE)(f:Str):TS:=λD σ H=>tv σ H λy H1=>ta σ H1 (za9 K f D σ y)
def zev(X:Cx)(op:Operator)(rd:V->V->Hp->VK->Prop):Prop:=
 ∀(pins:List (Addr×Obj))(s:Shared)(σ:St)(H:Hp)(x y:V)(u v:Value)(Q:VK),V2 X pins σ H s->R4 x u->R4 y v->rd x y H Q->wpAny (model X.prog X.w) X.A (inplaceOp op u v) (EP X pins σ Q) X.xe s
def Ak(K:Frag)(ta tv:TE)(rd:V->V->Hp->VK->Prop)(f:Str):TS:=λD σ H=>ta σ H λx H1=>∃a C dx fs v,x=.ref a/\H1 a=some (.ins C dx fs)/\Ao K C/\D3 K C f/\fs.lookup f=some v/\
 tv σ H1 λy H2=>rd v y H2 λz H3=>∃Er Dx,H3 a=some (.ins C Er Dx)/\Dx.length<1000/\D.nx σ (upd H3 a (.ins C Er (lG f z Dx)))
section
variable {o zD:Expr}{HK aW:Pos}{ta tv:TE}
theorem Q2(he:PE X e ta)(hb:attributeBase e f X.env (eval e X.env)=eval e X.env):PE X (.Attribute e f pos) (yH X.K ta f):=by
 intro pins s σ H Q I h;refine Zj hb (i8 (he pins s σ H _ I h) λu s1 ⟨x,H1,I1,rx,a,C,dx,fs,v,ex,ea,c,n,l,q⟩=>?_);subst ex;obtain rfl:u=Value.ref a:=rx;exact zS I1 ea c n l λu' s2 I2 ru=>⟨v,H1,I2,ru,q⟩
theorem r6(ha:PE X o ta)(hv:PE X zD tv)(hs:swapsWith zD (some (.Attribute o f HK)) pos.line X.env=pure false):PS X (.Assign [.Attribute o f HK] zD pos) (zhk X.K ta tv f):=by
 intro pins s σ H D I h;refine gE (i8 (hv pins s σ H _ I h) λu s1 ⟨y,H1,I1,ry,q⟩=>i8 (ha pins s1 σ H1 _ I1 q) λov s2 ⟨x,H2,I2,rx,a,C,dx,fs,ex,ea,c,n,l,q2⟩=>?_) hs;subst ex;obtain rfl:ov=Value.ref a:=rx;exact CS I2 ea c n l ry λs3 I3=>⟨σ,_,I3,q2⟩
theorem jP{op:Operator}{rd:V->V->Hp->VK->Prop}(ha:PE X o ta) (hv:PE X zD tv) (hop:zev X op rd):PS X (.AugAssign (.Attribute o f aW) op zD pos) (Ak X.K ta tv rd f):=by
 intro pins s σ H D I h;refine wpAny_AugAssign_AttributeAny (i8 (ha pins s σ H _ I h) λov s1 ⟨x,H1,I1,rx,a,C,dx,fs,v,ex,ea,c,n,l,q⟩=>?_);subst ex;obtain rfl:ov=Value.ref a:=rx;refine zS I1 ea c n l λu s2 I2 ru=>i8 (hv pins s2 σ H1 _ I2 q) λw3 s3 ⟨y,H2,I3,ry,q3⟩=>i8 (hop pins s3 σ H2 v y u w3 _ I3 ru ry q3) λw4 s4 ⟨z,H3,I4,rz,Er,Dx,ea',l',q4⟩=>?_;exact CS I4 ea' c n l' rz λs5 I5=>⟨σ,_,I5,q4⟩
inductive zch(x:V)(y:V)(H:Hp)(Q:VK):Prop
 |mk (i j:_):x=.int i->y=.int j->Q (.int (i+j)) H->zch x y H Q
theorem Vf:zev X .Add zch:=by
 rintro pins s σ H x y u v Q I rx ry ⟨i,j,rfl,rfl,q⟩;obtain⟨t,rfl⟩:=(show ∃t,u=Value.int i t from rx)
 obtain⟨t',rfl⟩:=(show ∃t',v=Value.int j t' from ry)
 exact PyProof.Rows.iadd_int ⟨.int (i+j),H,I.tok _,⟨_,rfl⟩,q⟩
end
section
variable {c:Value}
end
end L2
namespace L2
open PySem PySem.Spec PyProof.Rows
variable {C f:Addr}{A:Around}{cm:Bool}{X:Cx}{e o:Expr}{fd:FuncData}{base:Heap}{H:Hp}{pins:List (Addr×Obj)}{kw:List (Str×Value)}{outer:List Env}{es:List Expr}{ps N:List Str}{vs:List V}{us:List Value}{j:Nat}{pos p jE:Pos}{P:Program}{K:Frag}{scope:Scope}{pl:Sem Bool}{s:Shared}{σ:St}{E:St->XK}{x m EB:Str}{kindOf:Str->Option NameKind}{mg:Str->Option Value}{t:TA}{te ta:TE}{Q:VK}{v:Value}{w:World}
structure N8(cm:Bool)(k:Nat)(A:Around):Prop where
 hd:cm=true->A.handled=none
 dp:A.depth+3*k+5<recursionLimit
 un:A.units+16*k+200<cLine
theorem N8.mono{k:Nat}(r:N8 cm k A) (h:j<=k):N8 cm j A:=⟨r.hd,by have:=r.dp;lia,by have:=r.un;lia⟩
theorem N8.deeper{k:Nat}(r:N8 cm (k+1) A) (env:Env):N8 cm k (A.deeper env):=
 ⟨r.hd,by have:=r.dp;show A.depth+1+3*k+5<_;lia,by have:=r.un;show A.units+3+16*k+200<_;lia⟩
theorem N8.in1{k:Nat}(r:N8 cm (k+1) A):N8 cm k A.in1:=
 ⟨r.hd,by have:=r.dp;show A.depth+3*k+5<_;lia,by have:=r.un;show A.units+1+16*k+200<_;lia⟩
theorem Xf:(A.under (.builtin "type.__call__" ⟨.ref C::us,kw⟩)).depth=A.depth+1:=by
 first|rfl|simp[Around.under,Code.weight,Code.isCreation,Code.isGuard,Code.isCaller,Code.frames,Code.isFrame,guardIds]
theorem Yf:(A.under (.builtin "type.__call__" ⟨.ref C::us,kw⟩)).units=A.units+1:=by
 first|rfl|simp[Around.under,Code.cUnits,Code.frames,Code.isFrame]
theorem N8.make{k:Nat}(r:N8 cm (k+1) A) (C:Addr) (us:List Value) (kw:List (Str×Value)):N8 cm k (A.under (.builtin "type.__call__" ⟨.ref C::us,kw⟩)):=
 ⟨r.hd,by have:=r.dp;rw[Xf];lia,by have:=r.un;rw[Yf];lia⟩
theorem N8.depth{k:Nat}(r:N8 cm k A):A.depth<recursionLimit:=by have:=r.dp;lia
theorem N8.units{k:Nat}(r:N8 cm k A):A.units+64<cLine:=by have:=r.un;lia
theorem N8.units0{k:Nat}(r:N8 cm k A):A.units<cLine:=by have:=r.un;lia
def yZ:TA:=λ_ H Q=>Q [] H
def Bk(ta:TE)(tr:TA):TA:=λσ H Q=>ta σ H λx H1=>tr σ H1 λxs H2=>Q (x::xs) H2
theorem Z0:PA X [] yZ:=λ_ _ _ _ H Q I h=>gH ⟨[],H,I,.nil,h⟩
theorem F0(ha:PE X e te)(hr:PA X es t)(hs:starEach (e::es) X.env=(false,eval e X.env)::starEach es X.env:=by rfl):PA X (e::es) (Bk te t):=by
 intro pos pins s σ H Q I h;rw[hs];show wpAny _ _ (spliced ((false,eval e X.env)::backTo pos (starEach es X.env))) _ _ s;refine XA (i8 (ha pins s σ H _ I h) λu s1 ⟨x,H1,I1,r1,q1⟩=>?_);exact i8 (hr pos pins s1 σ H1 _ I1 q1) λus s2 ⟨xs,H2,I2,r2,q2⟩=>⟨x::xs,H2,I2,.cons r1 r2,q2⟩
def zhl(t:TA):TE:=λσ H Q=>t σ H λxs H1=>xs.length<=sizeLine/\∀p,H1 p=none->Q (.ref p) (upd H1 p (.tup xs))
def zhm(t:TA):TE:=λσ H Q=>t σ H λxs H1=>xs.length<=sizeLine/\∀p,H1 p=none->Q (.ref p) (upd H1 p (.lst xs))
theorem AD{x1}(h:PA X es t):PE X (.Tuple es x1 pos) (zhl t):=by
 intro pins s σ H Q I hq;refine wpAny_Tuple_spliced (i8 (h pos pins s σ H _ I hq) λus s1 ⟨xs,H1,I1,r,z,q⟩=>⟨by rw[<-r.length];exact z,?_⟩);have hf:H1 s1.heap.objs.size=none:=I1.hok.fresh (j1 _);refine⟨.ref s1.heap.objs.size,upd H1 s1.heap.objs.size (.tup xs),I1.laid (t':=s1.toks) (λb u e=>U0 _ e) (j1 _) ?_,rfl,q _ hf⟩;exact⟨z,us,r,⟨_,X1 _ rfl,rfl,_,rfl⟩⟩
theorem d6(h:PA X es t):PE X (.List es pos) (zhm t):=by
 intro pins s σ H Q I hq;refine wpAny_List_spliced (i8 (h pos pins s σ H _ I hq) λus s1 ⟨xs,H1,I1,r,z,q⟩=>⟨by rw[<-r.length];exact z,?_⟩);have hf:H1 s1.heap.objs.size=none:=I1.hok.fresh (j1 _);refine⟨.ref s1.heap.objs.size,upd H1 s1.heap.objs.size (.lst xs),I1.laid (t':=s1.toks) (λb u e=>U0 _ e) (j1 _) ?_,rfl,q _ hf⟩;exact⟨z,us,0,r,X1 _ rfl⟩
abbrev Sp:=List V->Hp->VK->XK->Prop
variable {sp:Sp}
abbrev Pr:=List Env->Hp->Shared->XK->Value->Shared->Prop
variable {CX:Pr}
structure DS(P:Program)(w:World)(K:Frag)(mg:Str->Option Value)(base:Heap)(A:Around)(outer:List Env)(s:Shared)(H:Hp):Prop where
 frames:A.frames=some outer
 mod:Mod K mg base
 bs:∀b o,base.get? b=some o->s.heap.get? b=some o/\H b=none
 bsz:base.objs.size<=s.heap.objs.size
 funs:s.heap.FunFrames base outer
 frf:∀b∈Pj outer,H b=none
 hok:ZJ P w H s.heap
 bare:AllBare s.gens
inductive CE(outer:List Env)(P:Program)(w:World)(H:Hp)(s:Shared)(Q:VK)(u:Value)(s':Shared):Prop
 |mk (v:V) (H':Hp):s'.os=s.os->AllBare s'.gens->Un (Pj outer) [] H H' s.heap s'.heap->ZJ P w H' s'.heap->R4 v u->Q v H'->CE outer P w H s Q u s'
def CR(CX:Pr)(outer:List Env)(P:Program)(w:World)(H:Hp)(s:Shared)(Q:VK)(E:XK)(r:Result)(s':Shared):Prop:=
 match r with
 |.ok (.ret u)=>CE outer P w H s Q u s'
 |.ok _=>False
 |.error e=>CX outer H s E e s'
structure xA(P:Program)(w:World)(K:Frag)(mg:Str->Option Value)(base:Heap)(CX:Pr)(cm:Bool)(k:Nat)(f:Addr)(fd:FuncData)(ps:List Str)(sp:Sp):Prop where
 len:∀vs H Q E,sp vs H Q E->vs.length=ps.length
 run:∀(A:Around)(outer:List Env)(s:Shared)(H:Hp)(args:Args)(us:List Value)(vs:List V)(Q:VK)(E:XK),N8 cm k A->DS P w K mg base A outer s H->BindsTo s fd args (ps.zip us)->k4 vs us->sp vs H Q E->
  codeAny (model P w) A (.call (.ref f) args) (CR CX outer P w H s Q E) s
theorem xA.mono{k:Nat}(F:xA P w K mg base CX cm j f fd ps sp) (h:j<=k) :
  xA P w K mg base CX cm k f fd ps sp:=⟨F.len,λA outer s H args us vs Q E hr=>F.run A outer s H args us vs Q E (hr.mono h)⟩
theorem xA.imp{k:Nat}{sp':Sp}(F:xA P w K mg base CX cm k f fd ps sp)
 (h:∀vs H Q E,sp' vs H Q E->sp vs H Q E):xA P w K mg base CX cm k f fd ps sp':=
  ⟨λvs H Q E q=>F.len vs H Q E (h _ _ _ _ q),λA outer s H args us vs Q E hr he hb hv hs=>F.run A outer s H args us vs Q E hr he hb hv (h _ _ _ _ hs)⟩
theorem DS.make(e:DS P w K mg base A outer s H)(C:Addr)(us:List Value)(kw:List (Str×Value)) :
  DS P w K mg base (A.under (.builtin "type.__call__" ⟨.ref C::us,kw⟩)) outer s H:=⟨by first|exact e.frames|(simpa[Around.under,Code.envs,Code.isFrame,pushEnvs]using e.frames),e.mod,e.bs,e.bsz,e.funs,e.frf,e.hok,e.bare⟩
theorem DS.in1(e:DS P w K mg base A outer s H) :
  DS P w K mg base A.in1 outer s H:=⟨e.frames,e.mod,e.bs,e.bsz,e.funs,e.frf,e.hok,e.bare⟩
section
variable {s':Shared}
theorem V2.env0(I:V2 X pins σ H s):DS X.prog X.w X.K X.mg X.base X.A X.stack s H:=
 ⟨I.ok.frames,I.ok.mod,I.bs,d4 I.ok.bsz I.sz,I.stack,I.stkFree,I.hok,I.bare⟩
theorem V2.after{u:Value}(I:V2 X pins σ H s) (h:CE X.stack X.prog X.w H s Q u s'):EP X pins σ Q u s':=by
 obtain⟨v,H',os,bare,un,hok,r,q⟩:=h;obtain⟨hh,g,d,t,os'⟩:=s';obtain rfl:os'=s.os:=os;exact⟨v,H',I.call (h':=hh) (g':=g) (d':=d) (t':=t) (ch:=[]) un hok bare (λb z=>absurd z (by simp)),r,q⟩
end
def Ck(sp:Sp)(gR:List V)(E:St->XK)(t:TA):TE:=λσ H Q=>t σ H λvs H1=>sp (vs++gR) H1 Q (E σ)
inductive Us(C:Addr)(m:Str)(sp:Sp)(gR:List V)(E:St->XK)(t:TA)(σ:St)(Q:VK)(x:V)(H1:Hp):Prop
 |mk (a dx fs:_):x=.ref a->H1 a=some (.ins C dx fs)->fs.lookup m=none->(t σ H1 λvs H2=>sp (x::(vs++gR)) H2 Q (E σ))->Us C m sp gR E t σ Q x H1
def zba(C:Addr)(m:Str)(sp:Sp)(gR:List V)(E:St->XK)(ta:TE)(t:TA):TE:=λσ H Q=>ta σ H (Us C m sp gR E t σ Q)
def zbb(C:Addr)(sp:Sp)(gR:List V)(E:St->XK)(t:TA):TE:=λσ H Q=>t σ H λvs H1=>∀x dx,H1 x=none->H1 dx=none->dx≠x->
 sp (.ref x::(vs++gR)) (upd (upd H1 dx (.own x)) x (.ins C dx [])) (λv H2=>v=.non/\Q (.ref x) H2) (E σ)
def yB(K:Frag)(fd:FuncData)(ps:List Str)(ds:List Value):Prop:=
 ∀(s:Shared)(us:List Value),K.In s.heap->(us++ds).length=ps.length->BindsTo s fd ⟨us,[]⟩ (ps.zip (us++ds))
theorem yB.all(h:∀us:List Value,us.length=ps.length->bindArgs fd ⟨us,[]⟩=pure (ps.zip us)):yB K fd ps []:=λs us _ hl=>by
 rw[d3]at hl ⊢;exact .of_eq (h us hl)
def uB(CX:Pr)(X:Cx)(E:St->XK):Prop:=∀(pins:List (Addr×Obj))(σ:St)(H:Hp)(s:Shared)(e:Value)(s':Shared),V2 X pins σ H s->CX X.stack H s (E σ) e s'->X.xe e s'
section
variable {k:Nat}{gR:List V}{ds:List Value}
theorem MX(F:xA X.prog X.w X.K X.mg X.base CX cm k f fd ps sp)(hr:N8 cm k X.A)(hb:yB X.K fd ps ds)(hd:k4 gR ds)(hx:uB CX X E)
 (I:V2 X pins σ H s) (r:k4 vs us) (h:sp (vs++gR) H Q (E σ)):wpAny (model X.prog X.w) X.A (call (.ref f) us) (EP X pins σ Q) X.xe s:=by
  have r2:k4 (vs++gR) (us++ds):=r.append hd;have hl:(us++ds).length=ps.length:=by rw[<-r2.length];exact F.len _ _ _ _ h
  refine xE (dC (F.run X.A X.stack s H ⟨us,[]⟩ (us++ds) (vs++gR) Q (E σ) hr I.env0 (hb s us I.kIn hl) r2 h) λr s' hq=>?_);cases r with
  |error e=>exact hx pins σ H s e s' I hq
  |ok fl=>
   cases fl with
   |ret u=>exact I.after hq
   |next=>exact False.elim hq
   |brk=>exact False.elim hq
   |cont=>exact False.elim hq
theorem Yy(F:xA X.prog X.w X.K X.mg X.base CX cm k f fd ps sp)(hr:N8 cm k X.A)(hg:Gl X x)(hm:X.mg x=some (.ref f))(hk:keepIn X.K (.ref f)=true)(hb:yB X.K fd ps ds)(hd:k4 gR ds)(hx:uB CX X E)
 (ha:PA X (e::es) t) (fZ:(x==("__debug__": Str))=false:=by decide) (he:starEach (e::es) X.env=(false,eval e X.env)::starEach es X.env:=by rfl) (xH:(backTo pos (starEach es X.env)).any (·.1)=false:=by rfl) :
   PE X (.Call (.Name x p) (e::es) [] pos) (Ck sp gR E t):=by
  intro pins s σ H Q I h;refine u6 (ZG I hg hm ?_ fZ);refine YA (h₀:=X.base) I.ok.mod.kin hk (i8 (ha pos pins s σ H _ I h) λus s1 ⟨vs,H1,I1,r,q⟩=>⟨I1.kIn,?_⟩) he xH;exact MX F hr hb hd hx I1 r q
theorem BD(he:PE X o ta)(c:Ao X.K C)(hm:Bo X.K C m f)(F:xA X.prog X.w X.K X.mg X.base CX cm k f fd ps sp)(hr:N8 cm k X.A)(hb:yB X.K fd ps ds)(hd:k4 gR ds)(hx:uB CX X E)(ha:PA X (e::es) t)
 (FM:starEach (e::es) X.env=(false,eval e X.env)::starEach es X.env:=by rfl) (xH:(backTo pos (starEach es X.env)).any (·.1)=false:=by rfl)
 (ht:eval (.Call (.Attribute o m jE) (e::es) [] pos) X.env=(do
 let ov <-eval o X.env
 standAt jE.atName
 let (f,first) <-holding [ov] (getMethod ov m pl)
 callWith pos f first (backTo pos (starEach (e::es) X.env)) (backToKw pos (keywordEach [] X.env))):=by rfl) :
   PE X (.Call (.Attribute o m jE) (e::es) [] pos) (zba C m sp gR E ta t):=by
  intro pins s σ H Q I h;refine lE (pl:=pl) (i8 (he pins s σ H _ I h) λu s1 ⟨x,H1,I1,rx,a,dx,fs,ex,ea,l,q⟩=>?_) ht;subst ex;obtain rfl:u=Value.ref a:=rx;refine AS I1 ea c hm l ?_;refine YA (first:=[.ref a]) (h₀:=X.base) I.ok.mod.kin hm.kp (i8 (ha pos pins s1 σ H1 _ I1 q) λus s2 ⟨vs,H2,I2,r,q2⟩=>⟨I2.kIn,?_⟩) FM xH;exact MX (us:=.ref a::us) (vs:=.ref a::vs) F hr hb hd hx I2 (.cons rfl r) q2
theorem zZ(he:PE X o ta)(c:Ao X.K C)(hm:Bo X.K C m f)(F:xA X.prog X.w X.K X.mg X.base CX cm k f fd ps sp)(hr:N8 cm k X.A)(hb:yB X.K fd ps ds)(hd:k4 gR ds)(hx:uB CX X E)
 (ht:eval (.Call (.Attribute o m jE) [] [] pos) X.env=(do
 let ov <-eval o X.env
 standAt jE.atName
 let (f,first) <-holding [ov] (getMethod ov m pl)
 callWith pos f first (backTo pos (starEach [] X.env)) (backToKw pos (keywordEach [] X.env))):=by rfl) :
   PE X (.Call (.Attribute o m jE) [] [] pos) (zba C m sp gR E ta yZ):=by
  intro pins s σ H Q I h;refine lE (pl:=pl) (i8 (he pins s σ H _ I h) λu s1 ⟨x,H1,I1,rx,a,dx,fs,ex,ea,l,q⟩=>?_) ht;subst ex;obtain rfl:u=Value.ref a:=rx;refine AS I1 ea c hm l ?_;exact HF (first:=[.ref a]) I1.kIn hm.kp (MX (us:=[.ref a]) (vs:=[.ref a]) F hr hb hd hx I1 (.cons rfl .nil) q)
structure Mk(K:Frag)(C f:Addr):Prop where
 makes:makesIn K C=true
 init:findIn K (.ref C) "__init__"= some (some (.ref f))
 fn:isFn K (.ref f)=true
 kp:keepIn K (.ref C)=true
theorem AZ(M:Mk X.K C f)(F:xA X.prog X.w X.K X.mg X.base CX cm k f fd ps sp)(hr:N8 cm (k+1) X.A)(hb:yB X.K fd ps ds)(hd:k4 gR ds)
 (hx:uB CX X E) (I:V2 X pins σ H s) (r:k4 vs us)
 (h:∀x dx,H x=none->H dx=none->dx≠x->sp (.ref x::(vs++gR)) (upd (upd H dx (.own x)) x (.ins C dx [])) (λv H2=>v=.non/\Q (.ref x) H2) (E σ)) :
   wpAny (model X.prog X.w) X.A (call (.ref C) us) (EP X pins σ Q) X.xe s:=by
  have hq:=h (s.heap.objs.size+1) s.heap.objs.size (I.hok.fresh (TK _)) (I.hok.fresh (j1 _)) (j3 (wE _));have I2:=V2.made (C:=C) I;have r2:k4 (V.ref (s.heap.objs.size+1)::(vs++gR)) (Value.ref (s.heap.objs.size+1)::(us++ds)):=.cons rfl (r.append hd);have hl:(Value.ref (s.heap.objs.size+1)::us++ds).length=ps.length:=by
   have e:=r2.length;rw[F.len _ _ _ _ hq]at e;exact e.symm
  refine xE (Ts (f:=f) I.kIn M.makes M.init (L4.mp M.fn) (dC (F.run _ X.stack _ _ ⟨Value.ref (s.heap.objs.size+1)::us,[]⟩ (Value.ref (s.heap.objs.size+1)::(us++ds)) _ _ (E σ) (hr.make C us [])
   (I2.env0.make C us []) (hb _ (Value.ref (s.heap.objs.size+1)::us) I2.kIn hl) r2 hq) λr s' Mn=>?_))
  cases r with
  |error e=>exact hx pins σ _ _ e s' I2 Mn
  |ok fl=>
   cases fl with
   |ret u=>
    obtain⟨v,H',I3,rv,ev,q3⟩:=I2.after Mn;subst ev;exact⟨rv,⟨V.ref (s.heap.objs.size+1),H',I3,rfl,q3⟩⟩
   |next=>exact False.elim Mn
   |brk=>exact False.elim Mn
   |cont=>exact False.elim Mn
theorem VL(M:Mk X.K C f)(F:xA X.prog X.w X.K X.mg X.base CX cm k f fd ps sp)(hr:N8 cm (k+1) X.A)(hg:Gl X x)(hm:X.mg x=some (.ref C))(hb:yB X.K fd ps ds)(hd:k4 gR ds)(hx:uB CX X E)
 (ha:PA X (e::es) t) (fZ:(x==("__debug__": Str))=false:=by decide) (he:starEach (e::es) X.env=(false,eval e X.env)::starEach es X.env:=by rfl) (xH:(backTo pos (starEach es X.env)).any (·.1)=false:=by rfl) :
   PE X (.Call (.Name x p) (e::es) [] pos) (zbb C sp gR E t):=by
  intro pins s σ H Q I h;refine u6 (ZG I hg hm ?_ fZ);refine YA (h₀:=X.base) I.ok.mod.kin M.kp (i8 (ha pos pins s σ H _ I h) λus s1 ⟨vs,H1,I1,r,q⟩=>⟨I1.kIn,?_⟩) he xH;exact AZ M F hr hb hd hx I1 r q
theorem BZ(M:Mk X.K C f)(F:xA X.prog X.w X.K X.mg X.base CX cm k f fd ps sp)(hr:N8 cm (k+1) X.A)(hg:Gl X x)(hm:X.mg x=some (.ref C))(hb:yB X.K fd ps ds)(hd:k4 gR ds)(hx:uB CX X E)
 (fZ:(x==("__debug__": Str))=false:=by decide):PE X (.Call (.Name x p) [] [] pos) (zbb C sp gR E yZ):=by
  intro pins s σ H Q I h;refine u6 (ZG I hg hm ?_ fZ);exact HF I.kIn M.kp (AZ (us:=[]) M F hr hb hd hx I .nil h)
end
def PK(X:Cx)(kws:List Keyword)(t:TA):Prop:=
 ∀(pos:Pos)(pins:List (Addr×Obj))(s:Shared)(σ:St)(H:Hp)(Q:List V->Hp->Prop),V2 X pins σ H s->t σ H Q->wpAny (model X.prog X.w) X.A (evalAll ((backToKw pos (keywordEach kws X.env)).map (·.2))) (AP X pins σ Q) X.xe s
section
variable {k:Nat}{ks:List Str}{kpos:Pos}{kws:List Keyword}{tk:TA}{nm:Option Str}
theorem Vs:PK X [] yZ:=λ_ _ _ _ H Q I h=>wpAny_evalAll_nil ⟨[],H,I,.nil,h⟩
theorem NX(ha:PE X e te)(hr:PK X kws t):PK X (⟨nm,e,kpos⟩::kws) (Bk te t):=by
 intro pos pins s σ H Q I h;show wpAny _ _ (evalAll ((do let v <-eval e X.env;standAt pos;pure v)::(backToKw pos (keywordEach kws X.env)).map (·.2))) _ _ s;refine wpAny_evalAll_cons (z0 (i8 (ha pins s σ H _ I h) λu s1 ⟨x,H1,I1,r1,q1⟩=>z0 (lA (S0 ?_))));exact i8 (hr pos pins s1 σ H1 _ I1 q1) λus s2 ⟨xs,H2,I2,r2,q2⟩=>⟨x::xs,H2,I2,.cons r1 r2,q2⟩
variable {g:List Value->List Value->List Value}{gV:List V->List V->List V}
end
structure CD(N P:List Str)(sc:Scope):Prop where
 kind:sc.kind=.function
 co:sc.isCoroutine=false
 gen:sc.isGenerator=false
 nd:N.Nodup
 pre:N.take P.length=P
 par:∀x∈P,sc.names.lookup x=some .local\/sc.names.lookup x=some .cell
 nofree:∀y∈sc.names,y.2≠.free
theorem jW{kindOf:Str->Option NameKind}{x:Str}:∀{binds:List (Str×Value)}{m:Str->Option Value},(∀v,(x,v)∉binds)->bindL kindOf binds m x=m x
 |[],_,_=>rfl
 |(n,v)::r,m,h=>by
  unfold bindL;rw[jW λw hw=>h w (o3 _ hw)];split
  .have:x≠n:=by rintro rfl;exact h v S4
   simp[this]
  .rfl
theorem kW{kindOf:Str->Option NameKind}{x:Str}:∀{binds:List (Str×Value)}{m:Str->Option Value},(∀v,(x,v)∉binds)->bindC kindOf binds m x=m x
 |[],_,_=>rfl
 |(n,v)::r,m,h=>by
  unfold bindC;rw[kW λw hw=>h w (o3 _ hw)];split
  .rfl
  .have:x≠n:=by rintro rfl;exact h v S4
   simp[this]
theorem lW{kindOf:Str->Option NameKind}{x:Str}{v:Value}:∀{P:List Str}{vs:List Value}{i:Nat}{m:Str->Option Value},P.Nodup->P[i]?=some x->vs[i]?=some v->kindOf x=some .local->
  bindL kindOf (P.zip vs) m x=some v
 |[],_,_,_,_,h,_,_=>by simp at h
 |_::_,[],_,_,_,_,h,_=>by simp at h
 |p::P,w::vs,0,m,nd,h1,h2,hk=>by
  simp at h1 h2;subst h1;subst h2;show bindL kindOf ((p,w)::P.zip vs) m p=_;unfold bindL;rw[jW λv hv=>(N5.mp nd).1 (U9 hv).1,K0 hk];simp
 |p::P,w::vs,i+1,m,nd,h1,h2,hk=>by
  show bindL kindOf ((p,w)::P.zip vs) m x=_;unfold bindL;exact lW (i:=i) (N5.mp nd).2 (by simpa using h1) (by simpa using h2) hk
theorem mW{kindOf:Str->Option NameKind}{x:Str}{v:Value}:∀{P:List Str}{vs:List Value}{i:Nat}{m:Str->Option Value},P.Nodup->P[i]?=some x->vs[i]?=some v->kindOf x≠some .local->
  bindC kindOf (P.zip vs) m x=some v
 |[],_,_,_,_,h,_,_=>by simp at h
 |_::_,[],_,_,_,_,h,_=>by simp at h
 |p::P,w::vs,0,m,nd,h1,h2,hk=>by
  simp at h1 h2;subst h1;subst h2;show bindC kindOf ((p,w)::P.zip vs) m p=_;unfold bindC;rw[kW λv hv=>(N5.mp nd).1 (U9 hv).1,D0 hk];simp
 |p::P,w::vs,i+1,m,nd,h1,h2,hk=>by
  show bindC kindOf ((p,w)::P.zip vs) m x=_;unfold bindC;exact mW (i:=i) (N5.mp nd).2 (by simpa using h1) (by simpa using h2) hk
def start(N:List Str)(vs:List V):St:=vs.map some++List.replicate (N.length-vs.length) none
def CZ(CX:Pr)(cm:Bool)(P:Program)(w:World)(K:Frag)(mg:Str->Option Value)(base:Heap)(N:List Str)(EB:Str)(scope:Scope)(f:Addr)(cd:Value)(A:Around)(outer:List Env)(s:Shared)(H:Hp)(E:XK):Cx where
 prog:=P
 w:=w
 K:=K
 mg:=mg
 base:=base
 A:=A.deeper (envOfC EB scope s.heap.objs.size f cd)
 N:=N
 s_0:=s
 H_0:=H
 env:=envOfC EB scope s.heap.objs.size f cd
 outer:=outer
 stack:=envOfC EB scope s.heap.objs.size f cd::outer
 ex:=[]
 calm:=cm
 fn:=λ_=>true
 pn:=[]
 xe:=λe s'=>wpAny (model P w) (A.deeper (envOfC EB scope s.heap.objs.size f cd)) (leaving (envOfC EB scope s.heap.objs.size f cd) e) (λ_ s''=>CX outer H s E e s'') (λe' s''=>CX outer H s E e' s'') s'
theorem DZ{sc:Scope}{n:Nat}(h:sc.names.lookup x=some .cell):∃c,(cellsFrom n sc.names []).lookup x=some c:=by
 simp_all [lJ,zH.mp]
theorem Co{cd:Value}{s1:Shared}{E:XK}
 (S:CD N ps scope) (hd:cm=true->A.handled=none) (e0:DS P w K mg base A outer s H) (hl:vs.length=ps.length) (r:k4 vs us)
 (x:InCallC s s.heap.objs.size (bindL (envOfC EB scope s.heap.objs.size f cd).kindOf (ps.zip us) λ_=>none) (cellsFrom (s.heap.objs.size+1) scope.names []) (bindC (envOfC EB scope s.heap.objs.size f cd).kindOf (ps.zip us) λ_=>none) s1) :
   V2 (CZ CX cm P w K mg base N EB scope f cd A outer s H E) [] (start N vs) H s1:=by
  have xH:ps.length<=N.length:=by grind [List.length,S.pre,Z1]
  obtain⟨h1,tk,rfl,hk⟩:=x.done;have noA:∀b:Addr,b∉(CZ CX cm P w K mg base N EB scope f cd A outer s H E).ex:=λb z=>absurd (show b∈([]:List Addr)from z) (by simp);refine⟨⟨e0.mod,S.kind,rfl,rfl,j1 _,λy z c h1 h2=>?_,λy hy=>?_,λy c _ h=>?_,hd,Around.frames_deeper e0.frames,.inr ⟨rfl,rfl⟩,λb z=>absurd z (noA b),e0.bs,e0.bsz,λb _ _=>noA b,λb z=>absurd z (noA b),e0.funs,e0.frf⟩,
   rfl,e0.bare,Un.kept hk,⟨_,x.toInCall.ns,λi y v h1 h2 h3=>?_⟩,λy c h=>⟨_,x.cell y c h⟩,e0.hok.fresh (j1 _),λy c h=>?_,λp hp=>absurd (show p∈([]:List (Addr×Obj))from hp) (by simp),e0.hok.kept hk,?_⟩
  .exact name_of_addr x.apart (N3 h1) (N3 h2)
  .have hy:scope.names.lookup y=some .cell\/scope.names.lookup y=some .free:=hy;rcases hy with hy|hy
   .exact DZ hy
   .exact absurd rfl (S.nofree _ (N3 hy))
  .exact eJ (x.above y c (N3 h))
  .have hi:i<vs.length:=by
    unfold start at h2;by_cases hi:i<vs.length
    .exact hi
    .rw[Q7 (by simpa using hi)]at h2;rw[List.getElem?_replicate]at h2;grind
   have ha:vs[i]?=some v:=by
    unfold start at h2;rw[j8 (by simpa using hi),P1]at h2;grind
   obtain⟨u,hu,rv⟩:=r.get ha;have hp:ps[i]?=some y:=by
    rw[<-S.pre,AH (by lia)];exact h1
   have ndP:ps.Nodup:=by rw[<-S.pre];exact S.nd.sublist (List.take_sublist _ _)
   refine⟨u,rv,?_⟩;rcases S.par y (N1 hp)with k|k
   .exact .inl ⟨k,lW ndP hp hu k⟩
   .obtain⟨c,e⟩:=DZ (n:=s.heap.objs.size+1) k;refine .inr ⟨.inl k,c,e,?_⟩;have q:=x.cell y c e;rw[mW ndP hp hu (by show scope.names.lookup y≠_;rw[k];decide)]at q;exact q
  .exact e0.hok.fresh (eJ (x.above y c (N3 h)))
  .unfold start;show _=N.length;grind
theorem zew{k:Nat}{name:Str}{params:Arguments}{body:List Stmt}{dV kV Nn pm cV ct oc:Value}{an od:Option Addr}
 {osl:Array (Option Value)} (lk:K.lookup f=some ⟨oc,od,.func (fnOf name EB params body scope dV kV Nn pm an cV ct),osl⟩) (Vr:codeIn K cV EB=true) (S:CD N ps scope)
 (len:∀vs H Q E,sp vs H Q E->vs.length=ps.length)
 (On:∀(A:Around)(outer:List Env)(s:Shared)(H:Hp)(vs:List V)(Q:VK)(E:XK),N8 cm k (A.deeper (envOfC EB scope s.heap.objs.size f cV))->sp vs H Q E->
 ∃t,Nr (CZ CX cm P w K mg base N EB scope f cV A outer s H E) body t/\t {nx:=λ_ H'=>Q .non H',rt:=Q} (start N vs) H) :
   xA P w K mg base CX cm (k+1) f (fnOf name EB params body scope dV kV Nn pm an cV ct) ps sp:=by
  refine⟨len,λA outer s H args us vs Q E hr e0 hb r hsp=>?_⟩;have hl:=len _ _ _ _ hsp;have KX:K.In s.heap:=e0.mod.kin.keeps λb o e=>(e0.bs b o e).1;have lim:s.heap.NoLimit:=e0.mod.nolimit.keeps λb o e=>(e0.bs b o e).1;have zfm:∀y∈ps.zip us,scope.names.lookup y.1=some .local\/(scope.names.lookup y.1=some .cell/\((cellsFrom (s.heap.objs.size+1) scope.names []).lookup y.1).isSome=true):=λ⟨n,v⟩ hy=>by
   rcases S.par n (U9 hy).1 with q|q
   .exact .inl q
   .exact .inr ⟨q,lJ _ _ _ (.inl q)⟩
  refine codeAny_call_function hr.depth (KX _ _ lk) rfl S.co S.gen rfl (PySem.W.codeRec_of KX Vr) (hb _ _ _ _ ?_);refine wpAny_newFunctionEnv_cells S.kind zfm λenv he s1 x=>?_;subst he;refine⟨lim.keeps x.toInCall.keep,codeAny_func ?_⟩;obtain⟨t,ht,hq⟩:=On A outer s H vs Q E (hr.deeper _) hsp;have I:V2 (CZ CX cm P w K mg base N EB scope f cV A outer s H E) [] (start N vs) H s1:=Co S hr.hd e0 hl r x;refine L5 (ht [] s1 (start N vs) H _ I hq) (λfl s' hs=>?_) λe s' hs=>hs;have fin:∀{σ':St}{H':Hp}{v:V}{u:Value},V2 (CZ CX cm P w K mg base N EB scope f cV A outer s H E) [] σ' H' s'->R4 v u->Q v H'->CE outer P w H s Q u s':=
   λ{σ' H' v u} J rv q=>⟨v,H',J.os,J.bare,J.base,J.hok,rv,q⟩
  cases fl with
  |ret u=>
   obtain⟨v,σ',H',J,rv,q⟩:=hs;exact fin J rv q
  |next=>
   obtain⟨σ',H',J,q⟩:=hs;exact fin (v:=V.non) (u:=Value.none) J rfl q
  |brk=>
   obtain⟨_,_,_,q⟩:=hs;exact False.elim q
  |cont=>
   obtain⟨_,_,_,q⟩:=hs;exact False.elim q
end L2
namespace L2
open PySem PySem.Spec PyProof.Rows
section
variable {X:Cx}{x:Str}{p pos:Pos}{e:Expr}{es:List Expr}{t:TA}{id T:String}{r:List V->Hp->VK->Prop}
def tCB(r:List V->Hp->VK->Prop)(t:TA):TE:=λσ H Q=>t σ H λvs H1=>r vs H1 Q
theorem FA(hc:QK X (.builtin id) r)(hg:Gl X x)(hm:X.mg x=none)(hv:bootBuiltins x=some (.builtin id))(ha:PA X (e::es) t)(hn:x ≠ "__name__":= by decide)(fZ:(x==("__debug__": Str))=false:=by decide)
  (he:starEach (e::es) X.env=(false,eval e X.env)::starEach es X.env:=by rfl) (xH:(backTo pos (starEach es X.env)).any (·.1)=false:=by rfl):PE X (.Call (.Name x p) (e::es) [] pos) (tCB r t):=by
 intro pins s σ H Q I h;refine u6 (fJ I hg hm hv ?_ hn fZ);exact PyProof.Rows.callWith_builtin1 (i8 (ha pos pins s σ H _ I h) λus s1 ⟨vs,H1,I1,r1,q1⟩=>hc pins s1 σ H1 vs us Q I1 r1 q1) he xH
theorem Do(hc:QK X (.type T) r)(hg:Gl X x)(hm:X.mg x=none)(hv:bootBuiltins x=some (.type T))(ha:PA X (e::es) t)(hn:x ≠ "__name__":= by decide)(fZ:(x==("__debug__": Str))=false:=by decide)
  (he:starEach (e::es) X.env=(false,eval e X.env)::starEach es X.env:=by rfl) (xH:(backTo pos (starEach es X.env)).any (·.1)=false:=by rfl):PE X (.Call (.Name x p) (e::es) [] pos) (tCB r t):=by
 intro pins s σ H Q I h;refine u6 (fJ I hg hm hv ?_ hn fZ);exact b6 (i8 (ha pos pins s σ H _ I h) λus s1 ⟨vs,H1,I1,r1,q1⟩=>hc pins s1 σ H1 vs us Q I1 r1 q1) he xH
end
end L2
namespace HT
open PySem PyProof.Rows
variable {b t sl:Addr}{items:Array Value}{lo hi:Option Int}{vl vu:Value}{Q:Value->Shared->Prop}
def lexLt:List Int->List Int->Bool
 |[],[]=>false
 |[],_::_=>true
 |_::_,[]=>false
 |x::xs,y::ys=>if x=y then lexLt xs ys else decide (x<y)
theorem lexLt_cons(x y:Int)(xs ys:List Int):lexLt (x::xs) (y::ys)=if x=y then lexLt xs ys else decide (x<y):=rfl
theorem mV:lexLt [] []=false:=rfl
theorem ES(y:Int)(ys:List Int):lexLt [] (y::ys)=true:=rfl
theorem FS(x:Int)(xs:List Int):lexLt (x::xs) []=false:=rfl
theorem EZ(A:Around)(s:Shared)(a:Int)(t:Tok)(c:Int)(u:Tok):∃e,SeqAt.EqAt A s (.int a t) (.int c u) e/\(e=true↔a=c):=
 ⟨(a==c),mG a t c u,by simp⟩
theorem rcLt_int(A:Around)(s:Shared)(a:Int)(t:Tok)(c:Int)(u:Tok)(prog:Program)(w:World)(E:Value->Shared->Prop)(Q:Value->Shared->Prop)(h:Q (.bool (decide (a<c))) s) :
  wpAny (model prog w) A (richCompare .Lt (.int a t) (.int c u)) Q E s:=
 (PyProof.Rows.lt_int h:wpAny (model prog w) A (compareOp .Lt (.int a t) (.int c u)) Q E s)
section
open PySem.SeqAt
open PySem.AutoSeq1 (wpAny_loadPart')
open PySem.MeetsSeq PySem.MeetsSeq2 PySem.MeetsSeq3
theorem nV(l b:Addr)(items Y6:Array Value)(n n2:Nat)(dd Jf:Option Addr)(sl Kf:Array (Option Value))(ns ms:List Int)(hi:IntsAre items.toList ns)(hj:IntsAre Y6.toList ms) :
  Meets (Builtin.«tuple.__lt__» ⟨[.ref l,.ref b],[]⟩)
   (λ_ R s=>s.heap.get? l=some {cls:=.type "tuple",dict:=dd,data:=.seq items n,slots:=sl}/\s.heap.get? b=some {cls:=.type "tuple",dict:=Jf,data:=.seq Y6 n2,slots:=Kf}/\
     R (.ok (.ret (.bool (lexLt ns ms)))) s):=
 .of_wp λprog w A R s h=>by
  obtain⟨hp,g,d,tk,os⟩:=s;obtain⟨hl,hb,h⟩:=h;have f2:=EC;have z1:items.size=ns.length:=by rw[<-hi.length];simp
  have z2:Y6.size=ms.length:=by rw[<-hj.length];simp
  wp_walk using wpAny_loadPart' hl,wpAny_loadPart' hb,fI _ (λN7 b s'=>b.1=none/\s'=⟨hp,g,d,tk,os⟩/\∃(vs ws:List Value)(Lf Gr:List Int),N7=vs.zip ws/\
   IntsAre vs Lf/\IntsAre ws Gr/\Lf.length+Y6.size=Gr.length+items.size/\R (.ok (.ret (.bool (lexLt Lf Gr)))) ⟨hp,g,d,tk,os⟩) _
  case turn=>
   rintro⟨y,x⟩ N7 b s' ⟨cP,rfl,vs,ws,Lf,Gr,hz,hvi,Ye,CC,hR⟩;cases hvi with
   |nil=>rw[List.zip_nil_left]at hz;cases hz
   |cons a t hvi'=>
    cases Ye with
    |nil=>rw[List.zip_nil_right]at hz;cases hz
    |cons c u hwi'=>
     rw[WC]at hz;injection hz with hyx hrest;injection hyx with hy hx;subst hy hx;rw[lexLt_cons]at hR;simp only[M1]at CC;obtain⟨e,he,Fx⟩:=EZ A.in1 ⟨hp,g,d,tk,os⟩ a t c u;refine z0 (he prog w _ _ ?_);cases e with
     |true=>
      rw[K0 (Fx.mp rfl)]at hR
      wp_walk
      exact⟨rfl,rfl,_,_,_,_,hrest,hvi',hwi',by lia,hR⟩
     |false=>
      rw[D0 (λq=>absurd (Fx.mpr q) T1)]at hR;have hri:=rcLt_int A.in1 ⟨hp,g,d,tk,os⟩ a t c u prog w
      wp_walk using hri
      exact⟨_,rfl,by simpa using hR⟩
  case fin=>
   rintro⟨b1,b2⟩ s' ⟨cP,rfl,vs,ws,Lf,Gr,hz,hvi,Ye,CC,hR⟩;simp only at cP;subst cP;have hv:lexLt Lf Gr=decide (items.size<Y6.size):=by
    cases hvi with
    |nil=>
     cases Ye with
     |nil=>
      simp only[F6]at CC;rw[mV];exact(Y0 (by lia)).symm
     |cons c u hw=>
      simp only[F6,M1]at CC;rw[ES];exact(F1 (by lia)).symm
    |cons a t hv=>
     cases Ye with
     |nil=>
      simp only[F6,M1]at CC;rw[FS];exact(Y0 (by lia)).symm
     |cons c u hw=>
      rw[WC]at hz;cases hz
   rw[hv]at hR
   wp_walk
   exact⟨_,rfl,by simpa[Builtin.Tuple.tupleCompareSizes]using hR⟩
  case h=>
   exact⟨rfl,rfl,items.toList,Y6.toList,ns,ms,rfl,hi,hj,by lia,h⟩
end
section
variable {prog:Program}{w:World}{A:Around}{E:Value->Shared->Prop}{s:Shared}
theorem lt_tupInts{l:Addr}{Y6:Array Value}{ns ms:List Int}(hl:IsTup s.heap l items) (hb:IsTup s.heap b Y6) (hi:IntsAre items.toList ns) (hj:IntsAre Y6.toList ms)
 (hu:A.units<cLine) (h:Q (.bool (lexLt ns ms)) s):wpAny (model prog w) A (compareOp .Lt (.ref l) (.ref b)) Q E s:=by
  obtain⟨⟨cls,dd,data,sl⟩,ho,hc,n,hd⟩:=id hl;obtain⟨⟨zaN,Jf,data2,Kf⟩,EX,qZ,n2,bW⟩:=id hb;simp only at hc hd qZ bW;subst hc hd qZ bW;exact DD (op:=.Lt) ⟨_,ho,rfl⟩ ⟨_,EX,rfl⟩ qK mJ (iI _ _) (nV l b items Y6 n n2 dd Jf sl Kf ns ms hi hj)
   ⟨ho,EX,show Value.bool (lexLt ns ms)≠Value.notImplemented/\Q (.bool (lexLt ns ms)) s from⟨(λx=>nomatch x),h⟩⟩ hu
theorem Zy{vs ws:List Value}(ht:IsTup s.heap t vs.toArray) (hb:IsTup s.heap b ws.toArray) (hv:vs≠[])
 (h1:ws=[]->Q (.ref t) s) (h2:ws≠[]->Q (.ref s.heap.objs.size) {s with heap:=s.heap.push {cls:=.type "tuple",data:=.seq (vs++ws).toArray}})
 (hsz:vs.length+ws.length<=sizeLine):wpAny (model prog w) A (binaryOp .Add (.ref t) (.ref b)) Q E s:=by
  obtain⟨⟨cls,dd,data,sl⟩,ho,hc,n,hd⟩:=id ht;obtain⟨⟨zaN,Jf,data2,Kf⟩,EX,qZ,n2,bW⟩:=id hb;simp only at hc hd qZ bW;subst hc hd qZ bW;have e:vs.toArray++ws.toArray=(vs++ws).toArray:=by simp
  by_cases hw:ws=[]
  .exact xN ⟨_,ho,rfl⟩ ⟨_,EX,rfl⟩ jI sM ED rD (FC _ _)
    (tuple_addW1 t b vs.toArray ws.toArray n n2 dd Jf sl Kf (by simpa using hv) (by simp[hw])) ⟨ho,EX,h1 hw⟩
  .refine xN ⟨_,ho,rfl⟩ ⟨_,EX,rfl⟩ jI sM ED rD (FC _ _)
    (tuple_addW2 t b vs.toArray ws.toArray n n2 dd Jf sl Kf (by simpa using hv) (by simpa using hw) (by rw[J1,J1];exact hsz)) ⟨ho,EX,?_⟩
   rw[e];exact h2 hw
def sIx(n d:Nat):Option Int->Nat
 |none=>d
 |some v=>if v<0 then(v+(n:Int)).toNat else min v.toNat n
theorem zci(n d:Nat)(hd:d<=n)(o:Option Int):sIx n d o<=n:=by
 cases o with
 |none=>exact hd
 |some v=>
  show(if v<0 then(v+(n:Int)).toNat else min v.toNat n)<=n;by_cases hv:v<0
  .rw[K0 hv];lia
  .rw[D0 hv];exact yE _ _
theorem Dk(v:Int)(n d:Nat):(if v<0 then max (v+(n:Int)) 0 else min v (n:Int))=(sIx n d (some v):Int):=by
 show(if v<0 then max (v+(n:Int)) 0 else min v (n:Int))=(((if v<0 then(v+(n:Int)).toNat else min v.toNat n):Nat):Int);by_cases hv:v<0
 .grind
 .simp only[D0 hv];lia
theorem Zf(lo hi:Option Int)(n:Nat):Builtin.Slice.sliceAdjust lo hi 1 (n:Int)=(((sIx n 0 lo:Nat):Int),(sIx n n hi:Int)):=by
 have h1:¬((1:Int)<0):=by lia
 unfold Builtin.Slice.sliceAdjust;simp only[h1,l7];refine Prod.ext ?_ ?_
 .cases lo with
  |none=>rfl
  |some v=>exact Dk v n 0
 .cases hi with
  |none=>rfl
  |some v=>exact Dk v n n
theorem Ag(i j:Nat):Builtin.Slice.slicePlaces (i:Int) (j:Int) 1=j-i:=by
 unfold Builtin.Slice.slicePlaces
 lia
theorem GS{v:Value}{o:Option Int}{Q:Option Int->Shared->Prop}(p:IsPart v o) (h:Q o s):wpAny (model prog w) A (Builtin.Slice.slicePartIndex v) Q E s:=by
 cases p with
 |none=>exact slicePart_none h
 |int i t=>exact slicePart_int h
theorem kI{n:Nat}{Q:Int×Int×Nat->Shared->Prop}(hs:s.heap.IsSliceOf sl vl vu .none) (pl:IsPart vl lo) (pu:IsPart vu hi)
 (h:Q (((sIx n 0 lo:Nat):Int),1,sIx n n hi-sIx n 0 lo) s):wpAny (model prog w) A (Builtin.Slice.sliceApplied (.ref sl) (pure (n:Int))) Q E s:=by
  obtain⟨os,hos,hcs,gZ⟩:=id hs;unfold Builtin.Slice.sliceApplied Builtin.Slice.sliceFields;refine z0 (z0 (K5 hos gZ (x:=vl) rfl (z0 (K5 hos gZ (x:=vu) rfl (z0 (K5 hos gZ (x:=.none) rfl (S0 ?_)))))));refine z0 (slicePart_none ?_);show wpAny _ _ (if ((1:Int)==0)=true then _ else _) _ _ s;rw[D0 (by decide)];refine z0 (GS pl (z0 (GS pu (z0 (S0 ?_)))));show wpAny _ _ (match Builtin.Slice.sliceAdjust lo hi 1 (n:Int)with|(lo,hi)=>pure (lo,(1:Int),Builtin.Slice.slicePlaces lo hi 1)) _ _ s;rw[Zf lo hi n];show wpAny _ _ (pure (((sIx n 0 lo:Nat):Int),(1:Int),Builtin.Slice.slicePlaces ((sIx n 0 lo:Nat):Int) (sIx n n hi:Int) 1)) _ _ s;rw[Ag];exact S0 h
theorem Ws(xs:Array Value)(i k:Nat):((List.range k).filterMap λ(m:Nat)=>xs[((i:Int)+(m:Int)*1).toNat]?).toArray=((xs.toList.drop i).take k).toArray:=by
 have e:(λ(m:Nat)=>xs[((i:Int)+(m:Int)*1).toNat]?)=λm=>xs[i+m]?:=by
  funext m;have:((i:Int)+(m:Int)*1).toNat=i+m:=by lia
  rw[this]
 rw[e];have:=pick_run xs i k;rw[List.filterMap_map]at this;have e2:((λx=>xs[x]?) ∘ λx=>i+x)=λm=>xs[i+m]?:=rfl;grind
theorem getItem_tuple_cut(ht:IsTup s.heap t items)(hs:s.heap.IsSliceOf sl vl vu .none)(pl:IsPart vl lo)(pu:IsPart vu hi)
 (hw:¬(sIx items.size 0 lo=0/\sIx items.size items.size hi=items.size))
 (h:Q (.ref s.heap.objs.size) {s with heap:=s.heap.push {cls:=.type "tuple",data:=.seq ((items.toList.drop (sIx items.size 0 lo)).take (sIx items.size items.size hi-sIx items.size 0 lo)).toArray}})
 (hsz:items.size<=sizeLine):wpAny (model prog w) A (getItem (.ref t) (.ref sl)) Q E s:=by
  have Pn:sizeOk (.seq ((items.toList.drop (sIx items.size 0 lo)).take (sIx items.size items.size hi-sIx items.size 0 lo)).toArray):=by
   show((items.toList.drop (sIx items.size 0 lo)).take (sIx items.size items.size hi-sIx items.size 0 lo)).toArray.size<=sizeLine;rw[J1,Z1,eC,IF]
   lia
  have hj:sIx items.size items.size hi<=items.size:=zci _ _ (j1 _) hi;obtain⟨os,hos,hcs,gZ⟩:=id hs;have hTs:s.TypeIs (.ref sl) "slice":= ⟨os,hos,hcs⟩;unfold getItem
  try with_reducible refine T5 ?_
  first|refine z0 (S0 ?_)|skip
  refine z0 (wpAny_sequenceKey ht.typeIs (by decide) ?_);refine z0 (o7 (name:=Str.ofString "__getitem__") ht.typeIs b5
   (w9 b5 ht.typeIs entry_tuple_getitem ?_ (args_tuple_getitem _ _)))
  show wpAny _ _ (Builtin.Tuple.tupleItemsOf (.ref t)>>=_) _ _ s;refine z0 (tupleItemsOf_ ht ?_);refine z0 (yN hTs ?_);rw[K0 (by decide)];refine z0 (kI hs pl pu ?_);have hno:¬((((sIx items.size 0 lo:Nat):Int)==0&&(1:Int)==1&&(sIx items.size items.size hi-sIx items.size 0 lo)==items.size)=true):=by
   grind
  show wpAny _ _ (if (((sIx items.size 0 lo:Nat):Int)==0&&(1:Int)==1&&(sIx items.size items.size hi-sIx items.size 0 lo)==items.size)=true then _ else _) _ _ s;rw[D0 hno,Ws]
  first
   |exact z0 (m:=Builtin.Tuple.tupleExact _) (F5 (S0 ⟨_,rfl,S0 h⟩) Pn)
   |exact z0 (m:=Builtin.Tuple.tupleExact _) (F5 (z0 (S0 (S0 ⟨_,rfl,S0 h⟩))) Pn)
   |exact z0 (z0 (m:=Builtin.Tuple.tupleExact _) (F5 (S0 (S0 ⟨_,rfl,S0 h⟩)) Pn))
   |exact z0 (z0 (m:=Builtin.Tuple.tupleExact _) (F5 (S0 ⟨_,rfl,S0 h⟩) Pn))
end
end HT
namespace L2
open PySem PySem.Spec PyProof.Rows
abbrev TO:=St->Hp->(Option Int->Hp->Prop)->Prop
def PO(X:Cx)(e:Option Expr)(t:TO):Prop:=
 ∀(pins:List (Addr×Obj))(s:Shared)(σ:St)(H:Hp)(Q:Option Int->Hp->Prop),V2 X pins σ H s->t σ H Q->
  wpAny (model X.prog X.w) X.A (evalPart e X.env) (λu s'=>∃o H',V2 X pins σ H' s'/\IsPart u o/\Q o H') X.xe s
def Az:TO:=λ_ H Q=>Q none H
inductive Xs(Q:Option Int->Hp->Prop)(x:V)(H1:Hp):Prop
 |mk (i:_):x=.int i->Q (some i) H1->Xs Q x H1
def zex(t:TE):TO:=λσ H Q=>t σ H (Xs Q)
theorem nJ{ns:List Int}:∀{us:List Value},k4 (ns.map V.int) us->IntsAre us ns:=by
 induction ns with
 |nil=>intro us r;rw[fC]at r;cases r;exact .nil
 |cons n ns ih=>
  intro us r;rw[C3]at r;cases r with
  |cons r1 r2=>
   obtain⟨t,e⟩:=r1;subst e;exact .cons n t (ih r2)
section
variable {X:Cx}{e:Expr}{te:TE}{lo hi:Option Expr}{tl th:TO}{pos p2:Pos}
theorem eS:PO X none Az:=by
 intro pins s σ H Q I h;rw[evalPart_none];exact S0 ⟨none,H,I,.none,h⟩
theorem fS(h:PE X e te):PO X (some e) (zex te):=by
 intro pins s σ H Q I hw;rw[evalPart_some];refine i8 (h pins s σ H _ I hw) λu s1 ⟨x,H1,I1,r1,q1⟩=>?_;obtain⟨i,rfl,q⟩:=q1;obtain⟨t,rfl⟩:=r1;exact⟨some i,H1,I1,.int i t,q⟩
def SlR(X:Cx)(r:V->Option Int->Option Int->Hp->VK->Prop):Prop:=
 ∀(pins:List (Addr×Obj))(s:Shared)(σ:St)(H:Hp)(x:V)(v vl vu:Value)(lo hi:Option Int)(sl:Addr)(Q:VK),V2 X pins σ H s->R4 x v->s.heap.IsSliceOf sl vl vu .none->IsPart vl lo->IsPart vu hi->r x lo hi H Q->
  ∃T id,typeLookup (.type T) "__getitem__"= pure (some (.builtin id))/\s.TypeIs v T/\wpAny (model X.prog X.w) X.A (getItem v (.ref sl)) (EP X pins σ Q) X.xe s
def tSl(r:V->Option Int->Option Int->Hp->VK->Prop)(te:TE)(tl th:TO):TE:=λσ H Q=>te σ H λx H1=>tl σ H1 λl H2=>th σ H2 λu H3=>r x l u H3 Q
theorem zN{r:V->Option Int->Option Int->Hp->VK->Prop}(hr:SlR X r) (he:PE X e te) (hl:PO X lo tl) (hu:PO X hi th):PE X (.Subscript e (.Slice lo hi none p2) pos) (tSl r te tl th):=by
 intro pins s σ H Q I h;refine Subscript_ (i8 (he pins s σ H _ I h) λv s1 ⟨x,H1,I1,r1,q1⟩=>?_);refine wpAny_Slice (i8 (hl pins s1 σ H1 _ I1 q1) λvl s2 ⟨l,H2,I2,pl,q2⟩=>i8 (hu pins s2 σ H2 _ I2 q2) λvu s3 ⟨u,H3,I3,pu,q3⟩=>?_);rw[evalPart_none];refine S0 ?_;have I4:V2 X pins σ H3 {s3 with heap:=s3.heap.push {cls:=.type "slice",data:=.fields #[vl,vu,.none]}}:=I3.kept (t':=s3.toks) λb ob q=>U0 _ q;obtain⟨T,id,hT,ht,hg⟩:=hr pins {s3 with heap:=s3.heap.push {cls:=.type "slice",data:=.fields #[vl,vu,.none]}} σ H3 x v vl vu l u s3.heap.objs.size Q I4 r1 (Heap.IsSliceOf.new ..) pl pu q3;show wpAny (model X.prog X.w) X.A (subscriptTail e (.Slice lo hi none p2) v (.ref s3.heap.objs.size)) (EP X pins σ Q) X.xe {s3 with heap:=s3.heap.push {cls:=.type "slice",data:=.fields #[vl,vu,.none]}};exact tail_any (ops:=[.ref s3.heap.objs.size,v]) ht hT hg (by with_unfolding_all rfl)
def kM(xs:List V)(lo hi:Option Int):List V:=(xs.drop (HT.sIx xs.length 0 lo)).take (HT.sIx xs.length xs.length hi-HT.sIx xs.length 0 lo)
theorem tQ(xs:List V)(lo hi:Option Int):(kM xs lo hi).length<=xs.length:=by
 unfold kM;rw[Z1,eC]
 lia
inductive zey(K:Frag)(x:V)(lo:Option Int)(hi:Option Int)(H:Hp)(Q:VK):Prop
 |mk (a xs:_):x=.ref a->S9 K H a xs->(¬(HT.sIx xs.length 0 lo=0/\HT.sIx xs.length xs.length hi=xs.length))->(∀p,H p=none->Q (.ref p) (upd H p (.tup (kM xs lo hi))))->zey K x lo hi H Q
theorem zcj:SlR X (zey X.K):=by
 intro pins s σ H x v vl vu lo hi sl Q I rx hs pl pu h;obtain⟨a,xs,rfl,hx,hw,q⟩:=h;cases rx;obtain⟨its,r,ht,hz⟩:=I.tuple hx;have CC:its.toArray.size=xs.length:=by rw[J1];exact r.length.symm
 refine⟨"tuple",_,b5.lookup,ht.typeIs,?_⟩;refine HT.getItem_tuple_cut ht hs pl pu (by rw[CC];exact hw) ?_ (by rw[CC];exact hz);rw[CC];refine⟨.ref s.heap.objs.size,_,I.laid (t':=s.toks) (o:=.tup (kM xs lo hi)) (λb ob q=>U0 _ q) (j1 _) ?_,rfl,q _ (I.hok.fresh (j1 _))⟩;exact⟨d4 (tQ xs lo hi) hz,_,(r.drop (HT.sIx xs.length 0 lo)).take (HT.sIx xs.length xs.length hi-HT.sIx xs.length 0 lo),IsTup.new _ _⟩
theorem k4.nil_iff{xs:List V}{us:List Value}(r:k4 xs us):us=[]↔xs=[]:=by
 cases r<;>grind
end
end L2
namespace L2
open PySem PySem.Spec PyProof.Rows
variable {p:Addr}{A:Around}{H:Hp}{i:Int}{pins:List (Addr×Obj)}{xs:List V}{n j:Nat}{s:Shared}{σ:St}{T:String}{α:Type}{y x:V}{u v:Value}
def Ys(n:Nat)(i:Int):Option Nat:=if 0<=i then(if i<n then some i.toNat else none)else if -(n:Int)<=i then some (i+n).toNat else none
def Cy{α:Type}(xs:List α) (i:Int):Option α:=(Ys xs.length i).bind λj=>xs[j]?
theorem Ek(h:Ys n i=some j):seqIndex? i n=some j/\j<n/\-(n:Int)<=i/\i<n:=by
 unfold Ys at h;by_cases h0:0<=i
 .rw[K0 h0]at h;by_cases h1:i<n
  .rw[K0 h1]at h;have e:i.toNat=j:=J0 h;exact⟨by rw[seqIndex_of h0 h1,e],by lia,by lia,h1⟩
  all_goals grind
 .rw[D0 h0]at h;by_cases h1:-(n:Int)<=i
  .rw[K0 h1]at h;have e:(i+n).toNat=j:=J0 h;exact⟨by rw[AN (by lia) h1,e],by lia,h1,by lia⟩
  all_goals grind
theorem Fk{xs:List α}{v:α}(h:Cy xs i=some v):∃j,seqIndex? i xs.length=some j/\xs[j]?=some v/\j<xs.length/\-(xs.length:Int)<=i/\i<xs.length:=by
 unfold Cy at h;cases e:Ys xs.length i with
 |none=>rw[e]at h;cases h
 |some j=>
  rw[e]at h;obtain⟨h1,h2,h3,h4⟩:=Ek e;exact⟨j,h1,h,h2,h3,h4⟩
theorem S5{xs:List α}{v:α}(h:xs[j]?=some v):Cy xs (j:Int)=some v:=by
 have hj:j<xs.length:=(N0.mp h).1;have e:Ys xs.length (j:Int)=some j:=by
  unfold Ys;rw[K0 (by lia),K0 (by lia)];simp
 unfold Cy;rw[e];exact h
theorem BN(xs:List α)(v:α):Cy (xs++[v]) (-1)=some v:=by
 have hl:(xs++[v]).length=xs.length+1:=by simp
 have e:Ys (xs++[v]).length (-1)=some xs.length:=by
  unfold Ys;rw[hl,D0 (by decide),K0 (by lia)];congr 1
  lia
 unfold Cy;grind
def Bz(b:Expr):Prop:=∀o i,subscripted b false o i=operate [o,i] (getItem o i)
def IxR(X:Cx)(r:R2):Prop:=
 ∀(zD bP:Expr)(pins:List (Addr×Obj))(s:Shared)(σ:St)(H:Hp)(x y:V)(v u:Value)(Q:VK),V2 X pins σ H s->R4 x v->R4 y u->r x y H Q->
  subscripted bP false v u=operate [v,u] (getItem v u)->wpAny (model X.prog X.w) X.A (subscriptTail zD bP v u) (EP X pins σ Q) X.xe s
def MtR(X:Cx)(id:String)(r:V->List V->Hp->VK->Prop):Prop:=
 ∀(pins:List (Addr×Obj))(s:Shared)(σ:St)(H:Hp)(x:V)(xs:List V)(v:Value)(us:List Value)(Q:VK),V2 X pins σ H s->R4 x v->k4 xs us->r x xs H Q->
  wpAny (model X.prog X.w) X.A (call (.builtin id) (v::us)) (EP X pins σ Q) X.xe s
section
variable {X:Cx}{a b:Expr}{ta tb:TE}{pos:Pos}
theorem O7{r:R2}(hr:IxR X r) (ha:PE X a ta) (hb:PE X b tb) (hs:Bz b):PE X (.Subscript a b pos) (tOp r ta tb):=by
 intro pins s σ H Q I h;exact Subscript_ (zcd ha hb I h λv u s2 x y H2 I2 rx ry q=>hr a b pins s2 σ H2 x y v u Q I2 rx ry q (hs _ _))
inductive zck(K:Frag)(x:V)(y:V)(H:Hp)(Q:VK):Prop
 |mk (p xs i v:_):x=.ref p->y=.int i->SqL K H p xs->Cy xs i=some v->Q v H->zck K x y H Q
inductive zcl(K:Frag)(x:V)(y:V)(H:Hp)(Q:VK):Prop
 |mk (p xs i v:_):x=.ref p->y=.int i->S9 K H p xs->Cy xs i=some v->Q v H->zcl K x y H Q
theorem Z6:IxR X (zck X.K):=by
 intro zD bP pins s σ H x y v u Q I rx ry h hs;obtain⟨p,xs,i,z,rfl,rfl,hq,he,q⟩:=h;cases rx;obtain⟨t,rfl⟩:=ry;obtain⟨its,r,pl,hz⟩:=I.list hq;obtain⟨j,h1,h2,h3,h4,h5⟩:=Fk he;obtain⟨w,ew,GX⟩:=r.get h2;have hl:=r.length;have hn:=gP;have fin:EP X pins σ Q w s:=⟨z,H,I,GX,q⟩
 by_cases h0:0<=i
 .have hj:i.toNat=j:=by
   rw[seqIndex_of h0 h5]at h1;exact J0 h1
  exact item_listR pl.isList h0 (by lia) (by rw[hj];simpa using ew) fin hs
 .have hj:(i+(its.toArray.size:Int)).toNat=j:=by
   rw[AN (by lia) h4]at h1;grind
  exact subscriptTail_builtinR (x:=w) pl.isList.typeIs slot_list_getitem.lookup
   (wpAny_getItem_list_neg (Q:=λr s'=>r=w/\EP X pins σ Q r s') pl.isList (by lia) (by rw[J1]<;>lia) (by lia) (by rw[hj];simpa using ew) ⟨rfl,fin⟩) hs
theorem XC:IxR X (zcl X.K):=by
 intro zD bP pins s σ H x y v u Q I rx ry h hs;obtain⟨p,xs,i,z,rfl,rfl,hq,he,q⟩:=h;cases rx;obtain⟨t,rfl⟩:=ry;obtain⟨its,r,pl,hz⟩:=I.tuple hq;obtain⟨j,h1,h2,h3,h4,h5⟩:=Fk he;obtain⟨w,ew,GX⟩:=r.get h2;have hl:=r.length;have hn:=gP;have fin:EP X pins σ Q w s:=⟨z,H,I,GX,q⟩
 exact subscriptTail_builtinR (x:=w) pl.typeIs slot_tuple_getitem.lookup
  (getItem_tuple (j:=j) (Q:=λr s'=>r=w/\EP X pins σ Q r s') pl (by lia) (by lia) (by rw[J1,<-hl];exact h1) (by simpa using ew) ⟨rfl,fin⟩) hs
theorem Bg(its:List Value)(n j:Nat)(u:Value):Obj.mapSeq (·.setIfInBounds j u) {cls:=.type "list",data:=.seq its.toArray n}={cls:=.type "list",data:=.seq (its.set j u).toArray n}:=by
 simp[Obj.mapSeq]
theorem V2.lst(I:V2 X pins σ H s)(h:H p=some (.lst xs)) :
  ∃(its:List Value)(n:Nat),k4 xs its/\s.heap.get? p=some {cls:=.type "list",data:=.seq its.toArray n}/\xs.length<=sizeLine:=by
 obtain⟨z,its,n,r,e⟩:=I.hok p _ h;exact⟨its,n,r,e,z⟩
theorem V2.lstUpd{ys:List V}{its its':List Value}{n':Nat}{f:Obj->Obj}(I:V2 X pins σ H s) (h:H p=some (.lst xs))
 (ho:s.heap.get? p=some {cls:=.type "list",data:=.seq its.toArray n}) (hf:f {cls:=.type "list",data:=.seq its.toArray n}={cls:=.type "list",data:=.seq its'.toArray n'}) (r:k4 ys its') (hz:ys.length<=sizeLine) (t:Nat) :
   V2 X pins σ (upd H p (.lst ys)) {s with heap:=s.heap.update p f,toks:=t}:=by
  have e:(s.heap.update p f).get? p=some {cls:=.type "list",data:=.seq its'.toArray n'}:=by
   rw[vB f ho (by rw[hf]<;>rfl),hf]
  refine I.write (x:=p) (e:=p) (by rw[h];trivial) (.inl rfl) (λb u hb q=>(M5 _ _ (K2 hb)).trans q) ⟨_,e⟩ ?_;exact⟨hz,its',n',r,e⟩
inductive zbc(o:V)(i:V)(v:V)(H:Hp)(Q:Hp->Prop):Prop
 |mk (p xs k j:_):o=.ref p->i=.int k->H p=some (.lst xs)->Ys xs.length k=some j->Q (upd H p (.lst (xs.set j v)))->zbc o i v H Q
theorem Zs:zel X zbc:=by
 intro pins s σ H o i v ov iv u Q I ro ri rv h;obtain⟨p,xs,k,j,rfl,rfl,hp,hj,q⟩:=h;cases ro;obtain⟨t,rfl⟩:=ri;obtain⟨its,n,r,ho,hz⟩:=I.lst hp;obtain⟨h1,h2,h3,h4⟩:=Ek hj;have hl:=r.length;have hn:=gP;have I':V2 X pins σ (upd H p (.lst (xs.set j v))) {s with heap:=s.heap.update p (Obj.mapSeq (·.setIfInBounds j u))}:=
  I.lstUpd hp ho (Bg its n j u) (r.set rv j) (by rw[List.length_set];exact hz) s.toks
 by_cases h0:0<=k
 .have hk:k.toNat=j:=by
   rw[seqIndex_of h0 h4]at h1;exact J0 h1
  exact PySem.W.ki_setAt ho h0 (by lia) (by rw[J1,<-hl];exact h4) (by rw[hk];exact⟨_,I',q⟩)
 .have hk:(k+(its.toArray.size:Int)).toNat=j:=by
   rw[AN (by lia) h3]at h1;grind
  exact PySem.W.ki_setBack ho (by lia) (by rw[J1,<-hl];exact h3) (by lia) (by rw[hk];exact⟨_,I',q⟩)
theorem OX(lo hi:Option Int)(n:Nat):(sliceBounds lo hi none n).1=((HT.sIx n 0 lo:Nat):Int)/\(sliceBounds lo hi none n).2.1=(HT.sIx n n hi:Int)/\(sliceBounds lo hi none n).2.2=1:=by
 refine⟨?_,?_,rfl⟩
 .cases lo with
  |none=>simp[sliceBounds,HT.sIx]
  |some i=>
   simp only[sliceBounds,HT.sIx,Option.getD_none,show(1:Int)>0 by decide,QF];by_cases h:i<0
   .simp only[h,QF]<;>lia
   .simp only[h,l7]<;>lia
 .cases hi with
  |none=>simp[sliceBounds,HT.sIx]
  |some i=>
   simp only[sliceBounds,HT.sIx,Option.getD_none,show(1:Int)>0 by decide,QF];by_cases h:i<0
   .simp only[h,QF]<;>lia
   .simp only[h,l7]<;>lia
theorem oV(its:List Value)(lo hi:Option Int):slicePick its.toArray lo hi none=((its.drop (HT.sIx its.length 0 lo)).take (HT.sIx its.length its.length hi-HT.sIx its.length 0 lo)).toArray:=by
 obtain⟨h1,h2,h3⟩:=OX lo hi its.toArray.size;unfold slicePick;rw[h1,h2,h3];simp only[sliceRange_one,pick_run,J1]<;>rfl
inductive zeA(K:Frag)(x:V)(lo:Option Int)(hi:Option Int)(H:Hp)(Q:VK):Prop
 |mk (a xs:_):x=.ref a->SqL K H a xs->(∀p,H p=none->Q (.ref p) (upd H p (.lst (kM xs lo hi))))->zeA K x lo hi H Q
theorem PX:SlR X (zeA X.K):=by
 intro pins s σ H x v vl vu lo hi sl Q I rx hs pl pu h;obtain⟨a,xs,rfl,hx,q⟩:=h;cases rx;obtain⟨its,r,ht,hz⟩:=I.list hx;have CC:=r.length;refine⟨"list",_,slot_list_getitem.lookup,ht.isList.typeIs,?_⟩;refine wpAny_getItem_list_slice ht.isList hs pl pu .none (by simp) ?_ (by rw[J1]<;>lia);rw[oV,<-CC];refine⟨.ref s.heap.objs.size,_,I.laid (t':=s.toks) (o:=.lst (kM xs lo hi)) (λb ob q=>U0 _ q) (j1 _) ?_,rfl,q _ (I.hok.fresh (j1 _))⟩;exact⟨d4 (tQ xs lo hi) hz,_,0,(r.drop (HT.sIx xs.length 0 lo)).take (HT.sIx xs.length xs.length hi-HT.sIx xs.length 0 lo),X1 _ rfl⟩
def lI:V->Bool
 |.non=>true
 |.bl _=>true
 |.int _=>true
 |.str _=>true
 |_=>false
def Dy:V->V->Bool
 |.non,.non=>true
 |.bl a,.bl b=>a==b
 |.bl a,.int b=>(if a then 1 else 0)==b
 |.int a,.bl b=>a==(if b then 1 else 0)
 |.int a,.int b=>a==b
 |.str a,.str b=>a==b
 |_,_=>false
theorem zcm(ry:R4 y u)(rx:R4 x v)(fy:lI y=true)(fx:lI x=true):SeqAt.EqAt A s u v (Dy y x):=by
 cases y with
 |non=>
  cases ry;cases x with
  |non=>cases rx;exact SeqAt.EqAt.same _
  |bl b=>cases rx;exact SeqAt.EqAt.none_bool b
  |int b=>obtain⟨t,rfl⟩:=rx;exact SeqAt.EqAt.none_int b t
  |str b=>obtain⟨t,rfl⟩:=rx;exact SeqAt.EqAt.none_str b t
  |_=>exact absurd (show false=true from fx) T1
 |bl a=>
  cases ry;cases x with
  |non=>cases rx;exact SeqAt.EqAt.bool_none a
  |bl b=>cases rx;exact SeqAt.EqAt.bool_bool a b
  |int b=>obtain⟨t,rfl⟩:=rx;exact SeqAt.EqAt.bool_int a b t
  |str b=>obtain⟨t,rfl⟩:=rx;exact SeqAt.EqAt.bool_str a b t
  |_=>exact absurd (show false=true from fx) T1
 |int a=>
  obtain⟨t',rfl⟩:=ry;cases x with
  |non=>cases rx;exact SeqAt.EqAt.int_none a t'
  |bl b=>cases rx;exact SeqAt.EqAt.int_bool a t' b
  |int b=>obtain⟨t,rfl⟩:=rx;exact mG a t' b t
  |str b=>obtain⟨t,rfl⟩:=rx;exact SeqAt.EqAt.int_str a t' b t
  |_=>exact absurd (show false=true from fx) T1
 |str a=>
  obtain⟨t',rfl⟩:=ry;cases x with
  |non=>cases rx;exact SeqAt.EqAt.str_none a t'
  |bl b=>cases rx;exact SeqAt.EqAt.str_bool a t' b
  |int b=>obtain⟨t,rfl⟩:=rx;exact SeqAt.EqAt.str_int a t' b t
  |str b=>obtain⟨t,rfl⟩:=rx;exact SeqAt.EqAt.str_str a t' b t
  |_=>exact absurd (show false=true from fx) T1
 |_=>exact absurd (show false=true from fy) T1
def Ey(x:V)(u:Value):Bool:=match u with
 |.none=>Dy .non x
 |.bool b=>Dy (.bl b) x
 |.int i _=>Dy (.int i) x
 |.str z _=>Dy (.str z) x
 |_=>false
theorem QX(r:R4 y u)(f:lI y=true):Ey x u=Dy y x:=by
 cases y with
 |non=>cases r;rfl
 |bl b=>cases r;rfl
 |int i=>obtain⟨t,rfl⟩:=r;rfl
 |str z=>obtain⟨t,rfl⟩:=r;rfl
 |_=>exact absurd (show false=true from f) T1
theorem RX{x:V}:∀{xs:List V}{us:List Value},k4 xs us->xs.all lI=true->us.any (Ey x)=xs.any λy=>Dy y x
 |_,_,.nil,_=>rfl
 |y::xs,u::us,.cons r t,f=>by
  rw[O8,D1]at f;rw[P8,P8,QX r f.1,RX t f.2]
theorem CN{A:Around}{s:Shared}{x:V}{v:Value}(rx:R4 x v) (fx:lI x=true):∀{xs:List V}{us:List Value},k4 xs us->xs.all lI=true->∀u∈us,SeqAt.EqAt A s u v (Ey x u)
 |_,_,.nil,_=>λu hu=>by cases hu
 |y::xs,u::us,.cons r t,f=>λu' hu=>by
  rw[O8,D1]at f;rcases S1.mp hu with rfl|hu
  .rw[QX r f.1];exact zcm r rx f.1 fx
  .exact CN rx fx t f.2 u' hu
def inV(x:V)(xs:List V):Bool:=xs.any λy=>Dy y x
inductive rIn(K:Frag)(neg:Bool)(x:V)(y:V)(H:Hp)(Q:VK):Prop
 |mk (p xs:_):y=.ref p->(SqL K H p xs\/S9 K H p xs)->lI x=true->xs.all lI=true->Q (.bl (if neg then !inV x xs else inV x xs)) H->rIn K neg x y H Q
theorem Eo:kJ X (compareOp .In) (rIn X.K false):=by
 intro pins s σ H x y v u Q I rx ry h;obtain⟨p,xs,rfl,hq,fx,fs,q⟩:=h;cases ry;rcases hq with hq|hq
 .obtain⟨its,r,pl,hz⟩:=I.list hq;refine SeqAt.in_listAt (Ey x) pl.isList (λw hw=>CN rx fx r fs w (by simpa using hw)) ⟨.bl _,H,I,rfl,?_⟩;rw[show its.toArray.any (Ey x)=its.any (Ey x) by simp,RX r fs];exact q
 .obtain⟨its,r,pl,hz⟩:=I.tuple hq;refine SeqAt.in_tupleAt (Ey x) pl (λw hw=>CN rx fx r fs w (by simpa using hw)) ⟨.bl _,H,I,rfl,?_⟩;rw[show its.toArray.any (Ey x)=its.any (Ey x) by simp,RX r fs];exact q
theorem DN:QK X (.builtin "len") (λxs H Q=>∃p ys,xs=[.ref p]/\(SqL X.K H p ys\/S9 X.K H p ys)/\Q (.int ys.length) H):=by
 intro pins s σ H xs us Q I r h;obtain⟨p,ys,rfl,hq,q⟩:=h;obtain⟨u,rfl,rx⟩:=Yj r;cases rx;have hn:=gP;rcases hq with hq|hq
 .obtain⟨its,r',pl,hz⟩:=I.list hq;have CC:=r'.length;exact Calls.call_len_list pl.isList (by simp only[J1]<;>lia) ⟨.int ys.length,H,I.tok _,⟨s.toks+1,by rw[J1,CC]⟩,q⟩
 .obtain⟨its,r',pl,hz⟩:=I.tuple hq;have CC:=r'.length;exact len_tuple pl (by simp only[J1]<;>lia) ⟨.int ys.length,H,I.tok _,⟨s.toks+1,by rw[J1,CC]⟩,q⟩
theorem SX:QK X (.builtin "len") (λxs H Q=>∃z,xs=[.str z]/\z.length<=sizeLine/\Q (.int z.length) H):=by
 intro pins s σ H xs us Q I r h;obtain⟨z,rfl,hz,q⟩:=h;obtain⟨u,rfl,t,rfl⟩:=Yj r;have hn:=gP;exact len_str (by lia) ⟨.int z.length,H,I.tok _,⟨_,rfl⟩,q⟩
theorem pV:QK X (.type "tuple") (λxs H Q=>∃p ys,xs=[.ref p]/\((SqL X.K H p ys/\∀l,H l=none->Q (.ref l) (upd H l (.tup ys)))\/(S9 X.K H p ys/\Q (.ref p) H))):=by
 intro pins s σ H xs us Q I r h;obtain⟨p,ys,rfl,h⟩:=h;obtain⟨u,rfl,rx⟩:=Yj r;cases rx;rcases h with⟨hq,q⟩|⟨hq,q⟩
 .obtain⟨its,r',pl,hz⟩:=I.list hq;have CC:=r'.length;refine call_tuple_list pl.isList (λh' kp=>?_) (by simp only[J1]<;>lia);have I1:V2 X pins σ H {s with heap:=h'}:=I.kept (t':=s.toks) kp;have I2:V2 X pins σ (upd H h'.objs.size (.tup ys)) {s with heap:=h'.push {cls:=.type "tuple",data:=.seq its.toArray}}:=
   I1.laid (t':=s.toks) (λb o e=>U0 _ e) (j1 _) (show k9 X.prog X.w _ _ _ (.tup ys)from⟨hz,its,r',IsTup.new _ _⟩)
  exact⟨.ref h'.objs.size,_,I2,rfl,q _ (I1.hok.fresh (j1 _))⟩
 .obtain⟨its,r',pl,hz⟩:=I.tuple hq;exact call_tuple_same pl ⟨.ref p,H,I,rfl,q⟩
def tyV(K:Frag)(T:String)(x:V)(H:Hp):Prop:=match x with
 |.str _=>T = "str"
 |.int _=>T = "int"
 |.ref p=>(T = "list" /\ ∃xs,SqL K H p xs)\/(T = "tuple" /\ ∃o,K.lookup p=some o/\o.cls=.type "tuple" /\ o.dict=none)\/
   (T = "dict" /\ ((∃kvs,H p=some (.dK kvs))\/∃kvs,H p=some (.dT kvs)))\/(T = "set" /\ ∃S n,H p=some (.set S n))
 |_=>False
theorem zcn(I:V2 X pins σ H s)(r:R4 x v)(ty:tyV X.K T x H) :
  s.TypeIs v T/\∀a,v=.ref a->∃ob,s.heap.get? a=some ob/\ob.dict=none:=by
 cases x with
 |str z=>
  obtain⟨t,rfl⟩:=r;cases (show T = "str" from ty);exact⟨typeIs_str s z t,λ_ e=>nomatch e⟩
 |int i=>
  obtain⟨t,rfl⟩:=r;cases (show T = "int" from ty);exact⟨JM s i t,λ_ e=>nomatch e⟩
 |ref p=>
  cases r;rcases ty with⟨rfl,xs,hq⟩|⟨rfl,o,hk,hc,hd⟩|⟨rfl,hk⟩|⟨rfl,S,n,hk⟩
  .obtain⟨its,_,pl,_⟩:=I.list hq;refine⟨pl.isList.typeIs,λa e=>?_⟩;cases e;obtain⟨o,n,e,c,hd,_⟩:=pl;grind
  .refine⟨⟨o,I.kIn p o hk,hc⟩,λa e=>?_⟩;cases e;exact⟨o,I.kIn _ o hk,hd⟩
  .have z:∃o,s.heap.get? p=some o/\o.ExactDict:=by
    rcases hk with⟨kvs,hk⟩|⟨kvs,hk⟩
    .obtain⟨_,_,_,_,o,_,_,e,ex,_⟩:=I.hok p _ hk;grind
    .obtain⟨_,_,_,_,o,_,_,e,ex,_⟩:=I.hok p _ hk;grind
   obtain⟨o,e,ex⟩:=z;refine⟨⟨o,e,ex.1⟩,λa e2=>?_⟩;cases e2;exact⟨o,e,ex.2.1⟩
  .obtain⟨o,_,_,_,e,ex,_⟩:=I.hok p _ hk;refine⟨⟨o,e,ex.1⟩,λa e2=>?_⟩;cases e2;exact⟨o,e,ex.2.1⟩
 |_=>exact False.elim ty
def tBM(K:Frag)(T:String)(r:V->List V->Hp->VK->Prop)(to:TE)(t:TA):TE:=λσ H Q=>to σ H λx H1=>tyV K T x H1/\t σ H1 λxs H2=>r x xs H2 Q
variable {o e:Expr}{es:List Expr}{to:TE}{t:TA}{name:Str}{jE EF:Pos}{id:String}{r:V->List V->Hp->VK->Prop}
theorem mE(pa:PlainAttrs T)(slot:Slot T name id)(hty:typeOf (.builtin id)=pure (.type "method_descriptor"))(hm:MtR X id r)(ho:PE X o to)(ha:PA X (e::es) t)
 (Ze:attributeBase o name X.env (eval o X.env)=eval o X.env:=by rfl)
 (zdq:((backTo EF (starEach (e::es) X.env)).all (λx=>!x.1)&&(backToKw EF (keywordEach [] X.env)).all (λx=>x.1.isSome)
 && decide ((e::es).length+([]:List Keyword).length+(if ([]:List Keyword).isEmpty then 0 else 1)<30))=true:=by rfl)
 (GM:(jE.endLine==EF.line)=true:=by rfl) (hs:starEach (e::es) X.env=(false,eval e X.env)::starEach es X.env:=by rfl) (Kj:(backTo EF (starEach es X.env)).any (·.1)=false:=by rfl) :
   PE X (.Call (.Attribute o name jE) (e::es) [] EF) (tBM X.K T r to t):=by
  intro pins s σ H Q I h;refine wpAny_Call_method_late Ze zdq GM rfl (i8 (ho pins s σ H _ I h) λv s1 ⟨x,H1,I1,r1,ty,q1⟩=>?_);obtain⟨h1,h2⟩:=zcn I1 r1 ty;refine⟨T,id,pa,slot,hty,h1,h2,?_⟩;have hA:=ha EF pins s1 σ H1 _ I1 q1;rw[hs]at hA ⊢;refine ZA (by show(false||(backTo EF (starEach es X.env)).any (·.1))=false;rw[Kj]<;>rfl) (ZE ?_);exact i8 hA λus s2 ⟨vs,H2,I2,r2,q2⟩=>hm pins s2 σ H2 x vs v us Q I2 r1 r2 q2
end
end L2
namespace L2
open PySem PySem.Spec PyProof.Rows
variable {X:Cx}{xs:List V}{its:List Value}{n t':Nat}{s:Shared}
def MtM(X:Cx)(id:String)(r:V->List V->Hp->VK->Prop):Prop:=
 ∀(pins:List (Addr×Obj))(s:Shared)(σ:St)(H:Hp)(x:V)(xs:List V)(v:Value)(us:List Value)(Q:VK),V2 X pins σ H s->R4 x v->k4 xs us->r x xs H Q->
  wpAny (model X.prog X.w) X.A (call (.builtin id) (v::us)) (EP X pins σ Q) X.xe s
theorem k4.one:∀{x:V}{us:List Value},k4 [x] us->∃u,us=[u]/\R4 x u
 |_,_,.cons r .nil=>⟨_,rfl,r⟩
theorem k4.rep{us:List Value}(h:k4 xs us):∀k:Nat,k4 (List.replicate k xs).flatten (List.replicate k us).flatten
 |0=>.nil
 |k+1=>by
  rw[wC,wC,iH,iH];exact k4.append h (k4.rep h k)
theorem nW(its:List Value):∀(k:Nat)(acc:List Value),
  List.foldl (λx1 x2=>x1++x2) acc.toArray (List.replicate k its.toArray)=(acc++(List.replicate k its).flatten).toArray
 |0,acc=>by simp
 |k+1,acc=>by
  have e:acc.toArray++its.toArray=(acc++its).toArray:=by simp
  have e2:(acc++its)++(List.replicate k its).flatten=acc++(List.replicate (k+1) its).flatten:=by
   rw[wC,iH,R7]
  rw[<-e2,<-nW its k (acc++its),<-e,wC,OC]
section
variable {pins:List (Addr×Obj)}{σ:St}{H:Hp}{l b:Addr}{ys zs:List V}
theorem V2.lset{its':List Value}{f:Array Value->Array Value}(I:V2 X pins σ H s) (hH:H l=some (.lst xs))
 (e:s.heap.get? l=some {cls:=.type "list",data:=.seq its.toArray n}) (hf:f its.toArray=its'.toArray) (hv:k4 ys its') (hz:ys.length<=sizeLine) :
   V2 X pins σ (upd H l (.lst ys)) {s with heap:=s.heap.update l (Obj.mapSeq f),toks:=t'}:=by
  have q:=PySem.IsL.update e f;rw[hf]at q;refine I.write (x:=l) (e:=l) (by rw[hH];exact trivial) (.inl rfl) (λb' u hb hu=>(M5 s.heap (Obj.mapSeq f) (K2 hb)).trans hu) ⟨_,q⟩ ?_;exact⟨hz,its',_,hv,q⟩
theorem V2.lnew(I:V2 X pins σ H s)(hv:k4 ys its)(hz:ys.length<=sizeLine) :
  V2 X pins σ (upd H s.heap.objs.size (.lst ys)) {s with heap:=s.heap.push {cls:=.type "list",data:=.seq its.toArray},toks:=t'}:=
 I.laid (λ_ _ q=>U0 _ q) (j1 _) ⟨hz,its,0,hv,X1 _ rfl⟩
theorem V2.fresh(I:V2 X pins σ H s):H s.heap.objs.size=none:=I.hok.fresh (j1 _)
theorem V2.lstM(I:V2 X pins σ H s)(hH:H l=some (.lst xs)):xs.length<=sizeLine/\∃(its:List Value)(n:Nat),k4 xs its/\xs.length=its.length/\s.heap.get? l=some {cls:=.type "list",data:=.seq its.toArray n}:=by
 obtain⟨z,its,n,r,e⟩:=I.hok l _ hH;exact⟨z,its,n,r,r.length,e⟩
theorem FZ(h:n<=sizeLine):Builtin.List.listTooLong n=false:=by
 grind [Builtin.List.listTooLong]
end
inductive Gk(x:V)(vs:List V)(H:Hp)(Q:VK):Prop
 |mk (l xs y:_):x=.ref l->vs=[y]->H l=some (.lst xs)->xs.length<sizeLine->Q .non (upd H l (.lst (xs++[y])))->Gk x vs H Q
theorem V9:MtM X "list.append" Gk:=by
 intro pins s σ H x vs v us Q I rx rv h;obtain⟨l,xs,y,rfl,rfl,hH,hz,q⟩:=h;cases rx;obtain⟨u,rfl,ru⟩:=rv.one;obtain⟨z,its,n,r,hl,e⟩:=I.lstM hH;refine pJ F.slot_list_append ⟨_,e,rfl⟩ F.entry_list_append (F.args_list_append_2 _ _) (PySem.list_append l its.toArray n u (by rw[J1];lia)) ⟨e,?_⟩;refine⟨.non,_,I.lset (its':=its++[u]) hH e (by simp) (r.append (.cons ru .nil)) ?_,rfl,q⟩;rw[Y1,m8]
 lia
inductive Hk(x:V)(vs:List V)(H:Hp)(Q:VK):Prop
 |mk (l b xs zs:_):x=.ref l->vs=[.ref b]->H l=some (.lst xs)->H b=some (.lst zs)->xs.length+zs.length<=sizeLine->Q .non (upd H l (.lst (xs++zs)))->Hk x vs H Q
theorem mI:MtM X "list.extend" Hk:=by
 intro pins s σ H x vs v us Q I rx rv h;obtain⟨l,b,xs,zs,rfl,rfl,hH,hB,hz,q⟩:=h;cases rx;obtain⟨u,rfl,ru⟩:=rv.one;cases ru;obtain⟨z,its,n,r,hl,e⟩:=I.lstM hH;obtain⟨z2,IK,n2,r2,Wr,e2⟩:=I.lstM hB;have hsz:its.toArray.size+IK.toArray.size<=sizeLine:=by grind
 have Gx:¬(!its.toArray.isEmpty&&Builtin.List.listTooLong (its.toArray.size+IK.toArray.size))=true:=by
  rw[FZ hsz,Bool.and_false];exact T1
 refine pJ F.slot_list_extend ⟨_,e,rfl⟩ F.entry_list_extend (F.args_list_extend_2 _ _)
  (AutoSeq1.list_extend_list_list_0 l its.toArray n b IK.toArray n2 Gx (by rw[J1];lia) (by lia)) ⟨e,e2,?_⟩
 refine⟨.non,_,I.lset (its':=its++IK) hH e (by simp) (r.append r2) ?_,rfl,q⟩;grind
inductive zeB(x:V)(y:V)(H:Hp)(Q:VK):Prop
 |mk (l b xs zs:_):x=.ref l->y=.ref b->H l=some (.lst xs)->H b=some (.lst zs)->xs.length+zs.length<=sizeLine->(∀p,H p=none->Q (.ref p) (upd H p (.lst (xs++zs))))->zeB x y H Q
theorem Cg:kJ X (binaryOp .Add) zeB:=by
 intro pins s σ H x y v u Q I rx ry h;obtain⟨l,b,xs,zs,rfl,rfl,hH,hB,hz,q⟩:=h;cases rx;cases ry;obtain⟨z,its,n,r,hl,e⟩:=I.lstM hH;obtain⟨z2,IK,n2,r2,Wr,e2⟩:=I.lstM hB;refine PySem.P.add_list e e2 ?_ (by rw[J1,J1];lia);have ea:its.toArray++IK.toArray=(its++IK).toArray:=by simp
 rw[ea];exact⟨.ref _,_,I.lnew (t':=s.toks) (r.append r2) (by rw[Y1];lia),rfl,q _ I.fresh⟩
inductive zeC(x:V)(y:V)(H:Hp)(Q:VK):Prop
 |mk (l k xs:_):x=.ref l->y=.int k->H l=some (.lst xs)->-(2^63)<=k->k<2^63->xs.length*k.toNat<=sizeLine->(∀p,H p=none->Q (.ref p) (upd H p (.lst (List.replicate k.toNat xs).flatten)))->zeC x y H Q
theorem Dz{α:Type}(xs:List α) (k:Nat):(List.replicate k xs).flatten.length=k*xs.length:=by
 simp_all
theorem zco:kJ X (binaryOp .Mult) zeC:=by
 intro pins s σ H x y v u Q I rx ry h;obtain⟨l,k,xs,rfl,rfl,hH,h1,h2,hz,q⟩:=h;cases rx;obtain⟨t,rfl⟩:=ry;obtain⟨z,its,n,r,hl,e⟩:=I.lstM hH;have CC:its.toArray.size*k.toNat<=sizeLine:=by rw[J1,<-hl];exact hz
 have zhK:¬its.toArray.size*k.toNat>(2^63-1)/8:=by
  have:(sizeLine:Nat)<=(2^63-1)/8:=by decide
  lia
 have zhL:¬(!Builtin.List.listFitsIndex k)=true:=by
  rw[fitsIndex_both h1 h2];exact T1
 have Gx:¬Builtin.List.listTooLong (its.toArray.size*k.toNat)=true:=by
  rw[FZ CC];exact T1
 have zhM:List.foldl (λx1 x2=>x1++x2) #[] (List.replicate (if its.toArray.isEmpty=true then 0 else k.toNat) its.toArray)=(List.replicate k.toNat its).flatten.toArray:=by
  have f0:∀m:Nat,List.foldl (λx1 x2=>x1++x2) #[] (List.replicate m its.toArray)=(List.replicate m its).flatten.toArray:=λm=>by
   have:=nW its m [];rw[List.nil_append]at this;exact this
  rw[f0];cases its with
  |nil=>simp
  |cons a r'=>rw[D0 (by simp)]
 refine wpAny_binaryOp_repeat_ref (T:= "list") (U:= "int") (by decide) ⟨_,e,rfl⟩ (λs'=>JM s' k t) noFill_list_mul F.fills_int_mul F.slot_int_rmul repeat_list F.slot_int_index.lookup
  (pJ F.slot_int_rmul (JM s k t) F.entry_int_rmul (F.args_int_rmul_2 _ _) (int___rmul___int_list k t l its.toArray n)
    ⟨e,rfl,⟨_,e,rfl⟩,pJ F.slot_list_mul ⟨_,e,rfl⟩ F.entry_list_mul (F.args_list_mul_2 _ _) (AutoListH.list___mul___list_int_3 l its.toArray n k t zhL zhK Gx) ⟨e,?_⟩⟩)
 rw[zhM];exact⟨.ref _,_,I.lnew (t':=s.toks) (r.rep k.toNat) (by rw[Dz,Nat.mul_comm];exact hz),rfl,q _ I.fresh⟩
section
variable {prog:Program}{w:World}{A:Around}{E:Value->Shared->Prop}
end
end L2
namespace L2
open PySem PySem.Spec PyProof.Rows
variable {l:Addr}{A:Around}{X:Cx}{its:List Value}{prog:Program}{s:Shared}{E Q:Value->Shared->Prop}{w:World}
theorem k4.ints:∀{ns:List Int}{us:List Value},k4 (ns.map V.int) us->IntsAre us ns
 |[],us,h=>by
  rw[fC]at h;cases h;exact IntsAre.nil
 |n::ns,us,h=>by
  rw[C3]at h;cases h with
  |cons r t=>
   obtain⟨k,rfl⟩:=r;exact IntsAre.cons n k (k4.ints t)
theorem k4.bls:∀{bs:List Bool}{us:List Value},k4 (bs.map V.bl) us->us=bs.map Value.bool
 |[],us,h=>by
  rw[fC]at h;cases h;rfl
 |b::bs,us,h=>by
  rw[C3]at h;cases h with
  |cons r t=>
   cases r;rw[k4.bls t,C3]
theorem k4.ref1{a:Addr}{us:List Value}(r:k4 [V.ref a] us):us=[Value.ref a]:=by
 cases r with
 |cons r t=>
  cases t;cases r;rfl
section
variable {ns:List Int}
theorem Ez(hh:A.handled=none)(hl:s.heap.IsList l its.toArray)(hi:IntsAre its ns)
 (h:∀h' tk t',(∀b o,s.heap.get? b=some o->h'.get? b=some o)->Q (.int ns.sum t') {s with heap:=h',toks:=tk}):wpAny (model prog w) A (call (.builtin "sum") [.ref l]) Q E s:=by
  obtain⟨xs,e⟩:=hi.allInts.items;have hn:numsOf (intItems xs).toList=ns:=by rw[<-e];exact hi.numsOf
  rw[nums_intItems]at hn;rw[e]at hl;refine PySem.sum_intListG hh hl λh' tk t' hk=>?_;have:=h h' tk t' hk;rw[preSum_eq,qJ (by simp),hn];exact this
end
inductive zeD(K:Frag)(vs:List V)(H:Hp)(Q:VK):Prop
 |mk (a:Addr) (ns:List Int):vs=[V.ref a]->SqL K H a (ns.map V.int)->Q (.int ns.sum) H->zeD K vs H Q
theorem zcp(hc:X.calm=true):QK X (.builtin "sum") (zeD X.K):=by
 intro pins s σ H vs us Q I r h;obtain⟨a,ns,rfl,hs,q⟩:=h;obtain⟨its,rv,hl,_⟩:=I.list hs;rw[k4.ref1 r];exact Ez (I.ok.hd hc) hl.isList rv.ints λh' tk t' hk=>⟨.int _,H,I.kept hk,⟨_,rfl⟩,q⟩
inductive Dg(K:Frag)(x:V)(xs:List V)(H:Hp)(Q:VK):Prop
 |mk (a:Addr) (ys:List V) (y:V) (j:Nat) (z:V):x=V.ref a->xs=[y]->SqL K H a ys->lI y=true->ys.all lI=true->ys[j]?=some z->Dy z y=true->(∀(m:Nat)(z':V),m<j->ys[m]?=some z'->Dy z' y=false)->Q (.int (j:Nat)) H->Dg K x xs H Q
theorem Ik{ys:List V}(f:ys.all lI=true) {j:Nat}{z:V}(h:ys[j]?=some z):lI z=true:=t7.mp f z (N1 h)
theorem At:MtR X "list.index" (Dg X.K):=by
 intro pins s σ H x xs v us Q I rx rxs h;obtain⟨a,ys,y,j,z,rfl,rfl,hs,fy,fys,hz,hzj,hno,q⟩:=h;cases rx;cases rxs with
 |cons ry rt=>
  rename_i uy ut;cases rt;obtain⟨its,rv,⟨⟨cls,dd,data,sl⟩,n,ho,hc,hdn,hd⟩,CC⟩:=I.list hs;simp only at hc hd;subst hc hd;obtain⟨u,hu,ru⟩:=rv.get hz;obtain⟨hjl,hje⟩:=N0.mp hu;have hvl:=rv.length;have hj:j<its.toArray.size:=by simpa using hjl
  have hsl:=YE;refine pJ nI ⟨_,ho,rfl⟩ PySem.F.entry_list_index (PySem.F.args_list_index_2 _ _)
   (SeqAt.list_indexAt a its.toArray n dd sl uy (Ey y) j hj (by lia) ?_ ?_) ⟨ho,λu' hu'=>CN ry fy rv fys u' (by simpa using hu'),?_⟩
  .have e1:its.toArray[j]=u:=by simpa using hje
   rw[e1,QX ru (Ik fys hz)];exact hzj
  .intro m hm hmj;have hml:m<its.length:=by simpa using hm
   have hmy:m<ys.length:=by lia
   have hy':ys[m]?=some ys[m]:=O0 hmy;obtain⟨u2,hu2,ru2⟩:=rv.get hy';obtain⟨_,hme⟩:=N0.mp hu2;have e1:its.toArray[m]=u2:=by simpa using hme
   rw[e1,QX ru2 (Ik fys hy')];exact hno m _ hmj hy'
  .exact⟨.int (j:Nat),H,I.tok _,⟨_,rfl⟩,q⟩
theorem GZ{items:Array Value}(hl:s.heap.IsList l items)
 (h:∀s₂:Shared,s₂={s with heap:=s.heap.push {cls:=.type "list_iterator",data:=.fields #[.ref l,.int 0 0]}}->
 (s₂.heap.IsListIter s.heap.objs.size l 0/\s₂.heap.IsList l items)->l≠s.heap.objs.size->Q (.ref s.heap.objs.size) s₂):wpAny (model prog w) A (pyIter (.ref l)) Q E s:=by
  have UC:l<s.heap.objs.size:=by obtain⟨_,e,_⟩:=hl;exact F2 e
  exact bH hl (h _ rfl ⟨⟨_,X1 _ rfl,rfl,rfl⟩,hl.push _⟩ (j3 UC))
theorem uQ{bs:List Bool}(e:its=bs.map Value.bool) :
  TruthOf prog w A (λi v=>its.toArray[i]?=some v) (λi=>bs.getD i false):=λi v s Q E hv hq=>by
 have hv':its[i]?=some v:=by simpa using hv
 rw[e,P1]at hv';obtain⟨b,hb,rfl⟩:=rJ.mp hv';have hg:bs.getD i false=b:=by rw[U2,hb]<;>rfl
 have Mn:Q (bs.getD i false) s:=hq;rw[hg]at Mn;exact D5 Mn
theorem oW:∀bs:List Bool,(List.range bs.length).any (λi=>bs.getD i false)=bs.any id
 |[]=>rfl
 |b::bs=>by
  rw[M1,aB,P8,EN,P8,<-oW bs]
  all_goals rfl
theorem pW:∀bs:List Bool,(List.range bs.length).all (λi=>bs.getD i false)=bs.all id
 |[]=>rfl
 |b::bs=>by
  rw[M1,aB,O8,FD,O8,<-pW bs]
  all_goals rfl
inductive zeE(K:Frag)(vs:List V)(H:Hp)(Q:VK):Prop
 |mk (a:Addr) (bs:List Bool):vs=[V.ref a]->SqL K H a (bs.map V.bl)->Q (.bl (bs.any id)) H->zeE K vs H Q
inductive zeF(K:Frag)(vs:List V)(H:Hp)(Q:VK):Prop
 |mk (a:Addr) (bs:List Bool):vs=[V.ref a]->SqL K H a (bs.map V.bl)->Q (.bl (bs.all id)) H->zeF K vs H Q
theorem Bt(hc:X.calm=true):QK X (.builtin "any") (zeE X.K):=by
 intro pins s σ H vs us Q I r h;obtain⟨a,bs,rfl,hs,q⟩:=h;obtain⟨its,rv,hl,_⟩:=I.list hs;rw[k4.ref1 r];have hb:=rv.bls;refine call_any_walk (GZ hl.isList λs₂ e2 st JK=>?_);subst e2;refine⟨_,_,_,_,_,_,_,rfl,Walks.list (A:=X.A.in1) (I.ok.hd hc) _ a JK its.toArray,st,uQ hb,λh' tk hk=>?_⟩;refine⟨.bl _,H,I.kept λb o eo=>hk b o (λhmem=>?_) (U0 _ eo),?_,q⟩
 .rcases S1.mp hmem with e1|hmem
  .exact absurd (e1 ▸ F2 eo) (B5 _)
  .cases hmem
 .show Value.bool _=Value.bool _;rw[<-oW,hb,J1,B0]
theorem HS(hc:X.calm=true):QK X (.builtin "all") (zeF X.K):=by
 intro pins s σ H vs us Q I r h;obtain⟨a,bs,rfl,hs,q⟩:=h;obtain⟨its,rv,hl,_⟩:=I.list hs;rw[k4.ref1 r];have hb:=rv.bls;refine call_all_walk (GZ hl.isList λs₂ e2 st JK=>?_);subst e2;refine⟨_,_,_,_,_,_,_,rfl,Walks.list (A:=X.A.in1) (I.ok.hd hc) _ a JK its.toArray,st,uQ hb,λh' tk hk=>?_⟩;refine⟨.bl _,H,I.kept λb o eo=>hk b o (λhmem=>?_) (U0 _ eo),?_,q⟩
 .rcases S1.mp hmem with e1|hmem
  .exact absurd (e1 ▸ F2 eo) (B5 _)
  .cases hmem
 .show Value.bool _=Value.bool _;rw[<-pW,hb,J1,B0]
mutual
inductive Dp(K:Frag)(H:Hp):V->PyData->Prop
 |non:Dp K H .non .none
 |bl (b:Bool):Dp K H (.bl b) (.bool b)
 |int (i:Int):Dp K H (.int i) (.int i)
 |str (x:Str):Dp K H (.str x) (.str x)
 |lst {a:Addr} {xs:List V} {ds:List PyData}:SqL K H a xs->vQ K H xs ds->Dp K H (.ref a) (.list ds)
 |tup {a:Addr} {xs:List V} {ds:List PyData}:S9 K H a xs->vQ K H xs ds->Dp K H (.ref a) (.tuple ds)
inductive vQ(K:Frag)(H:Hp):List V->List PyData->Prop
 |nil:vQ K H [] []
 |cons {v:V} {vs:List V} {d:PyData} {ds:List PyData}:Dp K H v d->vQ K H vs ds->vQ K H (v::vs) (d::ds)
end
section
variable {pins:List (Addr×Obj)}{σ:St}{H:Hp}
mutual
theorem Dp.reads(I:V2 X pins σ H s):∀(d:PyData)(v:V)(u:Value),Dp X.K H v d->R4 v u->∃as,Reads s.heap u d as
 |.none,_,_,h,r=>by
  cases h;cases r;exact⟨_,Reads.none⟩
 |.bool b,_,_,h,r=>by
  cases h;cases r;exact⟨_,Reads.bool b⟩
 |.int i,_,_,h,r=>by
  cases h;obtain⟨t,rfl⟩:=r;exact⟨_,Reads.int i t⟩
 |.str x,_,_,h,r=>by
  cases h;obtain⟨t,rfl⟩:=r;exact⟨_,Reads.str x t⟩
 |.list ds,_,_,h,r=>by
  cases h with
  |lst hs ha=>
   cases r;obtain⟨its,rv,⟨o,n,ho,hc,_,hd⟩,_⟩:=I.list hs;obtain⟨as,hr⟩:=Dp.readsAll I ds _ its ha rv;exact⟨_,Reads.list ho hc hd hr⟩
 |.tuple ds,_,_,h,r=>by
  cases h with
  |tup hs ha=>
   cases r;obtain⟨its,rv,⟨o,ho,hc,n,hd⟩,_⟩:=I.tuple hs;obtain⟨as,hr⟩:=Dp.readsAll I ds _ its ha rv;exact⟨_,Reads.tuple ho hc hd hr⟩
 |.dict _,_,_,h,_=>by cases h
theorem Dp.readsAll(I:V2 X pins σ H s):∀(ds:List PyData)(vs:List V)(us:List Value),vQ X.K H vs ds->k4 vs us->∃as,ReadsAll s.heap us ds as
 |[],_,_,h,r=>by
  cases h;cases r;exact⟨_,ReadsAll.nil⟩
 |d::ds,_,_,h,r=>by
  cases h with
  |cons h1 h2=>
   cases r with
   |cons r1 r2=>
    obtain⟨as,q1⟩:=Dp.reads I d _ _ h1 r1;obtain⟨bs,q2⟩:=Dp.readsAll I ds _ _ h2 r2;exact⟨_,ReadsAll.cons q1 q2⟩
end
end
inductive zeG(K:Frag)(x:V)(y:V)(H:Hp)(Q:VK):Prop
 |mk (d e:_):Dp K H x d->Dp K H y e->SeqAt.shaped d=true->SeqAt.shaped e=true->Q (.bl (PyData.eqv d e)) H->zeG K x y H Q
inductive zeH(K:Frag)(x:V)(y:V)(H:Hp)(Q:VK):Prop
 |mk (d e:_):Dp K H x d->Dp K H y e->SeqAt.shaped d=true->SeqAt.shaped e=true->Q (.bl (!PyData.eqv d e)) H->zeH K x y H Q
theorem Eg(hu:X.A.units+64<cLine):kJ X (compareOp .Eq) (zeG X.K):=by
 intro pins s σ H x y v u Q I rx ry h;obtain⟨d,e,hd,he,sd,se,q⟩:=h;obtain⟨as,r1⟩:=Dp.reads I d x v hd rx;obtain⟨bs,r2⟩:=Dp.reads I e y u he ry;exact SeqAt.compareEq_shaped r1 r2 sd se hu ⟨.bl _,H,I,rfl,q⟩
theorem Fg(hu:X.A.units+64<cLine):kJ X (compareOp .NotEq) (zeH X.K):=by
 intro pins s σ H x y v u Q I rx ry h;obtain⟨d,e,hd,he,sd,se,q⟩:=h;obtain⟨as,r1⟩:=Dp.reads I d x v hd rx;obtain⟨bs,r2⟩:=Dp.reads I e y u he ry;exact SeqAt.compareNe_shaped r1 r2 sd se hu ⟨.bl _,H,I,rfl,q⟩
end L2
namespace L2
open PySem PySem.Spec PyProof.Rows
variable {D a:Addr}{A:Around}{X:Cx}{env:Env}{H1:Hp}{Qd:Hp->Prop}{cells:List (Str×Addr)}{vs:List Nat}{xs:List V}{M:Model}{K:Frag}{scope:Scope}{s:Shared}{σ:St}{te:TE}{g:TG}{tt:TT}{α:Type}{E:Value->Shared->Prop}
abbrev Ct(h:Heap)(c:Addr)(v:Option Value):Prop:=h.IsCell c v
def zho(scope sc:Scope):Scope:=
 {scope with names:=scope.names.map λ(n,k)=>if (k == .free&&sc.kind == .function&&sc.names.lookup n==some .cell)then(n,.cell)else(n,k)}
def k8(cells:List (Str×Addr)):List (Str×NameKind)->List (Str×Addr)->List (Str×Addr)
 |[],acc=>acc
 |(n,k)::r,acc=>if k == .free then k8 cells r ((n,(cells.lookup n).getD 0)::acc)else k8 cells r acc
theorem FN(env:Env)(f:Str×NameKind->List (Str×Addr)->Sem (ForInStep (List (Str×Addr))))
  (hf:∀n k c,f (n,k) c=if k == .free then(do let a <-cellOf env n;pure (.yield ((n,a)::c)))else pure (.yield c)) :
  ∀(names:List (Str×NameKind))(acc:List (Str×Addr)),(∀y∈names,y.2=.free->∃c,env.cells.lookup y.1=some c)->forIn names acc f=pure (k8 env.cells names acc)
 |[],acc,_=>by rw[UK];rfl
 |(n,k)::r,acc,h=>by
  rw[fB,hf];have ih:=λacc=>FN env f hf r acc λy hy=>h y (o3 _ hy);unfold k8;by_cases hk:(k==NameKind.free)=true
  .rw[K0 hk,K0 hk];obtain⟨c,hc⟩:=h (n,k) S4 (by simpa using hk);have e:cellOf env n=pure c:=by unfold cellOf;rw[hc]
   grind
  all_goals grind
theorem Gg(h:∀y∈scope.names,y.2=.free->∃c,env.cells.lookup y.1=some c):closureFor scope env=pure (k8 env.cells scope.names []):=by
 simp only[closureFor];rw[FN env _ (λn k c=>rfl) scope.names [] h];rfl
theorem KM{α:Type}:∀{l:List (Str×α)}{n:Str}{c:α},(n,c)∈l->∃c',l.lookup n=some c'
 |(k,v)::r,n,c,h=>by
  rw[B9];cases hb:n==k with
  |true=>grind
  |false=>
   rcases S1.mp h with e|h
   .grind
   .exact KM h
theorem jH{cells:List (Str×Addr)}:∀{names:List (Str×NameKind)}{acc:List (Str×Addr)}{n:Str}{c:Addr},(n,c)∈k8 cells names acc->(n,c)∈acc\/((n,.free)∈names/\c=(cells.lookup n).getD 0)
 |[],_,_,_,h=>.inl h
 |(m,k)::r,acc,n,c,h=>by
  unfold k8 at h;split at h
  .rename_i hk;have hk:k=.free:=by simpa using hk
   rcases jH h with h|⟨h1,h2⟩
   .rcases S1.mp h with e|h
    all_goals grind
   all_goals grind
  .rcases jH h with h|⟨h1,h2⟩
   all_goals grind
theorem WK{cells:List (Str×Addr)}:∀{names:List (Str×NameKind)}{acc:List (Str×Addr)}{p:Str×Addr},p∈acc->p∈k8 cells names acc
 |[],_,_,h=>h
 |(m,k)::r,acc,p,h=>by
  unfold k8;split
  .exact WK (o3 _ h)
  .exact WK h
theorem YK{cells:List (Str×Addr)}:∀{names:List (Str×NameKind)}{acc:List (Str×Addr)}{n:Str},(n,.free)∈names->(n,(cells.lookup n).getD 0)∈k8 cells names acc
 |(m,k)::r,acc,n,h=>by
  unfold k8;rcases S1.mp h with e|h
  .cases e;exact WK S4
  .split
   .exact YK h
   .exact YK h
theorem qI:∀{names:List (Str×NameKind)}{h:Heap}{acc:List (Str×Addr)}{x:Str}{c:Addr},(x,c)∈cellsFrom h.objs.size names acc->
  (x,c)∈acc\/((x,.cell)∈names/\h.objs.size<=c/\Ct (pushCells h names) c none)
 |[],_,_,_,_,h=>.inl h
 |(n,k)::r,h,acc,x,c,hm=>by
  unfold cellsFrom at hm;unfold pushCells;split at hm
  .rename_i hk;rw[K0 hk];have hk:k=.cell:=by simpa using hk
   rw[<-X4 h {cls:=.type "cell",data:=.cell none}]at hm;rcases qI hm with hm|⟨h1,h2,h3⟩
   .rcases S1.mp hm with e|hm
    .cases e;exact .inr ⟨hk ▸ S4,j1 _,_,kF r _ _ _ (X1 _ rfl),rfl⟩
    .exact .inl hm
   .rw[X4]at h2;exact .inr ⟨o3 _ h1,GD h2,h3⟩
  .rename_i hk;rw[D0 hk];rcases qI hm with hm|⟨h1,h2,h3⟩
   .exact .inl hm
   .exact .inr ⟨o3 _ h1,h2,h3⟩
theorem WL:∀{names:List (Str×NameKind)}{n:Nat}{acc:List (Str×Addr)}{p:Str×Addr},p∈acc->p∈cellsFrom n names acc
 |[],_,_,_,h=>h
 |(m,k)::r,n,acc,p,h=>by
  unfold cellsFrom;split
  .exact WL (o3 _ h)
  .exact WL h
theorem kP:∀{names:List (Str×NameKind)}{n:Nat}{acc:List (Str×Addr)}{x:Str},(x,.cell)∈names->∃c,(x,c)∈cellsFrom n names acc
 |(m,k)::r,n,acc,x,h=>by
  unfold cellsFrom;rcases S1.mp h with e|h
  .cases e;exact⟨n,WL S4⟩
  .split
   .exact kP h
   .exact kP h
theorem lP:∀{names:List (Str×NameKind)}{h:Heap}{acc:List (Str×Addr)}{x y:Str}{c:Addr},(∀p∈acc,p.2<h.objs.size)->(∀x y c,(x,c)∈acc->(y,c)∈acc->x=y)->
  (x,c)∈cellsFrom h.objs.size names acc->(y,c)∈cellsFrom h.objs.size names acc->x=y
 |[],_,_,_,_,_,_,hi,h1,h2=>hi _ _ _ h1 h2
 |(n,k)::r,h,acc,x,y,c,hl,hi,h1,h2=>by
  unfold cellsFrom at h1 h2;split at h1
  .rename_i hk;rw[K0 hk]at h2;rw[<-X4 h {cls:=.type "cell",data:=.cell none}]at h1 h2;refine lP (h:=h.push _) (λp hp=>?_) (λx y c a b=>?_) h1 h2
   .rw[X4];rcases S1.mp hp with rfl|hp
    .exact wE _
    .exact HD (hl p hp)
   .rcases S1.mp a with e|a<;>rcases S1.mp b with e'|b
    .grind
    .cases e;exact absurd (hl _ b) (B5 _)
    .cases e';exact absurd (hl _ a) (B5 _)
    .exact hi _ _ _ a b
  .rename_i hk;rw[D0 hk]at h2;exact lP hl hi h1 h2
theorem HZ{globals:Addr}{iZ:List (Str×Addr)}{EB:Str}{func:Option Addr}{code:Value}{Hx:Env}{builtins:Addr}{Q:Env->Shared->Prop}
 (h:Q (newEnv scope s.heap.objs.size globals (cellsFrom (s.heap.objs.size+1) scope.names iZ) EB func code (some Hx) builtins)
 {s with heap:=pushCells (s.heap.push {cls:=.type "dict",data:=.dict #[]}) scope.names}) :
   wpAny M A (newFunctionEnv scope globals iZ [] EB func code (some Hx) builtins) Q E s:=by
  simp only[newFunctionEnv,Option.isSome_some,QF];refine z0 (ZK ?_);refine z0 (wpAny_layCells _ (λn k c=>rfl) scope.names iZ _ _ ?_);rw[show({s with heap:=s.heap.push {cls:=.type "dict",data:=.dict #[]}}:Shared).heap.objs.size=s.heap.objs.size+1 from X4 ..];rw[UK];exact z0 (S0 (S0 h))
theorem aL{sc:Scope}:∀{names:List (Str×NameKind)}{x:Str}{k:NameKind},
  (names.map λ(n,k)=>if (k==NameKind.free&&sc.kind == .function&&sc.names.lookup n==some .cell)then(n,NameKind.cell)else(n,k)).lookup x=some k->
  ∃k',names.lookup x=some k'/\(k=k'\/(k'=.free/\k=.cell))
 |[],_,_,h=>by simp at h
 |(n,k₀)::r,x,k,h=>by
  have ih:=@aL sc r x k;have h':List.lookup x ((if (k₀==NameKind.free&&sc.kind == .function&&sc.names.lookup n==some .cell)=true then(n,NameKind.cell)else(n,k₀))::(r.map _))=some k:=h;cases hx:x==n with
  |true=>
   simp only[B9,hx];by_cases hc:(k₀==NameKind.free&&sc.kind == .function&&sc.names.lookup n==some .cell)=true
   all_goals grind
  |false=>
   simp only[B9,hx];by_cases hc:(k₀==NameKind.free&&sc.kind == .function&&sc.names.lookup n==some .cell)=true
   .rw[K0 hc]at h';simp only[B9,hx]at h';exact ih h'
   .rw[D0 hc]at h';simp only[B9,hx]at h';exact ih h'
structure IZ(N:List Str)(sc scope:Scope)(own:List (Str×Nat)):Prop where
 kind:scope.kind=.function
 uniq:∀y∈scope.names,scope.names.lookup y.1=some y.2
 ix:∀p∈own,N[p.2]?=some p.1
 free:∀y∈scope.names,y.2=.free->sc.names.lookup y.1=some .cell\/sc.names.lookup y.1=some .free
 own:∀y∈scope.names,y.2=.local\/y.2=.cell->y.1∈own.map (·.1)\/y.1∉N
def T8(σ:St):List Nat->St
 |[]=>σ
 |v::vs=>(T8 σ vs).set v none
theorem bL(σ:St):∀vs:List Nat,(T8 σ vs).length=σ.length
 |[]=>rfl
 |v::vs=>by unfold T8;rw[List.length_set,bL σ vs]
theorem mP{σ:St}{i:Nat}{x:V}:∀{vs:List Nat},(T8 σ vs)[i]?=some (some x)->σ[i]?=some (some x)/\i∉vs
 |[],h=>⟨h,by simp⟩
 |v::vs,h=>by
  unfold T8 at h;by_cases hi:v=i
  .subst hi;by_cases hv:v<(T8 σ vs).length
   all_goals grind
  .rw[S8 hi]at h;obtain⟨h1,h2⟩:=mP h;exact⟨h1,by simp only[S1,dL];exact⟨λe=>hi e.symm,h2⟩⟩
abbrev Cx.blk(X:Cx)(s:Shared)(H:Hp)(scope:Scope)(qD:Env)(fp:List Addr):Cx:={X with s_0:=s,H_0:=H,env:=qD,outer:=X.stack,ex:=fp,fn:=λx=>scope.names.lookup x==some .cell,pn:=[],xe:=λ_ _=>False}
section
variable {pins:List (Addr×Obj)}{H:Hp}
theorem JZ{own:List (Str×Nat)}{fp:List Addr}(I:V2 X pins σ H s) (ok:IZ X.N X.env.scope scope own) (hN:X.N.Nodup) (hfp:∀b∈fp,OK X pins H b/\b<s.heap.objs.size) :
  V2 (X.blk s H scope (compEnvC scope (cellsFrom (s.heap.objs.size+1) scope.names (k8 X.env.cells scope.names [])) s.heap.objs.size X.env) fp) [] (T8 σ (own.map (·.2))) H {s with heap:=pushCells (s.heap.push {cls:=.type "dict",data:=.dict #[]}) scope.names}:=by
 have Jn:∀y∈scope.names,y.2=.free->∃c,X.env.cells.lookup y.1=some c:=λy hy e=>by
  rcases ok.free y hy e with k|k
  .exact I.ok.has _ (.inl k)
  .exact I.ok.has _ (.inr k)
 generalize hcenv:compEnvC scope (cellsFrom (s.heap.objs.size+1) scope.names (k8 X.env.cells scope.names [])) s.heap.objs.size X.env=qD;have kp:∀b o,s.heap.get? b=some o->(pushCells (s.heap.push {cls:=.type "dict",data:=.dict #[]}) scope.names).get? b=some o:=λb o e=>kF _ _ _ _ (U0 _ e);have hL:qD.locals=s.heap.objs.size:=by rw[<-hcenv];rfl
 have Xr:qD.cells=cellsFrom (s.heap.objs.size+1) scope.names (k8 X.env.cells scope.names []):=by rw[<-hcenv];rfl
 have hsc:qD.scope=zho scope X.env.scope:=by rw[<-hcenv];rfl
 rw[<-X4 s.heap {cls:=.type "dict",data:=.dict #[]}]at Xr;have cm:∀{y c},(y,c)∈k8 X.env.cells scope.names []->X.env.cells.lookup y=some c/\c<s.heap.objs.size:=λ{y c} hm=>by
  rcases jH hm with hm|⟨h1,rfl⟩
  .cases hm
  .obtain⟨c,hc⟩:=Jn _ h1 rfl;rw[hc];obtain⟨w,z⟩:=I.cell _ _ hc;exact⟨rfl,z.lt⟩
 have mem:∀{y c},qD.cells.lookup y=some c->(X.env.cells.lookup y=some c/\c<s.heap.objs.size)\/(s.heap.objs.size+1<=c/\Ct (pushCells (s.heap.push {cls:=.type "dict",data:=.dict #[]}) scope.names) c none):=λ{y c} e=>by
  rw[Xr]at e;rcases qI (N3 e)with hm|⟨_,h2,h3⟩
  .exact .inl (cm hm)
  .rw[X4]at h2;exact .inr ⟨h2,h3⟩
 have look:∀{y},scope.names.lookup y=some .free->∃c,qD.cells.lookup y=some c/\X.env.cells.lookup y=some c:=λ{y} hl=>by
  have hy:(y,NameKind.free)∈scope.names:=N3 hl;obtain⟨c',e'⟩:=KM (WL (names:=scope.names) (n:=(s.heap.push {cls:=.type "dict",data:=.dict #[]}).objs.size) (YK (cells:=X.env.cells) (acc:=[]) hy));rw[<-Xr]at e';refine⟨c',e',?_⟩;rw[Xr]at e';rcases qI (N3 e')with hm|⟨h1,_,_⟩
  .exact(cm hm).1
  .have:=ok.uniq _ h1;rw[hl]at this;cases this
 have okB:(X.blk s H scope qD fp).Ok:=by
  refine⟨I.ok.mod,by show qD.scope.kind=_;rw[hsc];exact ok.kind,by show qD.globals=_;rw[<-hcenv];exact I.ok.glob,by show qD.builtins=_;rw[<-hcenv];exact I.ok.blt,by show s.heap.objs.size<=qD.locals;rw[hL];exact j1 _,
   λy z c e1 e2=>?_,λy hy=>?_,λy c z e=>?_,I.ok.hd,I.ok.frames,.inl rfl,λb hb=>⟨?_,λy c e z=>?_⟩,I.bs,d4 I.ok.bsz I.sz,λb o e hb=>?_,λb hb z=>?_,I.stack,I.stkFree⟩
  .have e1:qD.cells.lookup y=some c:=e1;have e2:qD.cells.lookup z=some c:=e2;rw[Xr]at e1 e2;refine lP (λp hp=>?_) (λy z c a b=>I.ok.inj y z c (cm a).1 (cm b).1) (N3 e1) (N3 e2);rw[X4];exact HD (cm (y:=p.1) (c:=p.2) hp).2
  .show ∃c,qD.cells.lookup y=some c;have iV:∀k,qD.kindOf y=some k->(k=.cell\/k=.free)->∃c,qD.cells.lookup y=some c:=λk hk jZ=>by
    unfold Env.kindOf at hk;rw[hsc]at hk;obtain⟨k',e,r⟩:=aL hk;have:k'=.cell\/k'=.free:=by
     rcases r with rfl|⟨rfl,_⟩
     .exact jZ
     .exact .inr rfl
    rcases this with rfl|rfl
    .obtain⟨c,hm⟩:=kP (n:=(s.heap.push {cls:=.type "dict",data:=.dict #[]}).objs.size) (acc:=k8 X.env.cells scope.names []) (N3 e);obtain⟨c',e'⟩:=KM hm;exact⟨c',by rw[Xr];exact e'⟩
    .obtain⟨c,h1,_⟩:=look e;exact⟨c,h1⟩
   rcases hy with hy|hy
   .exact iV _ hy (.inl rfl)
   .exact iV _ hy (.inr rfl)
  .have z:(scope.names.lookup y==some NameKind.cell)=true:=z;have z:scope.names.lookup y=some .cell:=by simpa using z
   have e:qD.cells.lookup y=some c:=e;rw[Xr]at e;rcases qI (N3 e)with hm|⟨_,h2,_⟩
   .rcases jH hm with hm|⟨h1,_⟩
    .cases hm
    .have q:=ok.uniq _ h1;rw[z]at q;cases q
   .rw[X4]at h2;exact GD h2
  .show b≠qD.locals;rw[hL];exact j3 (hfp b hb).2
  .have e:qD.cells.lookup y=some c:=e;rcases mem e with⟨h1,_⟩|⟨h1,_⟩
   .exact(hfp b hb).1.2.2.2.2.1 y c h1 z
   .have h2:s.heap.objs.size+1<=b:=by rw[<-z];exact h1
    exact absurd (O2 (hfp b hb).2 (GD h2)) (B5 _)
  .rcases(hfp b hb).1.2.2.2.1 with z|z
   .exact I.ok.noex b o e z
   .exact absurd (O2 (F2 e) (d4 I.ok.bsz z)) (B5 _)
  .rcases S1.mp (I.stkSub b z)with z|z
   .exact(hfp b hb).1.2.1 z
   .exact(hfp b hb).1.2.2.1 z
 refine⟨okB,rfl,I.bare,Un.kept kp,⟨λ_=>none,?_,λi y av e1 e2 e3=>?_⟩,λy c e=>?_,?_,λy c e=>?_,λp hp=>?_,I.hok.kept kp,by rw[bL];exact I.len⟩
 .show Heap.Ns _ qD.locals _;rw[hL];exact Heap.Ns.keeps (Heap.Ns.new ..) λb o e=>kF _ _ _ _ e
 .obtain⟨e2,JK⟩:=mP e2;have Mf:scope.names.lookup y=some .free/\(qD.kindOf y=some .cell\/qD.kindOf y=some .free):=by
   have iV:∀k,qD.scope.names.lookup y=some k->k=.local\/k=.cell\/k=.free->scope.names.lookup y=some .free/\(qD.kindOf y=some .cell\/qD.kindOf y=some .free):=λk hk jZ=>by
    have hk0:=hk;rw[hsc]at hk;obtain⟨k',e,r⟩:=aL hk;have no:¬(k'=.local\/k'=.cell):=λhh=>by
     rcases ok.own _ (N3 e) hh with e'|e'
     .obtain⟨p,hp,hpy⟩:=S2.mp e';have e3:=ok.ix p hp;have:p.1=y:=hpy;rw[this]at e3;exact JK (S2.mpr ⟨p,hp,sN hN e3 e1⟩)
     .exact e' (N1 e1)
    rcases r with rfl|⟨rfl,rfl⟩
    .rcases jZ with rfl|rfl|rfl
     .exact absurd (.inl rfl) no
     .exact absurd (.inr rfl) no
     .exact⟨e,.inr hk0⟩
    .exact⟨e,.inl hk0⟩
   have e3:Vis qD.scope y:=e3;rcases e3 with e3|e3|e3
   .exact iV _ e3 (.inl rfl)
   .exact iV _ e3 (.inr (.inl rfl))
   .exact iV _ e3 (.inr (.inr rfl))
  obtain⟨m,hn,hl⟩:=I.loc;have zhP:Vis X.env.scope y:=(ok.free _ (N3 Mf.1) rfl).elim (λk=>.inr (.inl k)) (λk=>.inr (.inr k));obtain⟨w,r,q⟩:=hl i y av e1 e2 zhP;refine⟨w,r,.inr ⟨Mf.2,?_⟩⟩;obtain⟨c,h1,h2⟩:=look Mf.1;rcases q with⟨k,_⟩|⟨_,c',e',z⟩
  .have k:X.env.scope.names.lookup y=some .local:=k;rcases ok.free _ (N3 Mf.1) rfl with k'|k'<;>rw[show X.env.scope.names.lookup y=_ from k']at k<;>cases k
  .rw[h2]at e';cases e';exact⟨c,h1,z.keeps kp⟩
 .have e:qD.cells.lookup y=some c:=e;rcases mem e with⟨h1,_⟩|⟨_,z⟩
  .obtain⟨w,z⟩:=I.cell y c h1;exact⟨w,z.keeps kp⟩
  .exact⟨_,z⟩
 .show H qD.locals=none;rw[hL];exact I.hok.fresh (j1 _)
 .have e:qD.cells.lookup y=some c:=e;rcases mem e with⟨h1,_⟩|⟨h1,_⟩
  .exact I.freeC y c h1
  .exact I.hok.fresh (GD h1)
 .exact absurd (show p∈([]:List (Addr×Obj))++[]from hp) (by simp)
theorem zcq{y:V}{v:Value}{Q:Value->Shared->Prop}(I:V2 X pins σ H s) (hD:H D=some (.lst xs)) (hz:xs.length<sizeLine) (r:R4 y v)
 (h:∀s',V2 X pins σ (upd H D (.lst (xs++[y]))) s'->Q .none s'):wpAny (model X.prog X.w) X.A (call (.builtin "list.append") [.ref D,v]) Q E s:=by
  obtain⟨hz',its,n,ri,e⟩:=I.hok D _ hD;have hl:=ri.length;refine append_at (hsz:=by rw[J1];lia) e λh' sb En=>?_;refine h {s with heap:=h'} (I.write (t':=s.toks) (by rw[hD];trivial) (.inl rfl) (λb u hb q=>(sb.2 b hb).trans q) ⟨_,En⟩ ⟨by rw[Y1];exact hz,its++[v],n+1,ri.append (.cons r .nil),?_⟩);grind
def PTs(X:Cx)(Af:List Expr)(t:TT):Prop:=
 ∀(pins:List (Addr×Obj))(s:Shared)(σ:St)(H:Hp)(Q:Bool->Hp->Prop),V2 X pins σ H s->t σ H Q->
  wpAny (model X.prog X.w) X.A (forIn Af true λc r=>if r=true then do let ok <-isTrue c X.env (eval c X.env);pure (ForInStep.yield ok)else pure (ForInStep.yield r)) (TP X pins σ Q) X.xe s
def Hg:TT:=λ_ H Q=>Q true H
theorem cA:PTs X [] Hg:=λ_ _ _ H _ I h=>wpAny_tests_nil ⟨H,I,h⟩
theorem TX{c:Expr}{t:TT}(h:PT X c t):PTs X [c] t:=λpins s σ H Q I hw=>wpAny_tests_one (h pins s σ H Q I hw)
end
theorem zcr{t:Sem α}{Q Q':α->Shared->Prop}(h:wpAny M A t Q (λ_ _=>False) s) (hQ:∀a s,Q a s->Q' a s):wpAny M A t Q' E s:=L5 h hQ λ_ _ z=>False.elim z
theorem UX{prog:Program}{w:World}{R:Result->Shared->Prop}{Lj pQ DF:Expr}{Af:List Expr}{pos:Pos}{it acc:Value}(I:Nat->Shared->Prop)
 (turn:∀n s,I n s->wpAny (model prog w) A (pyNext it) (λr s₁=>match r with
 |none=>R (.ok .next) s₁
 |some v=>wpAny (model prog w) A (letOwnedTupleGo pQ it v) (λ_ s₁'=>wpAny (model prog w) A (assign pQ env v) (λ_ s₂=>
 wpAny (model prog w) A (forIn Af true λc r=>if r=true then do let ok <-isTrue c env (eval c env);pure (ForInStep.yield ok)else pure (ForInStep.yield r)) (λok s₃=>
 if ok=true then wpAny (model prog w) A (eval Lj env) (λx s₄=>
 wpAny (model prog w) A (call (.builtin "list.append") [acc,x]) (λ_ s₅=>∃m,m<n/\I m s₅) (notedBy (model prog w) A env λe s'=>R (.error e) s') s₄) (notedBy (model prog w) A env λe s'=>R (.error e) s') s₃
 else ∃m,m<n/\I m s₃) (notedBy (model prog w) A env λe s'=>R (.error e) s') s₂) (notedBy (model prog w) A env λe s'=>R (.error e) s') s₁') (notedBy (model prog w) A env λe s'=>R (.error e) s') s₁) (notedBy (model prog w) A env λe s'=>R (.error e) s') s)
 (n:Nat) (h:I n s) :
   codeAny (model prog w) A (.compLoop (.ListComp Lj [⟨pQ,DF,Af,0⟩] scope pos) 0 it acc env) R s:=by
  refine codeAny_loop rfl I (λn s hI=>?_) n h;show wpAny _ A ((compTurn (.ListComp Lj [⟨pQ,DF,Af,0⟩] scope pos) 0 it acc env).onRaise (λx=>do noteFrame x env;theTreesLotGoes x)) _ _ s;refine wpAny_noted ?_;rw[compTurn_list];refine z0 (lA (z0 (L5 (turn n s hI) (λr s₁ h₁=>?_) λ_ _ h'=>h')));cases r with
  |none=>exact S0 h₁
  |some v=>
   refine z0 (L5 h₁ (λ_ s₁' h₁'=>?_) λ_ _ h'=>h');refine z0 (L5 h₁' (λ_ s₂ h₂=>z0 (L5 h₂ (λok s₃ h₃=>?_) λ_ _ h'=>h')) λ_ _ h'=>h');cases ok with
   |false=>exact S0 ⟨rfl,h₃⟩
   |true=>
    exact z0 (z0 (L5 h₃ (λx s₄ h₄=>z0 (L5 h₄ (λ_ s₅ h₅=>S0 (S0 ⟨rfl,h₅⟩)) λ_ _ h'=>h')) λ_ _ h'=>h'))
def tLc(wi:TI)(g:TG)(tt:TT)(te:TE)(vs:List Nat):TE:=λσ H Q=>wi σ H λJ H1=>∀D,H1 D=none->∃W:Nat->Nat->Hp->Prop,(∃m,W 0 m (upd H1 D (.lst [])))/\∀i m H,W i m H->
 (J.stop i H/\Q (.ref D) H)\/(J.go i H/\∃Nx:Hp->Prop,(∀H',Nx H'->∃m',m'<m/\W (i+1) m' H')/\∀x H',J.yld i H x H'->g x (T8 σ vs) H' λσ2 H2=>T8 σ2 vs=T8 σ vs/\tt σ2 H2 λb H3=>
   if b=true then te σ2 H3 λy H4=>∃acc,H4 D=some (.lst acc)/\acc.length<sizeLine/\Nx (upd H4 D (.lst (acc++[y])))else Nx H3)
theorem IS{lo:Int}{n:Nat}(Pv:Nat->Hp->Prop) (h0:Pv 0 (upd H1 D (.lst [])))
 (hs:∀i H,i<n->Pv i H->g (.int (lo+i)) (T8 σ vs) H λσ2 H2=>T8 σ2 vs=T8 σ vs/\tt σ2 H2 λb H3=>
 if b=true then te σ2 H3 λy H4=>∃acc,H4 D=some (.lst acc)/\acc.length<sizeLine/\Pv (i+1) (upd H4 D (.lst (acc++[y])))else Pv (i+1) H3) (hd:∀H,Pv n H->Qd H) :
   ∃W:Nat->Nat->Hp->Prop,(∃m,W 0 m (upd H1 D (.lst [])))/\∀i m H,W i m H->
    ((By lo n).stop i H/\Qd H)\/((By lo n).go i H/\∃Nx:Hp->Prop,(∀H',Nx H'->∃m',m'<m/\W (i+1) m' H')/\∀x H',(By lo n).yld i H x H'->g x (T8 σ vs) H' λσ2 H2=>T8 σ2 vs=T8 σ vs/\tt σ2 H2 λb H3=>
      if b=true then te σ2 H3 λy H4=>∃acc,H4 D=some (.lst acc)/\acc.length<sizeLine/\Nx (upd H4 D (.lst (acc++[y])))else Nx H3):=by
  refine⟨λi m H=>m=n-i/\i<=n/\Pv i H,⟨n,by simp,E1 _,h0⟩,?_⟩;rintro i m H ⟨rfl,hi,p⟩;by_cases UC:i<n
  .refine .inr ⟨UC,Pv (i+1),λH' p'=>⟨n-(i+1),by lia,rfl,UC,p'⟩,λx H' y=>?_⟩;obtain⟨e,y⟩:=y;subst e y;exact hs i _ UC p
  .have e:i=n:=by lia
   subst e;exact .inl ⟨j1 _,hd H p⟩
theorem RF(Pv:Nat->Hp->Prop)(h0:Pv 0 (upd H1 D (.lst [])))(hl:∀i H,i<=xs.length->Pv i H->SqL K H a xs)
 (hs:∀i x H,xs[i]?=some x->Pv i H->g x (T8 σ vs) H λσ2 H2=>T8 σ2 vs=T8 σ vs/\tt σ2 H2 λb H3=>
 if b=true then te σ2 H3 λy H4=>∃acc,H4 D=some (.lst acc)/\acc.length<sizeLine/\Pv (i+1) (upd H4 D (.lst (acc++[y])))else Pv (i+1) H3) (hd:∀H,Pv xs.length H->Qd H) :
   ∃W:Nat->Nat->Hp->Prop,(∃m,W 0 m (upd H1 D (.lst [])))/\∀i m H,W i m H->
    ((Is K a).stop i H/\Qd H)\/((Is K a).go i H/\∃Nx:Hp->Prop,(∀H',Nx H'->∃m',m'<m/\W (i+1) m' H')/\∀x H',(Is K a).yld i H x H'->g x (T8 σ vs) H' λσ2 H2=>T8 σ2 vs=T8 σ vs/\tt σ2 H2 λb H3=>
      if b=true then te σ2 H3 λy H4=>∃acc,H4 D=some (.lst acc)/\acc.length<sizeLine/\Nx (upd H4 D (.lst (acc++[y])))else Nx H3):=by
  refine⟨λi m H=>m=xs.length-i/\i<=xs.length/\Pv i H,⟨xs.length,by simp,E1 _,h0⟩,?_⟩;rintro i m H ⟨rfl,hi,p⟩;have q:=hl i H hi p;by_cases UC:i<xs.length
  .refine .inr ⟨⟨xs,xs[i],q,by simp[UC]⟩,Pv (i+1),λH' p'=>⟨xs.length-(i+1),by lia,rfl,UC,p'⟩,λx H' y=>?_⟩;obtain⟨e,y⟩:=y;subst e;exact hs i x _ (y xs q) p
  .have e:i=xs.length:=by lia
   subst e;exact .inl ⟨⟨xs,q,j1 _⟩,hd H p⟩
theorem VX(Pv:Nat->Hp->Prop)(h0:Pv 0 (upd H1 D (.lst [])))(hl:∀i H,i<=xs.length->Pv i H->S9 K H a xs)
 (hs:∀i x H,xs[i]?=some x->Pv i H->g x (T8 σ vs) H λσ2 H2=>T8 σ2 vs=T8 σ vs/\tt σ2 H2 λb H3=>
 if b=true then te σ2 H3 λy H4=>∃acc,H4 D=some (.lst acc)/\acc.length<sizeLine/\Pv (i+1) (upd H4 D (.lst (acc++[y])))else Pv (i+1) H3) (hd:∀H,Pv xs.length H->Qd H) :
   ∃W:Nat->Nat->Hp->Prop,(∃m,W 0 m (upd H1 D (.lst [])))/\∀i m H,W i m H->
    ((Itt K a).stop i H/\Qd H)\/((Itt K a).go i H/\∃Nx:Hp->Prop,(∀H',Nx H'->∃m',m'<m/\W (i+1) m' H')/\∀x H',(Itt K a).yld i H x H'->g x (T8 σ vs) H' λσ2 H2=>T8 σ2 vs=T8 σ vs/\tt σ2 H2 λb H3=>
      if b=true then te σ2 H3 λy H4=>∃acc,H4 D=some (.lst acc)/\acc.length<sizeLine/\Nx (upd H4 D (.lst (acc++[y])))else Nx H3):=by
  refine⟨λi m H=>m=xs.length-i/\i<=xs.length/\Pv i H,⟨xs.length,by simp,E1 _,h0⟩,?_⟩;rintro i m H ⟨rfl,hi,p⟩;have q:=hl i H hi p;by_cases UC:i<xs.length
  .refine .inr ⟨⟨xs,xs[i],q,by simp[UC]⟩,Pv (i+1),λH' p'=>⟨xs.length-(i+1),by lia,rfl,UC,p'⟩,λx H' y=>?_⟩;obtain⟨e,y⟩:=y;subst e;grind
  .have e:i=xs.length:=by lia
   subst e;exact .inl ⟨⟨xs,q,j1 _⟩,hd H p⟩
end L2
namespace L2
open PySem PySem.Spec PyProof.Rows
section
variable {prog:Program}{w:World}{A:Around}{R:Result->Shared->Prop}{s:Shared}{Lj t0 i0 t1 i1:Expr}{zlq zlr:List Expr}{scope:Scope}{pos:Pos}{it acc:Value}{env:Env}
end
section
variable {X:Cx}
end
end L2
namespace L2
open PySem PySem.Spec PyProof.Rows
variable {a:Addr}{A:Around}{X:Cx}{zD e:Expr}{h':Heap}{H H':Hp}{pins:List (Addr×Obj)}{xs:List (List MC×Addr×Value)}{kvs:List (List MC×V)}{o:Option V}{pos:Pos}{P:Program}{s:Shared}{σ:St}{td ty:TE}{d y v:V}{u r:Value}{E Q:Value->Shared->Prop}{w:World}
section
variable {κ:Type}[DecidableEq κ]
def Y8(kvs:List (κ×V))(k:κ):Option V:=(kvs.find? λkv=>decide (kv.1=k)).map (·.2)
def aF(kvs:List (κ×V))(k:κ)(v:V):List (κ×V):=
 if (kvs.any λkv=>decide (kv.1=k))=true then kvs.map (λkv=>if kv.1=k then(kv.1,v)else kv)else kvs++[(k,v)]
theorem GA{p:κ×V}{r:List (κ×V)}{k:κ}(e:p.1=k):Y8 (p::r) k=some p.2:=by simp[Y8,W9,e]
theorem HA{p:κ×V}{r:List (κ×V)}{k:κ}(e:¬p.1=k):Y8 (p::r) k=Y8 r k:=by simp[Y8,W9,e]
theorem bF(k:κ):∀kvs:List (κ×V),(kvs.any λkv=>decide (kv.1=k))=(Y8 kvs k).isSome
 |[]=>rfl
 |p::r=>by
  rw[P8];by_cases e:p.1=k
  .simp only[GA e,F1 e,Bool.true_or,Option.isSome_some]
  .rw[HA e,Y0 e,BH];exact bF k r
theorem KZ(k j:κ)(y:V):∀kvs:List (κ×V),Y8 (kvs.map λkv=>if kv.1=k then(kv.1,y)else kv) j=(Y8 kvs j).map λx=>if j=k then y else x
 |[]=>rfl
 |p::r=>by
  have ih:=KZ k j y r;rw[C3];by_cases h:p.1=k
  .rw[K0 h];by_cases e:p.1=j
   .rw[GA (p:=(p.1,y)) e,GA e,QC,K0 (e.symm.trans h)]
   .rw[HA (p:=(p.1,y)) e,HA e,ih]
  .rw[D0 h];by_cases e:p.1=j
   .rw[GA (p:=p) e,GA e,QC,D0 (λz=>h (e.trans z))]
   .rw[HA (p:=p) e,HA e,ih]
theorem qW(k j:κ)(y:V):∀kvs:List (κ×V),Y8 kvs k=none->Y8 (kvs++[(k,y)]) j=if j=k then some y else Y8 kvs j
 |[],_=>by
  by_cases e:k=j
  .rw[K0 e.symm];exact GA (p:=(k,y)) e
  .rw[D0 (λz=>e z.symm)];exact HA (p:=(k,y)) e
 |p::r,hn=>by
  rw[List.cons_append];have hk:¬p.1=k:=λz=>by grind [GA]
  rw[HA hk]at hn;have ih:=qW k j y r hn;by_cases e:p.1=j
  .rw[GA e,GA e,D0 (λz=>hk (e.trans z))]
  .rw[HA e,HA e,ih]
theorem LZ(kvs:List (κ×V))(k j:κ)(y:V):Y8 (aF kvs k y) j=if j=k then some y else Y8 kvs j:=by
 unfold aF;by_cases a:(kvs.any λkv=>decide (kv.1=k))=true
 .rw[K0 a,KZ];rw[bF]at a;by_cases e:j=k
  .obtain⟨x,hx⟩:=zH.mp a;grind
  all_goals simp_all
 .rw[D0 a];refine qW k j y kvs ?_;rw[bF]at a
  simp_all
theorem sD(kvs:List (κ×V))(k:κ)(v:V):(aF kvs k v).length<=kvs.length+1:=by
 unfold aF;split
 .rw[B0];lia
 .rw[Y1,M1,F6];lia
theorem JS{kvs:List (κ×V)}{k:κ}(v:V) (h:Y8 kvs k=none):aF kvs k v=kvs++[(k,v)]:=by
 grind [aF,bF]
theorem eG.isSome_eq{u:Option Value}(r:eG o u):o.isSome=u.isSome:=by
 cases o with
 |none=>cases u with
  |none=>rfl
  |some _=>exact(show False from r).elim
 |some _=>cases u with
  |none=>exact(show False from r).elim
  |some _=>rfl
theorem eG.getD{u:Option Value}{d':Value}(r:eG o u) (rd:R4 d d'):R4 (o.getD d) (u.getD d'):=by
 cases o with
 |none=>cases u with
  |none=>exact rd
  |some _=>exact(show False from r).elim
 |some _=>cases u with
  |none=>exact(show False from r).elim
  |some _=>exact r
theorem KV.val{kvs:List (κ×V)}{vs:List (κ×Value)}(r:KV kvs vs) (k:κ):eG (Y8 kvs k) (valueAt vs k):=by
 unfold KV at r
 induction r with
 |nil=>exact c9
 |@cons p q ps qs h t ih=>
  obtain⟨h1,h2⟩:=h;by_cases e:p.1=k
  .have e':q.1=k:=h1.symm.trans e;have b:valueAt (q::qs) k=some q.2:=by simp[valueAt,W9,e']
   rw[GA e,b];exact h2
  .have e':¬q.1=k:=λz=>e (h1.trans z);have b:valueAt (q::qs) k=valueAt qs k:=by simp[valueAt,W9,e']
   rw[HA e,b];exact ih
theorem KV.any{kvs:List (κ×V)}{vs:List (κ×Value)}(r:KV kvs vs) (k:κ):(kvs.any λkv=>decide (kv.1=k))=vs.any λkv=>decide (kv.1=k):=by
 unfold KV at r
 induction r with
 |nil=>rfl
 |cons h t ih=>rw[P8,P8,ih,h.1]
theorem KV.repl{kvs:List (κ×V)}{vs:List (κ×Value)}(r:KV kvs vs) (k:κ) (ry:R4 y u) :
  KV (kvs.map λkv=>if kv.1=k then(kv.1,y)else kv) (vs.map λkv=>if kv.1=k then(kv.1,u)else kv):=by
 unfold KV at r ⊢
 induction r with
 |nil=>exact .nil
 |@cons p q ps qs h t ih=>
  rw[C3,C3];refine .cons ?_ ih;obtain⟨h1,h2⟩:=h;by_cases e:p.1=k
  all_goals grind
theorem KV.put{kvs:List (κ×V)}{vs:List (κ×Value)}(r:KV kvs vs) (k:κ) (ry:R4 y u):KV (aF kvs k y) (stored vs k u):=by
 unfold aF stored;rw[r.any k];by_cases e:(vs.any λkv=>decide (kv.1=k))=true
 .rw[K0 e,K0 e];exact r.repl k ry
 .rw[D0 e,D0 e];exact K4 r ⟨rfl,ry⟩
theorem KV.length{kvs:List (κ×V)}{vs:List (κ×Value)}(r:KV kvs vs):kvs.length=vs.length:=K1 r
end
theorem rW{k:MC}(r:R4 (kV k) u):(O9 P w).is k u=true:=by
 cases k with
 |inl i=>obtain⟨t,e⟩:=(show ∃t,u=Value.int i t from r);subst e;exact sZ P w i t
 |inr x=>obtain⟨t,e⟩:=(show ∃t,u=Value.str x t from r);subst e;exact tZ P w x t
theorem nP{P:Program}{w:World}:∀{ks:List MC}{us:List Value},k4 (ks.map kV) us->ItemsAre (O9 P w) ks us
 |[],_,r=>by rw[fC]at r;cases r;exact .nil
 |k::ks,_,r=>by
  rw[C3]at r;cases r with
  |cons h t=>exact .cons (rW h) (nP t)
abbrev KT(H:Hp):List (List MC×V)->List (List MC×Addr×Value)->Prop:=Paired λp q=>p.1=q.1/\H q.2.1=some (.tup (p.1.map kV))/\R4 p.2 q.2.2
theorem KT.val(r:KT H kvs xs)(k:List MC):eG (Y8 kvs k) ((atKey xs k).map (·.2)):=by
 induction r with
 |nil=>exact c9
 |@cons p q ps qs h t ih=>
  obtain⟨h1,_,h2⟩:=h;by_cases e:p.1=k
  .have e':q.1=k:=h1.symm.trans e;have b:atKey (q::qs) k=some q.2:=by simp[atKey,W9,e']
   rw[GA e,b];exact h2
  .have e':¬q.1=k:=λz=>e (h1.trans z);have b:atKey (q::qs) k=atKey qs k:=by simp[atKey,W9,e']
   rw[HA e,b];exact ih
theorem KT.repl(r:KT H kvs xs)(k:List MC)(ry:R4 y u) :
  KT H (kvs.map λkv=>if kv.1=k then(kv.1,y)else kv) (xs.map (putAt k u)):=by
 induction r with
 |nil=>exact .nil
 |@cons p q ps qs h t ih=>
  rw[C3,C3];refine .cons ?_ ih;obtain⟨h1,h2,h3⟩:=h;unfold putAt;by_cases e:p.1=k
  .rw[K0 e,K0 (h1.symm.trans e)];exact⟨h1,h2,ry⟩
  .rw[D0 e,D0 (λz=>e (h1.trans z))];exact⟨h1,h2,h3⟩
theorem KT.put(r:KT H kvs xs)(k:List MC){b:Addr}(hb:H b=some (.tup (k.map kV))) (ry:R4 y u) :
  KT H (aF kvs k y) (storedH xs k b u):=by
 have e:(kvs.any λkv=>decide (kv.1=k))=(atKey xs k).isSome:=by
  rw[bF,(r.val k).isSome_eq,Option.isSome_map]
 unfold aF storedH;rw[e];by_cases q:(atKey xs k).isSome=true
 .rw[K0 q,K0 q];exact r.repl k ry
 .rw[D0 q,D0 q];exact K4 r ⟨rfl,hb,ry⟩
theorem KT.keeps(r:KT H kvs xs)(ht:∀b ys,H b=some (.tup ys)->H' b=some (.tup ys)):KT H' kvs xs:=
 Paired.mapP r λ_ _ z=>⟨z.1,ht _ _ z.2.1,z.2.2⟩
section
variable {h:Heap}
theorem zbd{u:HO}(ok:ZJ P w H h) (e:Rd H a u):k9 P w H h a u:=e.ok ok
theorem sW{kvs:List (MC×V)}(ok:ZJ P w H h) (e:Rd H a (.dK kvs)):kvs.length<=sizeLine/\(a==sysModules)=false/\∃vs,KV kvs vs/\h.DictOf (O9 P w) a vs:=
 show k9 P w H h a (.dK kvs)from zbd ok e
theorem zbe{kvs:List (MC×V)}(ok:ZJ P w H h) (e:H a=some (.dK kvs)):kvs.length<=sizeLine/\(a==sysModules)=false/\∃vs,KV kvs vs/\h.DictOf (O9 P w) a vs:=sW ok (.inl e)
theorem KS{ks:List MC}(ok:ZJ P w H h) (e:H a=some (.tup (ks.map kV))):(tupleKind (O9 P w)).is h ks a:=by
 obtain⟨_,its,r,o,h1,h2,n,h3⟩:=(show k9 P w H h a (.tup (ks.map kV))from ok a _ e)
 exact⟨o,its.toArray,n,h1,h2,h3,by simpa using nP r⟩
theorem tW(ok:ZJ P w H h)(e:Rd H a (.dT kvs)):kvs.length<=sizeLine/\(a==sysModules)=false/\
  ∃xs,KT H kvs xs/\h.DictOfH (tupleKind (O9 P w)) a xs:=by
 obtain⟨z,y,xs,r,o,es,ep,h1,h2,h3,h4,h5⟩:=(show k9 P w H h a (.dT kvs)from zbd ok e)
 refine⟨z,y,xs,r,o,es,ep,h1,h2,h3,h4,λx hx=>?_,h5⟩;have all:∀{l:List (List MC×V)}{m:List (List MC×Addr×Value)},KT H l m->∀x∈m,(tupleKind (O9 P w)).is h x.1 x.2.1:=by
  intro l m q
  induction q with
  |nil=>grind
  |@cons p q ps qs hq t ih=>
   intro x hx;rcases S1.mp hx with e|hx
   .subst e;exact KS ok (by rw[<-hq.1];exact hq.2.1)
   .exact ih x hx
 exact all r x hx
theorem zeJ(ok:ZJ P w H h)(e:H a=some (.dT kvs)):kvs.length<=sizeLine/\(a==sysModules)=false/\
  ∃xs,KT H kvs xs/\h.DictOfH (tupleKind (O9 P w)) a xs:=tW ok (.inl e)
end
def rK(H:Hp)(a:Addr)(y:V)(r:Option V):Prop:=
 (∃kvs k,Rd H a (.dK kvs)/\y=kV k/\r=Y8 kvs k)\/∃kvs k b,Rd H a (.dT kvs)/\y=.ref b/\H b=some (.tup (k.map kV))/\r=Y8 kvs k
def Ig(H:Hp)(a:Addr)(y v:V)(H':Hp):Prop:=
 (∃kvs k,H a=some (.dK kvs)/\y=kV k/\kvs.length<sizeLine/\H'=upd H a (.dK (aF kvs k v)))\/
 ∃kvs k b,H a=some (.dT kvs)/\y=.ref b/\H b=some (.tup (k.map kV))/\kvs.length<sizeLine/\H'=upd H a (.dT (aF kvs k v))
theorem rK.k{H:Hp}{a:Addr}{kvs:List (MC×V)}{k:MC}(e:H a=some (.dK kvs)):rK H a (kV k) (Y8 kvs k):=.inl ⟨kvs,k,.inl e,rfl,rfl⟩
theorem Ig.k{H:Hp}{a:Addr}{kvs:List (MC×V)}{k:MC}{v:V}(e:H a=some (.dK kvs)) (hl:kvs.length<sizeLine):Ig H a (kV k) v (upd H a (.dK (aF kvs k v))):=.inl ⟨kvs,k,e,rfl,hl,rfl⟩
theorem V2.big(I:V2 X pins σ H s):sysModules<s.heap.objs.size:=by
 have h:mainGlobals<s.heap.objs.size:=(I.mod.glob.keeps I.bk).lt;exact ID (by decide) h
theorem Go(hu:A.units+1<cLine)(I:V2 X pins σ H s)(g:rK H a y (some v))(ry:R4 y u)(h:∀w' s',V2 X pins σ H s'->R4 v w'->Q w' s') :
  wpAny (model X.prog X.w) A (getItem (.ref a) u) Q E s:=by
 rcases g with⟨kvs,k,e,ey,l⟩|⟨kvs,k,b,e,ey,eb,l⟩
 .subst ey;obtain⟨z,hd,vs,bS,dd⟩:=sW I.hok e;obtain⟨w',hw,GX⟩:=eG.some_of (v:=v) (o:=valueAt vs k) (by rw[l];exact bS.val k);exact wpAny_getItem_of (rW ry) dd.mapOf hw (h w' _ (I.tok _) GX)
 .subst ey;cases (show u=Value.ref b from ry);obtain⟨z,hd,xs,bS,dd⟩:=tW I.hok e;obtain⟨w',hw,GX⟩:=eG.some_of (v:=v) (o:=(atKey xs k).map (·.2)) (by rw[l];exact bS.val k);obtain⟨p,hp,hp2⟩:=rJ.mp hw;refine wpAny_getItem_heap (YC hu) (KS I.hok eb) dd hp ?_;rw[hp2];exact h w' _ (I.tok _) GX
theorem Fz(hu:A.units+1<cLine)(I:V2 X pins σ H s)(g:rK H a y o)(ry:R4 y u)(h:∀s',V2 X pins σ H s'->Q (.bool (!o.isSome)) s') :
  wpAny (model X.prog X.w) A (compareOp .NotIn u (.ref a)) Q E s:=by
 rcases g with⟨kvs,k,e,ey,l⟩|⟨kvs,k,b,e,ey,eb,l⟩
 .subst ey;obtain⟨z,hd,vs,bS,dd⟩:=sW I.hok e;refine wpAny_notIn_of (rW ry) hd dd.mapOf ?_;rw[<-(bS.val k).isSome_eq,<-l];exact h _ (I.tok _)
 .subst ey;cases (show u=Value.ref b from ry);obtain⟨z,hd,xs,bS,dd⟩:=tW I.hok e;refine wpAny_notIn_heap (YC hu) (KS I.hok eb) hd dd ?_;have q:=(bS.val k).isSome_eq;rw[Option.isSome_map]at q;rw[<-q,<-l];exact h _ (I.tok _)
theorem XX{t':Nat}{ob:HO}(I:V2 X pins σ H s) (mu:Of (H a)) (hs:Heap.SameBut a s.heap h') (he:∃q,h'.get? a=some q) (new:k9 X.prog X.w (upd H a ob) h' a ob) :
  V2 X pins σ (upd H a ob) {s with heap:=h',toks:=t'}:=
 I.write (x:=a) (e:=a) mu (.inl rfl) (λb q hb z=>(hs.2 b hb).trans z) he new
theorem Dt{kvs:List (MC×V)}{vs:List (MC×Value)}(z:kvs.length<=sizeLine) (hd:(a==sysModules)=false) (bS:KV kvs vs) (dd:h'.DictOf (O9 P w) a vs) :
  k9 P w H' h' a (.dK kvs):=⟨z,hd,vs,bS,dd⟩
theorem Ho{Q:Unit->Shared->Prop}(hu:A.units+1<cLine) (I:V2 X pins σ H s) (g:Ig H a y v H') (ry:R4 y u) (rv:R4 v r) (h:∀s',V2 X pins σ H' s'->Q () s') :
  wpAny (model X.prog X.w) A (setItem (.ref a) u r) Q E s:=by
 rcases g with⟨kvs,k,e,ey,l,eH⟩|⟨kvs,k,b,e,ey,eb,l,eH⟩
 .subst ey eH;obtain⟨z,hd,vs,bS,dd⟩:=zbe I.hok e;have hz:vs.length<=sizeLine:=by rw[<-bS.length];exact z
  have hl:(aF kvs k v).length<=sizeLine:=by have:=sD kvs k v;lia
  refine wpAny_setItem_pairs (hsz:=hz) (rW ry) dd λh' dd' hs=>h _ ?_;have he:∃q,h'.get? a=some q:=let ⟨q,_,_,hq,_⟩:=dd';⟨q,hq⟩
  exact XX I (by rw[e];exact c9) hs he (Dt hl hd (bS.put k rv) dd')
 .subst ey eH;cases (show u=Value.ref b from ry);obtain⟨z,hd,xs,bS,dd⟩:=zeJ I.hok e;have hz:xs.length<=sizeLine:=by rw[<-K1 bS];exact z
  have hl:(aF kvs k v).length<=sizeLine:=by have:=sD kvs k v;lia
  refine wpAny_setItem_heap (hsz:=hz) (YC hu) (KS I.hok eb) dd λh' dd' hs=>h _ ?_;obtain⟨q,es,ep,hq,h2,h3,h4,_,h5⟩:=dd';refine XX I (by rw[e];exact c9) hs ⟨q,hq⟩ ⟨hl,hd,_,(bS.put k eb rv).keeps λc ys ec=>?_,q,es,ep,hq,h2,h3,h4,h5⟩;rw[M0 (XE ec e (λz=>nomatch z))];exact ec
section
variable {kvs:List (MC×V)}{k:MC}
end
def zeK(i:Expr):Prop:=∀ov iv,subscripted i false ov iv=operate [ov,iv] (getItem ov iv)
theorem Gz{prog:Program}{env:Env}{bP:Expr}{T id:String}
 (hl:typeLookup (.type T) "__getitem__"= pure (some (.builtin id))) (hs:zeK bP)
 (h:wpAny (model prog w) A (eval zD env) (λo s₁=>wpAny (model prog w) A (eval bP env) (λi s₂=>s₂.TypeIs o T/\wpAny (model prog w) A (getItem o i) Q E s₂) E s₁) E s) :
   wpAny (model prog w) A (eval (.Subscript zD bP pos) env) Q E s:=by
  refine Subscript_ (L5 h (λo s₁ h₁=>L5 h₁ (λi s₂ h₂=>?_) λ_ _ x=>x) λ_ _ x=>x);obtain⟨hT,h₂⟩:=h₂;unfold subscriptTail;refine z0 ?_;rw[getitemInPython_of_ne hT.not_modules];refine z0 (wpAny_specialOf hT hl ?_);have fin:wpAny (model prog w) A (subscripted bP false o i) (λr s₃=>wpAny (model prog w) A (letTemporaryGo zD o r>>=λ_=>pure r) Q E s₃) E s₂:=by
   rw[hs o i];exact wpAny_operating (L5 h₂ (λr s₃ h₃=>z0 (wpAny_letTemporaryGo (S0 h₃))) λ_ _ x=>x)
  first
   |exact S0 (z0 fin)
   |exact z0 (S0 (z0 fin))
   |exact z0 fin
theorem MZ(I:V2 X pins σ H s)(g:rK H a y o):s.TypeIs (.ref a) "dict":= by
 rcases g with⟨kvs,k,e,_,_⟩|⟨kvs,k,b,e,_,_,_⟩
 .obtain⟨_,_,vs,_,dd⟩:=sW I.hok e;exact dd.typeIs
 .obtain⟨_,_,xs,_,dd⟩:=tW I.hok e;exact dd.typeIs
inductive Et(Q:VK)(x:V)(y:V)(H2:Hp):Prop
 |mk (a v:_):x=.ref a->rK H2 a y (some v)->Q v H2->Et Q x y H2
def zeL(td ty:TE):TE:=λσ H Q=>td σ H λx H1=>ty σ H1 (Et Q x)
inductive NZ(Q:VK)(y:V)(x:V)(H2:Hp):Prop
 |mk (a o:_):x=.ref a->rK H2 a y o->Q (.bl (!o.isSome)) H2->NZ Q y x H2
def Hz(ty td:TE):TE:=λσ H Q=>ty σ H λy H1=>td σ H1 (NZ Q y)
inductive Ft(D:MK)(σ:St)(v:V)(x:V)(y:V)(H3:Hp):Prop
 |mk (a H4:_):x=.ref a->Ig H3 a y v H4->D.nx σ H4->Ft D σ v x y H3
def zeM(td ty tv:TE):TS:=λD σ H=>tv σ H λv H1=>td σ H1 λx H2=>ty σ H2 (Ft D σ v x)
section
variable {o i:Expr}{HK aW:Pos}{tv:TE}
theorem iS(hu:X.A.units+1<cLine)(ho:PE X o td)(hi:PE X i ty)(hs:zeK i):PE X (.Subscript o i pos) (zeL td ty):=by
 intro pins s σ H Q I h;refine Gz PySem.F.slot_dict_getitem.lookup hs (i8 (ho pins s σ H _ I h) λu s1 ⟨x,H1,I1,rx,q1⟩=>i8 (hi pins s1 σ H1 _ I1 q1) λiv s2 ⟨y,H2,I2,ry,a,v,ex,g,q2⟩=>?_);subst ex;obtain rfl:u=Value.ref a:=rx;exact⟨MZ I2 g,Go hu I2 g ry λw' s3 I3 GX=>⟨v,H2,I3,GX,q2⟩⟩
theorem Io(hu:X.A.units+1<cLine)(hi:PE X i ty)(ho:PE X o td):PC X .NotIn i o (Hz ty td):=by
 intro pins s σ H Q I h;refine i8 (hi pins s σ H _ I h) λiv s1 ⟨y,H1,I1,ry,q1⟩=>i8 (ho pins s1 σ H1 _ I1 q1) λu s2 ⟨x,H2,I2,rx,a,ov,ex,g,q2⟩=>?_;subst ex;obtain rfl:u=Value.ref a:=rx;exact Fz hu I2 g ry λs3 I3=>⟨.bl (!ov.isSome),H2,I3,rfl,q2⟩
theorem Jk(hu:X.A.units+1<cLine)(ho:PE X o td)(hi:PE X i ty)(hv:PE X zD tv)(hs:swapsWith zD (some (.Subscript o i HK)) pos.line X.env=pure false) :
  PS X (.Assign [.Subscript o i HK] zD pos) (zeM td ty tv):=by
 intro pins s σ H D I h;refine wpAny_Assign_Subscript (i8 (hv pins s σ H _ I h) λr s1 ⟨v,H1,I1,rv,q1⟩=>i8 (ho pins s1 σ H1 _ I1 q1) λu s2 ⟨x,H2,I2,rx,q2⟩=>i8 (hi pins s2 σ H2 _ I2 q2) λiv s3 ⟨y,H3,I3,ry,a,H4,ex,g,q3⟩=>?_) hs;subst ex;obtain rfl:u=Value.ref a:=rx;exact Ho hu I3 g ry rv λs4 I4=>⟨σ,H4,I4,q3⟩
end
theorem Ht(h:Heap)(hb:sysModules<h.objs.size):k9 P w H (h.push {cls:=.type "dict",data:=.dict #[]}) h.objs.size (.dK []):=
 ⟨E1 _,X5.mpr (K2 (j3 hb)),[],.nil,Heap.DictOf.new h⟩
def zcs:TE:=λ_ H Q=>∀p,H p=none->Q (.ref p) (upd H p (.dK []))
theorem LS:PE X (.Dict [] [] pos) zcs:=λpins s σ H Q I h=>
 wpAny_Dict_empty ⟨.ref s.heap.objs.size,_,I.laid (a:=s.heap.objs.size) (o:=.dK []) (t':=s.toks) (λ_ _ q=>U0 _ q) (j1 _) (Ht s.heap I.big),rfl,h _ (I.hok.fresh (j1 _))⟩
structure M2(X:Cx)(o:Expr)(m:Str)(jE:Pos)(e f:Expr)(EF:Pos):Prop where
 base:attributeBase o m X.env (eval o X.env)=eval o X.env
 few:((backTo EF (starEach [e,f] X.env)).all (λx=>!x.1)&&(backToKw EF (keywordEach [] X.env)).all (λx=>x.1.isSome)
  && decide (([e,f]:List Expr).length+([]:List Keyword).length+(if ([]:List Keyword).isEmpty then 0 else 1)<30))=true
 line:(jE.endLine==EF.line)=true
 trees:backTo EF (starEach [e,f] X.env)=[(false,eval e X.env),(false,eval f X.env)]
def IsD(H:Hp)(a:Addr):Prop:=(∃kvs,Rd H a (.dK kvs))\/∃kvs,Rd H a (.dT kvs)
theorem Jt(I:V2 X pins σ H s)(d:IsD H a) :
  s.TypeIs (.ref a) "dict" /\ (∀b,Value.ref a=.ref b->∃ob,s.heap.get? b=some ob/\ob.dict=none)/\(a==sysModules)=false:=by
 rcases d with⟨kvs,e⟩|⟨kvs,e⟩
 .obtain⟨_,hd,vs,_,dd⟩:=sW I.hok e;refine⟨dd.typeIs,λb q=>?_,hd⟩;cases q;obtain⟨ob,_,_,h1,h2,_⟩:=dd;exact⟨ob,h1,h2.2.1⟩
 .obtain⟨_,hd,xs,_,dd⟩:=tW I.hok e;refine⟨dd.typeIs,λb q=>?_,hd⟩;cases q;obtain⟨ob,_,_,h1,h2,_⟩:=dd;exact⟨ob,h1,h2.2.1⟩
theorem zct(hu:A.units+1<cLine)(I:V2 X pins σ H s)(g:rK H a y o)(ry:R4 y u)(rd:R4 d r)(h:∀w' s',V2 X pins σ H s'->R4 (o.getD d) w'->Q w' s') :
  wpAny (model X.prog X.w) A (call (.builtin "dict.get") [.ref a,u,r]) Q E s:=by
 rcases g with⟨kvs,k,e,ey,l⟩|⟨kvs,k,b,e,ey,eb,l⟩
 .subst ey;obtain⟨z,hd,vs,bS,dd⟩:=sW I.hok e;refine GN nE dd.typeIs sJ (sI _ _ _) (meets_dict_get_default (O9 X.prog X.w) a (rW ry) hd r) ⟨_,dd.mapOf,h _ _ (I.tok _) ?_⟩;rw[l];exact(bS.val k).getD rd
 .subst ey;cases (show u=Value.ref b from ry);obtain⟨z,hd,xs,bS,dd⟩:=tW I.hok e;refine GN nE dd.typeIs sJ (sI _ _ _) (meetsH_dict_get_default (tupleKind (O9 X.prog X.w)) a b hd r) ⟨YC hu,k,xs,KS I.hok eb,dd,h _ _ (I.tok _) ?_⟩;rw[l];exact(bS.val k).getD rd
def zcu(td ty tx:TE):TE:=λσ H Q=>td σ H λx H1=>∃a,x=.ref a/\IsD H1 a/\ty σ H1 λy H2=>tx σ H2 λz H3=>∃o,rK H3 a y o/\Q (o.getD z) H3
section
variable {o f:Expr}{jE EF:Pos}{tx:TE}
theorem MS(hu:X.A.units+1<cLine)(ho:PE X o td)(he:PE X e ty)(hf:PE X f tx)(m:M2 X o "get" jE e f EF):PE X (.Call (.Attribute o "get" jE) [e,f] [] EF) (zcu td ty tx):=by
 intro pins s σ H Q I h;refine wpAny_Call_method m.base m.few m.line tI nE PySem.F.type_dict_get (i8 (ho pins s σ H _ I h) λu s1 ⟨x,H1,I1,rx,a,ex,d,q1⟩=>?_);subst ex;obtain rfl:u=Value.ref a:=rx;obtain⟨t1,t2,_⟩:=Jt I1 d;refine⟨t1,t2,?_⟩;rw[m.trees];refine ZA rfl (ZE (XA (i8 (he pins s1 σ H1 _ I1 q1) λiv s2 ⟨y,H2,I2,ry,q2⟩=>
  XA (i8 (hf pins s2 σ H2 _ I2 q2) λfv s3 ⟨z,H3,I3,rz,ov,g,q3⟩=>gH ?_))))
 exact zct hu I3 g ry rz λw' s4 I4 GX=>⟨_,H3,I4,GX,q3⟩
end
section
variable {kvs:List (MC×V)}
end
end L2
namespace L2
open PySem PySem.Spec PyProof.Rows
section
variable {prog:Program}{w:World}{A:Around}{E:Value->Shared->Prop}
end
section
variable {X:Cx}
theorem YL:∀{ps:List Addr}{us:List Value},k4 (ps.map V.ref) us->us=ps.map Value.ref
 |[],us,r=>by
  rw[fC]at r;cases r;rfl
 |p::ps,us,r=>by
  rw[C3]at r;cases r with
  |cons h t=>
   cases h;rw[C3,<-YL t]
end
end L2
namespace L2
open PySem PySem.Spec PyProof.Rows
variable {d:Addr}{es:Array DictEntry}{X:Cx}{tg e:Expr}{u:HO}{H:Hp}{pins:List (Addr×Obj)}{kvs:List (MC×V)}{ch:List Addr}{Ix:List Expr}{t' n ep:Nat}{od o:Obj}{p pos aW:Pos}{P:Program}{K:Frag}{s:Shared}{σ:St}{ta:TA}{w:World}
section
variable {h':Heap}
theorem V2.turnedL(I:V2 X pins σ H s)(k:∀b o,b∉ch->s.heap.get? b=some o->h'.get? b=some o)(hf:∀b∈ch,OK X pins H b):V2 X pins σ H {s with heap:=h',toks:=t'}:=by
 have nit:∀b u,H b=some u->b∉ch:=λb u e z=>by
  have q:=(hf b z).1;grind
 refine I.step (g':=s.gens) (d':=s.drawn) (ch:=ch) (λb hb=>⟨(hf b hb).2.2.2.1,(hf b hb).2.1,(hf b hb).2.2.2.2.1,(hf b hb).2.2.2.2.2⟩) (λb o _ _ hc e _=>k b o hc e) (λb o _ _ hc e _=>⟨o.slots,k b o hc e⟩)
  (λ_ _ _ _ n=>n) (λb o hc e=>⟨o,k b o hc e⟩) (λ_ _ e=>e) (λ_ _ _ e=>e) (λb ps e=>⟨#[],by rw[e];simp⟩) (λm hm=>?_) (λb u e=>?_) I.bare
 .obtain⟨o,es,ep,ho,r⟩:=hm;exact⟨o,es,ep,k _ o (λz=>(hf _ z).2.1 rfl) ho,r⟩
 .refine(I.hok b u e).stay (λc v hc q=>k c v ?_ q) (λ_ q=>q) λ_ _ q=>q;grind
theorem V2.turnedNew{T:Addr}{ob:HO}(I:V2 X pins σ H s) (k:∀b o,b∉ch->s.heap.get? b=some o->h'.get? b=some o) (hf:∀b∈ch,OK X pins H b) (hT:s.heap.objs.size<=T)
 (new:k9 X.prog X.w (upd H T ob) h' T ob):V2 X pins σ (upd H T ob) {s with heap:=h',toks:=t'}:=by
  have hn:H T=none:=I.hok.fresh hT;have nit:∀b u,H b=some u->b∉ch:=λb u e z=>by
   have q:=(hf b z).1;grind
  refine I.step (g':=s.gens) (d':=s.drawn) (ch:=ch) (λb hb=>⟨(hf b hb).2.2.2.1,(hf b hb).2.1,(hf b hb).2.2.2.2.1,(hf b hb).2.2.2.2.2⟩) (λb o _ _ hc e _=>k b o hc e) (λb o _ _ hc e _=>⟨o.slots,k b o hc e⟩)
   (λb o _ e n=>?_) (λb o hc e=>⟨o,k b o hc e⟩) (λb xs e=>?_) (λb o u e=>?_) (λb ps e=>⟨#[],?_⟩) (λm hm=>?_) (λb u e=>?_) I.bare
  .rw[M0 (j3 (O2 (F2 e) hT))];exact n
  .rw[M0 (C1 e hn)];exact e
  .rw[M0 (C1 e hn)];exact e
  .rw[M0 (C1 e hn),e];simp
  .obtain⟨o,es,ep,ho,r⟩:=hm;exact⟨o,es,ep,k _ o (λz=>(hf _ z).2.1 rfl) ho,r⟩
  .by_cases hb:b=T
   .subst hb;grind [C0]
   .rw[M0 hb]at e;refine(I.hok b u e).stay (λc v hc q=>k c v ?_ q) (λc q=>by rw[M0 (C1 q hn)];exact q) λc xs q=>by rw[M0 (C1 q hn)];exact q
    grind
theorem V2.lock(I:V2 X pins σ H s)(h:H d=some u)(mu:Of (some u)):∃od,V2 X pins σ (upd H d (.frz od u)) s:=by
 have x:=I.hok d u h;have ex:∃od,s.heap.get? d=some od:=by
  cases u with
  |lst xs=>obtain⟨_,_,_,_,e⟩:=x;grind
  |dK kvs=>obtain⟨_,_,_,_,o,_,_,e,_⟩:=x;grind
  |dT kvs=>obtain⟨_,_,_,_,o,_,_,e,_⟩:=x;grind
  |set S n=>obtain⟨o,_,_,_,e,_⟩:=x;grind
  |ins C dx fs=>obtain⟨_,_,_,e,_⟩:=x;grind
  |ext φ=>obtain⟨_,⟨_,e⟩,_⟩:=x;grind
  |xd fs=>obtain⟨_,⟨o,_,_,e,_⟩,_⟩:=x;grind
  |_=>exact False.elim mu
 obtain⟨od,e⟩:=ex;have new:k9 X.prog X.w (upd H d (.frz od u)) s.heap d (.frz od u):=by
  refine⟨e,x.stay (λb v _ q=>q) (λb q=>?_) λb xs q=>?_⟩
  .rw[M0 (λz=>by rw[z,h]at q;cases q;exact mu)];exact q
  .rw[M0 (λz=>by rw[z,h]at q;cases q;exact mu)];exact q
 exact⟨od,I.write (x:=d) (e:=d) (t':=s.toks) (h':=s.heap) (by rw[h];exact mu) (.inl rfl) (λb v _ q=>q) ⟨od,e⟩ new⟩
theorem V2.nofrz(I:V2 X pins σ H s)(h:H d=some u)(mu:Of (some u)):∀o' u',X.H_0 d≠some (.frz o' u'):=λo' u' e=>by
 have q:=I.base.frzs d o' u' e;rw[h]at q;cases q;exact mu
theorem V2.unlock(I:V2 X pins σ H s)(h:H d=some (.frz od u))(hn:∀o' u',X.H_0 d≠some (.frz o' u')):V2 X pins σ (upd H d u) s:=by
 have neH:∀b o,H b=some o->(∀o' u',o≠.frz o' u')->b≠d:=λb o e JK z=>by
  rw[z,h]at e;cases e;grind
 have neN:∀b,H b=none->b≠d:=λb e z=>by grind
 refine⟨I.ok,I.os,I.bare,⟨I.base.keep,I.base.slot,λb o e n hx=>?_,I.base.there,λb xs e=>?_,λb o x e=>?_,λb ps e=>?_⟩,I.loc,I.cell,?_,λx c e=>?_,λp hp=>?_,λb o e=>?_,I.len⟩
 .rw[M0 (neN b (I.base.free b o e n hx))];exact I.base.free b o e n hx
 .have q:=I.base.tups b xs e;rw[M0 (neH b _ q (λ_ _ z=>nomatch z))];exact q
 .have q:=I.base.frzs b o x e;rw[M0 (λz=>by rw[z]at e;exact hn _ _ e)];exact q
 .obtain⟨m,q⟩:=I.base.tbls b ps e;exact⟨m,by rw[M0 (neH b _ q (λ_ _ z=>nomatch z))];exact q⟩
 .rw[M0 (neN _ I.free)];exact I.free
 .rw[M0 (neN c (I.freeC x c e))];exact I.freeC x c e
 .obtain⟨e,n,r⟩:=I.pin p hp;exact⟨e,by rw[M0 (neN _ n)];exact n,r⟩
 .by_cases hb:b=d
  .rw[hb,C0]at e;cases e;rw[hb];obtain⟨_,x⟩:=I.hok d _ h;exact x.stay (λc v _ q=>q) (λc q=>by rw[M0 (neH c _ q (λ_ _ z=>nomatch z))];exact q) λc xs q=>by rw[M0 (neH c _ q (λ_ _ z=>nomatch z))];exact q
  .rw[M0 hb]at e;exact(I.hok b o e).stay (λc v _ q=>q) (λc q=>by rw[M0 (neH c _ q (λ_ _ z=>nomatch z))];exact q) λc xs q=>by rw[M0 (neH c _ q (λ_ _ z=>nomatch z))];exact q
end
def zeN(t:TS):TS:=λD σ H=>∃d u,H d=some u/\Of (some u)/\∀od,t ⟨λσ' H'=>H' d=some (.frz od u)/\D.nx σ' (upd H' d u),λv H'=>H' d=some (.frz od u)/\D.rt v (upd H' d u),λσ' H'=>H' d=some (.frz od u)/\D.bk σ' (upd H' d u),λσ' H'=>H' d=some (.frz od u)/\D.ct σ' (upd H' d u)⟩ σ (upd H d (.frz od u))
theorem Kk{st:Stmt}{t:TS}(h:PS X st t):PS X st (zeN t):=by
 intro pins s σ H D I hw;obtain⟨d,u,hd,mu,hw⟩:=hw;obtain⟨od,I1⟩:=I.lock hd mu;refine i8 (h pins s σ _ _ I1 (hw od)) λf s1 q=>?_;cases f with
 |next=>obtain⟨σ',H',I2,e,q⟩:=q;exact⟨σ',_,I2.unlock e (I.nofrz hd mu),q⟩
 |brk=>obtain⟨σ',H',I2,e,q⟩:=q;exact⟨σ',_,I2.unlock e (I.nofrz hd mu),q⟩
 |cont=>obtain⟨σ',H',I2,e,q⟩:=q;exact⟨σ',_,I2.unlock e (I.nofrz hd mu),q⟩
 |ret v=>obtain⟨x,σ',H',I2,r,e,q⟩:=q;exact⟨x,σ',_,I2.unlock e (I.nofrz hd mu),r,q⟩
theorem YX{R:It->Hp->Prop}{J:It}{tn:Nat->Heap->Prop}{tk:Nat}(I:V2 X pins σ H s) (o:Obj)
 (T:lV X.prog X.w X.K tg J [s.heap.objs.size] s.heap.objs.size tn) (st:tn 0 (s.heap.push o)) (q:R J H):PIE X pins σ tg R (.ref s.heap.objs.size) {s with heap:=s.heap.push o,toks:=tk}:=by
  refine⟨s.heap.objs.size,[s.heap.objs.size],tn,J,H,rfl,I.kept λb ob e=>U0 _ e,T,st,λb hb=>?_,q⟩;have e:b=s.heap.objs.size:=by simpa using hb
  subst e;exact I.fpOk (j1 _) (I.hok.fresh (j1 _))
def Itc(lo c:Int)(n:Nat):It:=⟨λi _=>i<n,λi H x H'=>H'=H/\x=.int (lo+(i:Nat)*c),λi _=>n<=i⟩
theorem OZ(it:Addr)(lo c:Int)(n:Nat):lV P w K tg (Itc lo c n) [it] it (λi h=>IsRangeIter h it (lo+(i:Nat)*c) ((n:Int)-(i:Nat)) c) where
 mem:=by simp
 obj:=λi h st b hb=>by
  grind
 keep:=λi h h' st k=>k it (by simp) _ st
 item:=by
  intro X hP hw hK hc i pins s σ H E I hf st hg;subst hP hw hK;obtain⟨f0,f1,f2,f3,f4,f5⟩:=hf it (by simp);have W:=Walks.range (prog:=X.prog) (w:=X.w) (I.ok.hd hc) it lo c n;refine W.item i s _ _ hg st λv h' tk hv jA kk=>?_;obtain⟨t,rfl⟩:=hv;have I1:V2 X pins σ H {s with heap:=h',toks:=tk}:=I.turned (λb o hb e=>kk b o (by simpa using hb) e) f0 f1 f3 f4 f5;exact⟨_,rfl,gW (s:={s with heap:=h',toks:=tk}) (n:= "range_iterator") jA rfl rfl (by decide) ⟨.int (lo+(i:Nat)*c),H,I1,⟨t,rfl⟩,⟨rfl,rfl⟩,jA,λb hb=>(hf b hb).1⟩⟩
 done:=by
  intro X hP hw hK hc i pins s σ H E I hf st hg;subst hP hw hK;obtain⟨f0,f1,f2,f3,f4,f5⟩:=hf it (by simp);exact hJ (I.ok.hd hc) st (by have:n<=i:=hg;lia) λh' eb=>⟨rfl,I.turned (t':=s.toks) (λb o hb e=>eb b o hb e) f0 f1 f3 f4 f5⟩
 self:=λA i s Q E st h=>iJ st h
def RgC(i j c:Int)(n:Nat):Prop:=c≠0/\c.natAbs<1073741824/\Builtin.Range.small i j c=true/\Builtin.Range.rangeSize i j c=n
theorem RgC.neg{i j:Int}(ha:-(2^62)<=i) (Yr:i<2^62) (hb:-(2^62)<=j) (cP:j<2^62):RgC i j (-1) (i-j).toNat:=
 ⟨by decide,by decide,PySem.W.small_down ha Yr hb cP,PySem.W.rangeSize_downNat i j⟩
inductive Kt(R:It->Hp->Prop)(vs:List V)(H1:Hp):Prop
 |mk (i j c:Int) (n:Nat):vs=[.int i,.int j,.int c]->RgC i j c n->R (Itc i c n) H1->Kt R vs H1
def zeP(ta:TA):TI:=λσ H R=>ta σ H (Kt R)
theorem Jo{a b c:Expr}(hg:Gl X "range") (hm:X.mg "range"= none) (ha:PA X [a,b,c] ta)
 (hs:starEach [a,b,c] X.env=(false,eval a X.env)::starEach [b,c] X.env:=by rfl) (xH:(backTo pos (starEach [b,c] X.env)).any (·.1)=false:=by rfl) :
   PI X tg (.Call (.Name "range" p) [a,b,c] [] pos) (zeP ta):=by
  intro pins s σ H R I h;refine Call_ (fJ I hg hm boot_range (b6 (i8 (ha pos pins s σ H _ I h) λus s1 ⟨vs,H1,I1,r1,q1⟩=>?_) hs xH));obtain⟨i,j,k,n,e,⟨c0,c1,c2,c3⟩,q⟩:=q1;subst e;cases r1 with
  |cons r rr=>
   cases rr with
   |cons r' rr=>
    cases rr with
    |cons r'' rr=>
     cases rr;obtain⟨t,rfl⟩:=r;obtain⟨t',rfl⟩:=r';obtain⟨t'',rfl⟩:=r'';refine call_range_3 c0 ?_ (.inl (PyProof.noPylong_small c1));refine wpAny_pyIter_range (IsRange.new ..) c2 ?_;have I2:V2 X pins σ H1 {s1 with heap:=s1.heap.push {cls:=.type "range",data:=.fields #[.int i t,.int j t',.int k t'']}}:=I1.kept (t':=s1.toks) λb o e=>U0 _ e;refine YX (tk:=s1.toks) I2 _ (OZ _ i k n) ?_ q;have e1:i+((0:Nat):Int)*k=i:=by simp
     have e2:(n:Int)-((0:Nat):Int)=Builtin.Range.rangeSize i j k:=by rw[c3];simp
     show IsRangeIter _ _ (i+((0:Nat):Int)*k) ((n:Int)-((0:Nat):Int)) k;rw[e1,e2];exact X1 _ rfl
theorem Jg{lo c:Int}{g:TG}{tb:TS}{D:MK}(Pv:Nat->St->Hp->Prop) (h0:Pv 0 σ H)
 (hs:∀i σ H,i<n->Pv i σ H->g (.int (lo+(i:Nat)*c)) σ H λσ2 H2=>tb {D with nx:=Pv (i+1),ct:=Pv (i+1),bk:=D.nx} σ2 H2) (hd:∀σ H,Pv n σ H->D.nx σ H) :
   ∃W:Nat->Nat->St->Hp->Prop,(∃m,W 0 m σ H)/\∀i m σ H,W i m σ H->
    ((Itc lo c n).stop i H/\D.nx σ H)\/((Itc lo c n).go i H/\∃N:St->Hp->Prop,(∀σ' H',N σ' H'->∃m',m'<m/\W (i+1) m' σ' H')/\∀x H',(Itc lo c n).yld i H x H'->g x σ H' λσ2 H2=>tb {D with nx:=N,ct:=N,bk:=D.nx} σ2 H2):=by
  refine⟨λi m σ H=>m=n-i/\i<=n/\Pv i σ H,⟨n,by simp,E1 _,h0⟩,?_⟩;rintro i m σ H ⟨rfl,hi,p⟩;by_cases UC:i<n
  .refine .inr ⟨UC,Pv (i+1),λσ' H' p'=>⟨n-(i+1),by lia,rfl,UC,p'⟩,λx H' y=>?_⟩;obtain⟨e,y⟩:=y;subst e y;exact hs i σ _ UC p
  .have e:i=n:=by lia
   subst e;exact .inl ⟨j1 _,hd σ H p⟩
def Its(x:Str):It:=⟨λi _=>i<x.cps.size,λi H v H'=>H'=H/\∃c,x.cps[i]?=some c/\v=.str ⟨#[c]⟩,λi _=>x.cps.size<=i⟩
theorem PZ(it:Addr)(x:Str)(t:Tok)(ty:String)(hty:ty = "str_ascii_iterator" \/ ty = "str_iterator") :
  lV P w K tg (Its x) [it] it (λi h=>h.IsStrIter it ty x t i) where
 mem:=by simp
 obj:=λi h st b hb=>by
  have e:b=it:=by simpa using hb
  subst e;obtain⟨o,e,c,d⟩:=st;exact⟨o,e,λv z=>by rw[d]at z;cases z⟩
 keep:=λi h h' st k=>let ⟨o,ho,r⟩:=st;⟨o,k it (by simp) o ho,r⟩
 item:=by
  intro X hP hw hK hc i pins s σ H E I hf st hg;subst hP hw hK;obtain⟨f0,f1,f2,f3,f4,f5⟩:=hf it (by simp);have W:Walks X.prog X.w X.A it [it] [it] x.cps.size (SignAt x) (λi h=>h.IsStrIter it ty x t i):=by
   rcases hty with e|e
   .rw[e];exact Walks.strAscii (I.ok.hd hc) it x t
   .rw[e];exact Walks.strWide (I.ok.hd hc) it x t
  have hno:["enumerate","zip","dict_itemiterator","dict_reverseitemiterator","odict_iterator","itertools.zip_longest","itertools.pairwise"].contains ty=false:=by
   rcases hty with e|e
   .rw[e];decide
   .rw[e];decide
  refine W.item i s _ _ hg st λv h' tk hv jA kk=>?_;obtain⟨c,u,hcx,rfl⟩:=hv;have I1:V2 X pins σ H {s with heap:=h',toks:=tk}:=I.turned (λb o hb e=>kk b o (by simpa using hb) e) f0 f1 f3 f4 f5;obtain⟨oi,e,cc,dd⟩:=id jA;exact⟨_,rfl,gW (s:={s with heap:=h',toks:=tk}) e cc dd hno ⟨.str ⟨#[c]⟩,H,I1,⟨u,rfl⟩,⟨rfl,c,hcx,rfl⟩,jA,λb hb=>(hf b hb).1⟩⟩
 done:=by
  intro X hP hw hK hc i pins s σ H E I hf st hg;subst hP hw hK;obtain⟨f0,f1,f2,f3,f4,f5⟩:=hf it (by simp);have hx:x.cps[i]?=none:=tJ hg;rcases hty with e|e
  .rw[e]at st;exact wpAny_pyNext_ascii_end (I.ok.hd hc) st hx λh' eb=>⟨rfl,I.turned (t':=s.toks) (λb o hb e=>eb b o hb e) f0 f1 f3 f4 f5⟩
  .rw[e]at st;exact wpAny_pyNext_wide_end (I.ok.hd hc) st hx λh' eb=>⟨rfl,I.turned (t':=s.toks) (λb o hb e=>eb b o hb e) f0 f1 f3 f4 f5⟩
 self:=λA i s Q E st h=>by
  rcases hty with e|e
  .rw[e]at st;exact wpAny_pyIter_striter_ascii st h
  .rw[e]at st;exact wpAny_pyIter_striter_wide st h
inductive zbf(R:It->Hp->Prop)(v:V)(H1:Hp):Prop
 |mk (x:_):v=.str x->R (Its x) H1->zbf R v H1
def zhq(te:TE):TI:=λσ H R=>te σ H (zbf R)
theorem zcv{te:TE}(he:PE X e te):PI X tg e (zhq te):=by
 intro pins s σ H R I h;refine i8 (he pins s σ H _ I h) λv s1 ⟨y,H1,I1,r1,x,ex,q⟩=>?_;subst ex;obtain⟨t,rfl⟩:=r1;cases ha:x.cps.all (·<128)
 .exact wpAny_pyIter_wide ha (YX (tk:=s1.toks) I1 _ (PZ _ x t "str_iterator" (.inr rfl)) ⟨_,X1 _ rfl,rfl,rfl⟩ q)
 .exact wpAny_pyIter_ascii ha (YX (tk:=s1.toks) I1 _ (PZ _ x t "str_ascii_iterator" (.inl rfl)) ⟨_,X1 _ rfl,rfl,rfl⟩ q)
section
variable {prog:Program}{A:Around}{E:Value->Shared->Prop}
theorem Ko{Q:Value->Shared->Prop}(hd:(d==sysModules)=false) (ho:s.heap.get? d=some o) (hc:o.ExactDict) (zfp:o.data=.dict es ep)
 (hQ:Q (.ref s.heap.objs.size) {s with heap:=s.heap.push {cls:=.type "dict_keyiterator",data:=.fields #[.ref d,.int 0 0,.int es.size 0,.int ep 0]}}) :
   wpAny (model prog w) A (pyIter (.ref d)) Q E s:=by
  have hT:s.TypeIs (.ref d) "dict":= ⟨o,ho,hc.1⟩;refine wpAny_pyIter_slot hT F.slot_dict_iter (w9 F.slot_dict_iter hT F.entry_dict_iter ?_ (F.args_dict_iter_1 _));unfold Builtin.«dict.__iter__»;refine z0 ?_;unfold Builtin.Dict.dictSlotNone;refine z0 (wpAny_notOrdered_dict hT ?_);show wpAny _ _ (pure (Value.ref d)) _ _ s;refine S0 ?_;show wpAny _ _ (Builtin.Dict.showsAll d>>=_) _ _ s;unfold Builtin.Dict.showsAll;rw[D0 (by rw[hd];exact T1)];refine z0 (S0 ?_);refine z0 (wpAny_dictEntries ho zfp ?_);refine z0 (wpAny_dictEpoch ho zfp ?_);refine z0 (F5 (S0 ⟨_,rfl,"dict_keyiterator",_,⟨_,X1 _ rfl,rfl⟩,gB.lookup,?_⟩));simpa[rawInt]using hQ
theorem ZX{it:Addr}{i:Nat}{Q:Option Value->Shared->Prop}(hh:A.handled=none) (dJ:s.heap.IsKeyIter it d i n ep) (Gy:s.heap.get? d=some od) (hdd:od.data=.dict es ep)
 (hsz:es.size=n) (hge:n<=i) (hQ:∀h',Heap.ExtBut it s.heap h'->Q none {s with heap:=h'}):wpAny (model prog w) A (pyNext (.ref it)) Q E s:=by
  obtain⟨o,ho,hc,hd⟩:=id dJ;unfold pyNext;refine z0 (CH (o7 (name:=Str.ofString "__next__") dJ.typeIs gB
   (w9 gB dJ.typeIs F.entry_dict_keyiterator_next ?_ (F.args_dict_keyiterator_next_1 _))))
  refine z0 (S0 ?_);refine z0 ?_;refine z0 ?_
  first|refine z0 (cF dJ.typeIs (S0 ?_))|refine z0 (DH dJ.typeIs (S0 ?_))
  refine z0 (wpAny_fieldsOf ho hd ?_);have zhQ:Builtin.Dict_items.ownsTuple "dict_keyiterator"= false:=by decide
  simp only[zhQ,i3,l7];show wpAny _ _ (if (Value.ref d==Value.none)=true then _ else _) _ _ s;rw[D0 (show ¬((Value.ref d==Value.none)=true)from T1)];refine z0 (S0 ?_);refine z0 (wpAny_dictEntries Gy hdd ?_);rw[D0 (by rw[hsz];simp)];refine z0 (S0 ?_);refine z0 (wpAny_dictEpoch Gy hdd ?_);rw[D0 (by simp)];refine S0 ?_;have zhR:es.size<=i:=by lia
  simp only[show ¬((i:Int)<0)from by lia,l7,P4,tJ zhR];refine z0 ?_
  first|refine z0 (cF dJ.typeIs (S0 ?_))|refine z0 (DH dJ.typeIs (S0 ?_))
  show wpAny _ _ (setField (.ref it) 0 .none>>=_) _ _ s;refine z0 (E9 ho hd (by simp) ?_);show wpAny _ _ (newExc (.type "StopIteration") []>>=_) _ _ _;refine z0 ?_;simp only[newExc,newTuple];refine z0 (F5 ?_ (by size_fits));refine z0 (m:=firstArgMember _ _) (wpAny_of_eq (a:=Value.none) (by first|rfl|(simp only[firstArgMember];rfl)) ?_);refine F5 ?_ (by size_fits);simp only[raiseNew];refine z0 (EH ?_);rw[show A.in1.handled=none from hh];refine z0 (S0 (tD ?_));refine z0 (wpAny_isInstance (T:= "StopIteration") (b:=true) ⟨_,X1 _ rfl,rfl⟩ isSubtype_stop ?_);exact S0 (hQ _ (((JF ..).extBut.push _).push _))
end
theorem zcw{κ:Type}{kvs:List (κ×V)}{vs:List (κ×Value)}(h:KV kvs vs):∀{i:Nat}{k:κ}{v:V},kvs[i]?=some (k,v)->∃u,vs[i]?=some (k,u)/\R4 v u:=by
 unfold KV at h
 induction h with
 |nil=>intro i k v e;simp at e
 |@cons a b l₁ l₂ r t ih=>
  intro i k v e;cases i with
  |zero=>
   simp only[uI,Option.some.injEq]at e;subst e;refine⟨b.2,?_,r.2⟩;simp only[uI];exact P7 some (Prod.ext r.1.symm rfl)
  |succ j=>
   simp only[List.getElem?_cons_succ]at e ⊢;exact ih e
theorem Mt{k:MC}{u:Value}(h:rQ k u=true):R4 (kV k) u:=by
 rcases j9 h with⟨i,t,rfl,rfl⟩|⟨x,t,rfl,rfl⟩
 .exact⟨t,rfl⟩
 .exact⟨t,rfl⟩
theorem V2.frzK(I:V2 X pins σ H s)(h:H d=some (.frz o (.dK kvs))) :
  (d==sysModules)=false/\s.heap.get? d=some o/\o.ExactDict/\∃(es:Array DictEntry)(ep:Nat)(vs:List (MC×Value)),o.data=.dict es ep/\es.size=kvs.length/\KV kvs vs/\s.heap.DictAt (O9 X.prog X.w) d vs ep:=by
 obtain⟨hd,z,hs,vs,kv,o',es,ep,ho,hx,Qn,r⟩:=I.hok d _ h;rw[hd]at ho;cases ho;refine⟨hs,hd,hx,es,ep,vs,Qn,?_,kv,o,es,hd,hx,Qn,r⟩;have l1:=r.2.1.length;have l2:kvs.length=vs.length:=K1 kv;grind
def Itk(d:Addr)(o:Obj)(kvs:List (MC×V)):It:=
 ⟨λi H=>H d=some (.frz o (.dK kvs))/\i<kvs.length,λi H x H'=>H'=H/\∃k v,kvs[i]?=some (k,v)/\x=kV k,λi H=>H d=some (.frz o (.dK kvs))/\kvs.length<=i⟩
theorem Lk{es':Array DictEntry}{ep':Nat}(h:o.data=.dict es ep) (h':o.data=.dict es' ep'):es'=es/\ep'=ep:=by
 grind
theorem Lo(it:Addr)(Gy:o.data=.dict es ep):lV P w K tg (Itk d o kvs) [it] it (λi h=>h.IsKeyIter it d i kvs.length ep) where
 mem:=by simp
 obj:=λi h st b hb=>by
  have e:b=it:=by simpa using hb
  subst e;obtain⟨oi,e,c,dd⟩:=st;grind
 keep:=λi h h' st k=>st.at λoi e=>k it (by simp) oi e
 item:=by
  intro X hP hw hK hc i pins s σ H E I hf st hg;subst hP hw hK;obtain⟨hd,hi⟩:=hg;obtain⟨f0,f1,f2,f3,f4,f5⟩:=hf it (by simp);obtain⟨hs,hgd,hx,es',ep',vs,Qn,hsz,kv,hm⟩:=I.frzK hd;obtain⟨rfl,rfl⟩:=Lk Gy Qn;obtain⟨⟨k,v⟩,hkv⟩:∃p,kvs[i]?=some p:=⟨kvs[i],O0 hi⟩
  obtain⟨u,hu,ru⟩:=zcw kv hkv;have hl:kvs.length=vs.length:=K1 kv;rw[hl]at st;refine wpAny_pyNext_dict_item st hm hu λiV h' zdo jA sb=>?_;have I1:V2 X pins σ H {s with heap:=h'}:=I.turned (t':=s.toks) (λb ob hb e=>(sb.2 b hb).trans e) f0 f1 f3 f4 f5;obtain⟨oi,e,c,dd⟩:=id jA;refine⟨iV,rfl,gW (s:={s with heap:=h'}) e c dd (by decide) ⟨kV k,H,I1,Mt (show rQ k iV=true from zdo),⟨rfl,k,v,hkv,rfl⟩,?_,λb hb=>(hf b hb).1⟩⟩;grind
 done:=by
  intro X hP hw hK hc i pins s σ H E I hf st hg;subst hP hw hK;obtain⟨hd,hi⟩:=hg;obtain⟨f0,f1,f2,f3,f4,f5⟩:=hf it (by simp);obtain⟨hs,hgd,hx,es',ep',vs,Qn,hsz,kv,hm⟩:=I.frzK hd;obtain⟨rfl,rfl⟩:=Lk Gy Qn;exact ZX (I.ok.hd hc) st hgd Qn hsz hi λh' eb=>⟨rfl,I.turned (t':=s.toks) (λb ob hb e=>eb b ob hb e) f0 f1 f3 f4 f5⟩
 self:=λA i s Q E st h=>wpAny_pyIter_keyiter st h
inductive Nk(R:It->Hp->Prop)(x:V)(H1:Hp):Prop
 |mk (d o kvs:_):x=.ref d->H1 d=some (.frz o (.dK kvs))->R (Itk d o kvs) H1->Nk R x H1
def zcx(td:TE):TI:=λσ H R=>td σ H (Nk R)
section
variable {td:TE}{jE EF:Pos}
end
def Ite(K:Frag)(a:Addr):It:=
 ⟨λi H=>∃(xs:List V)(x:V),SqL K H a xs/\xs[i]?=some x,λi H v H'=>∃T x,v=.ref T/\H T=none/\H'=upd H T (.tup [.int (i:Nat),x])/\∀xs,SqL K H a xs->xs[i]?=some x,λi H=>∃xs:List V,SqL K H a xs/\xs.length<=i⟩
theorem No{kk:Nat}(a e it:Addr) :
  lV P w K (.Tuple Ix kk aW) (Ite K a) [e,it] e (λi h=>(∃old,IsEnum h e it ((i:Nat):Int) old)/\h.IsListIter it a i/\e≠it) where
 mem:=by simp
 obj:=λi h st b hb=>by
  obtain⟨⟨old,he⟩,⟨o,ho,hc,hd⟩,_⟩:=st;have e':b=e\/b=it:=by simpa using hb
  rcases e' with z|z
  all_goals grind
 keep:=λi h h' st k=>let ⟨⟨old,he⟩,hi,JK⟩:=st;⟨⟨old,k e (by simp) _ he⟩,hi.at λo q=>k it (by simp) o q,JK⟩
 item:=by
  intro X hP hw hK hc i pins s σ H E I hf st hg;subst hP hw hK;obtain⟨⟨old,he⟩,dJ,JK⟩:=st;obtain⟨xs,x,hq,hx⟩:=hg;obtain⟨its,rv,p,hz⟩:=I.list hq;obtain⟨u,hu,ru⟩:=rv.get hx;have hel:e<s.heap.objs.size:=F2 he;have hil:it<s.heap.objs.size:=by obtain⟨_,q,_⟩:=dJ;exact F2 q
  refine wpAny_pyNext_enum_item he dJ p.isList (x:=u) (by simpa using hu) JK λh' ho Jx hT hsz hk=>?_;refine⟨_,rfl,nG (s:={s with heap:=h',toks:=s.toks+1}) ho λh'' he' sb=>?_⟩;have hT2:h''.get? s.heap.objs.size=some {cls:=.type "tuple",data:=.seq #[.int i s.toks,u]}:=(sb.2 _ (PF hel)).trans hT;have new:k9 X.prog X.w (upd H s.heap.objs.size (.tup [.int (i:Nat),x])) h'' s.heap.objs.size (.tup [.int (i:Nat),x]):=
   ⟨by show 2<=sizeLine;decide,[.int i s.toks,u],.cons ⟨_,rfl⟩ (.cons ru .nil),⟨_,hT2,rfl,_,rfl⟩⟩
  have I1:V2 X pins σ (upd H s.heap.objs.size (.tup [.int (i:Nat),x])) {s with heap:=h'',toks:=s.toks+1}:=
   I.turnedNew (ch:=[e,it]) (λb ob hb q=>(sb.2 b (λz=>hb (by simp[z]))).trans (hk b ob (λz=>hb (by simp[z])) (λz=>hb (by simp[z])) q)) hf (j1 _) new
  refine⟨.ref s.heap.objs.size,_,I1,rfl,⟨_,x,rfl,I.hok.fresh (j1 _),rfl,λys hy=>by rw[I.list_inj hy hq];exact hx⟩,⟨⟨u,?_⟩,Jx.at λo q=>(sb.2 it (K2 JK)).trans q,JK⟩,λb hb=>?_⟩
  .have e1:((i+1:Nat):Int)=(i:Int)+1:=by lia
   rw[e1];exact he'
  .have cP:b<s.heap.objs.size:=by
    have e':b=e\/b=it:=by simpa using hb
    rcases e' with z|z
    all_goals grind
   rw[M0 (j3 cP)];exact(hf b hb).1
 done:=by
  intro X hP hw hK hc i pins s σ H E I hf st hg;subst hP hw hK;obtain⟨⟨old,he⟩,dJ,JK⟩:=st;obtain⟨xs,hq,hx⟩:=hg;obtain⟨its,rv,p,hz⟩:=I.list hq;obtain⟨f0,f1,f2,f3,f4,f5⟩:=hf it (by simp);have hl:=rv.length;exact wpAny_pyNext_enum_end (I.ok.hd hc) he dJ p.isList (by simp;lia) λh' eb=>⟨rfl,I.turned (t':=s.toks) (λb o hb q=>eb b o hb q) f0 f1 f3 f4 f5⟩
 self:=λA i s Q E st h=>let ⟨⟨_,he⟩,_⟩:=st;JD he h
inductive Nt(K:Frag)(R:It->Hp->Prop)(vs:List V)(H1:Hp):Prop
 |mk (a xs:_):vs=[.ref a]->SqL K H1 a xs->R (Ite K a) H1->Nt K R vs H1
def zeS(K:Frag)(ta:TA):TI:=λσ H R=>ta σ H (Nt K R)
theorem HN{kk:Nat}(hg:Gl X "enumerate") (hm:X.mg "enumerate"= none) (ha:PA X [e] ta) (hs:starEach [e] X.env=[(false,eval e X.env)]:=by rfl) :
  PI X (.Tuple Ix kk aW) (.Call (.Name "enumerate" p) [e] [] pos) (zeS X.K ta):=by
 intro pins s σ H R I h;refine Call_ (fJ I hg hm boot_enumerate (b6 (i8 (ha pos pins s σ H _ I h) λus s1 ⟨vs,H1,I1,r1,q1⟩=>?_) hs rfl));obtain⟨a,xs,ex,hq,q⟩:=q1;subst ex;cases r1 with
 |cons r rr=>
  cases rr;cases r;obtain⟨its,rv,p',hz⟩:=I1.list hq;refine call_enumerate_list p'.isList λh' he dJ hsz hk=>JD he ?_;have I2:V2 X pins σ H1 {s1 with heap:=h'}:=I1.kept (t':=s1.toks) hk;refine⟨s1.heap.objs.size+1,[s1.heap.objs.size+1,s1.heap.objs.size],_,_,H1,rfl,I2,No a (s1.heap.objs.size+1) s1.heap.objs.size,⟨⟨.none,he⟩,dJ,Nat.succ_ne_self _⟩,λb hb=>?_,q⟩;have e':b=s1.heap.objs.size+1\/b=s1.heap.objs.size:=by simpa using hb
  have hle:s1.heap.objs.size<=b:=by
   rcases e' with z|z
   all_goals grind
  exact I1.fpOk hle (I1.hok.fresh hle)
end L2
namespace Bits
open PySem PyProof.Rows
end Bits
namespace TL
open PySem PySem.Builtin PySem.Builtin.Str PySem.StrLaws
abbrev tl(x:Str):List Nat:=x.cps.toList
def pre(S l:List Nat):Bool:=l.take S.length==S
def par(S:List Nat):List Nat->List Nat->Option (List Nat×List Nat)
 |_,[]=>none
 |acc,c::r=>if pre S (c::r)=true then some (acc,(c::r).drop S.length)else par S (acc++[c]) r
end TL
namespace L2
open PySem PySem.Spec PyProof.Rows
section
variable {X:Cx}{pins:List (Addr×Obj)}{σ:St}{H:Hp}{s:Shared}{Q:VK}
end
section
variable {X:Cx}
end
section
variable {X:Cx}{o e:Expr}{to te:TE}
end
end L2
namespace L2
open PySem PySem.Spec PyProof.Rows
section
variable {X:Cx}
end
end L2
namespace Att
open PySem PySem.W PySem.Calls PyProof.Rows
section
variable {prog:Program}{w:World}{A:Around}{E:Value->Shared->Prop}{s:Shared}{K:Frag}
end
end Att
namespace L2
open PySem PySem.Spec PyProof.Rows
end L2
namespace L2
open PySem PySem.Spec PyProof.Rows
end L2
namespace L2
open PySem PySem.Spec PyProof.Rows
variable {f:Addr}{H H':Hp}{xs:List V}{A B:Prop}{K:Frag}{st:Stmt}{x EB:Str}
def M7(s:Stmt)(j:Nat):Stmt:=match s with
 |.ClassDef _ _ _ body _ _ _ _ _ _ _=>body.getD j (.Pass ⟨0,0,0,0⟩)
 |_=>.Pass ⟨0,0,0,0⟩
def RE(s:Stmt):Arguments:=match s with
 |.FunctionDef _ a _ _ _ _ _ _ _ _=>a
 |_=>{posonlyargs:=[],args:=[],vararg:=none,kwonlyargs:=[],kw_defaults:=[],kwarg:=none,defaults:=[]}
def KD(s:Stmt):List Stmt:=match s with
 |.FunctionDef _ _ b _ _ _ _ _ _ _=>b
 |_=>[]
def Z3(s:Stmt):Scope:=match s with
 |.FunctionDef _ _ _ _ _ _ sc _ _ _=>sc
 |_=>{kind:=.function,names:=[],isGenerator:=false,isCoroutine:=false}
abbrev E0:St->XK:=λ_ _ _ _=>False
structure Fun(K:Frag)(x EB:Str)(st:Stmt)(f:Addr)(fd:FuncData):Prop where
 ex:∃(oc:Value)(od:Option Addr)(kV Nn pm:Value)(an:Option Addr)(cV ct:Value)(osl:Array (Option Value)),
  fd=fnOf x EB (RE st) (KD st) (Z3 st) .none kV Nn pm an cV ct/\K.lookup f=some ⟨oc,od,.func fd,osl⟩/\codeIn K cV EB=true
 kp:keepIn K (.ref f)=true
section
variable {P:Program}{w:World}{mg:Str->Option Value}{base:Heap}
theorem Fun.binds{fd:FuncData}{ps:List Str}(F:Fun K x EB st f fd)
 (h:∀(kV Nn pm:Value)(an:Option Addr)(cV ct:Value)(us:List Value),us.length=ps.length->bindArgs (fnOf x EB (RE st) (KD st) (Z3 st) .none kV Nn pm an cV ct) ⟨us,[]⟩=pure (ps.zip us)):yB K fd ps []:=by
  obtain⟨oc,od,kV,Nn,pm,an,cV,ct,osl,rfl,lk,Vr⟩:=F.ex;exact .all (h kV Nn pm an cV ct)
theorem aY{oc:Value}{od an:Option Addr}{osl:Array (Option Value)}{kV Nn pm cV ct:Value}(l:K.lookup f=some ⟨oc,od,.func (fnOf x EB (RE st) (KD st) (Z3 st) .none kV Nn pm an cV ct),osl⟩)
 (c:codeIn K cV EB=true) (k:keepIn K (.ref f)=true):Fun K x EB st f (fnOf x EB (RE st) (KD st) (Z3 st) .none kV Nn pm an cV ct):=⟨⟨oc,od,kV,Nn,pm,an,cV,ct,osl,rfl,l,c⟩,k⟩
end
theorem tM{cm:Bool}{A:Around}{k:Nat}(hr:N8 cm k A):A.units+1<cLine:=F9 (Nat.add_le_add_left (by decide:1<=64) _) hr.units
section
variable {X:Cx}
theorem pv(i:Nat){pos:Pos}(hN:X.N[i]?=some x:=by rfl) (hv:Vis X.env.scope x:=by first|exact Or.inl rfl|exact Or.inr (Or.inl rfl)|exact Or.inr (Or.inr rfl)) (hd:(x==("__debug__": Str))=false:=by decide)
 (Vr:(x==("__classdict__": Str))=false:=by decide):PE X (.Name x pos) (OF i):=zb3 hN hv hd Vr
end
theorem S7(h:B):if false=true then A else B:=by
 grind
theorem b7(h:A):if true=true then A else B:=by
 grind
theorem zhr{c:Prop}[Decidable c] (h1:c->A) (h2:¬c->B):if c then A else B:=by
 grind
def Same(H H':Hp):Prop:=∀b o,H b=some o->H' b=some o
theorem Same.refl(H:Hp):Same H H:=λ_ _ h=>h
theorem Same.trans{H1 H2:Hp}(a:Same H H1) (b:Same H1 H2):Same H H2:=λc o h=>b c o (a c o h)
theorem Same.free(e:Same H H'){l:Addr}(h:H' l=Option.none):H l=Option.none:=by
 cases q:H l with
 |none=>rfl
 |some o=>
  rw[e l o q]at h;cases h
theorem Same.seq{a:Addr}(e:Same H H') (h:SqL K H a xs):SqL K H' a xs:=by
 rcases h with(h|⟨o,h⟩)|h
 .exact .inl (.inl (e _ _ h))
 .exact .inl (.inr ⟨o,e _ _ h⟩)
 .exact .inr h
section
variable {κ:Type}[DecidableEq κ]
theorem Ot{kvs:List (κ×V)}{k:κ}(h:Y8 kvs k=none):¬k∈kvs.map (·.1):=by
 intro m;obtain⟨p,hp,e⟩:=S2.mp m;have q:(kvs.any λkv=>decide (kv.1=k))=true:=zE.mpr ⟨p,hp,F1 e⟩;rw[bF,h]at q;grind
theorem Pk:∀{l:List κ}{k:κ},l.Nodup->¬k∈l->(l++[k]).Nodup
 |[],k,_,_=>by simp
 |a::r,k,h,hk=>by
  obtain⟨h1,h2⟩:=N5.mp h;show(a::(r++[k])).Nodup;refine N5.mpr ⟨λm=>?_,Pk h2 λm=>hk (S1.mpr (Or.inr m))⟩;grind
theorem Iz{kvs:List (κ×V)}{k:κ}(v:V) (hn:(kvs.map (·.1)).Nodup) (h:Y8 kvs k=none):((aF kvs k v).map (·.1)).Nodup:=by
 rw[JS v h,V0];exact Pk hn (Ot h)
end
theorem NS{z:Int}{j:Nat}{v:V}(e:z=(j:Int)) (h:xs[j]?=some v):Cy xs z=some v:=by
 rw[e];exact S5 h
end L2
namespace L2
open PySem PySem.Spec PyProof.Rows
open PySem.W (WData Codec OpenSpec Well WellAll ReadsW ReadsAllW)
variable {a b:Addr}{cm:Bool}{h:Heap}{H:Hp}{A B:List Addr}{ps:List Str}{xs:List V}{vs:List Value}{ds:List WData}{P Pm:Params}{K:Frag}{R:PySem.W.WRecords}{cl:Str->Option Addr}{v:Value}{w:World}
mutual
inductive Dw(K:Frag)(H:Hp):V->WData->Prop
 |non:Dw K H .non .none
 |bl (b:Bool):Dw K H (.bl b) (.bool b)
 |int (i:Int):Dw K H (.int i) (.int i)
 |str (x:Str):Dw K H (.str x) (.str x)
 |byt (b:Array UInt8):Dw K H (.byt b) (.bytes b.toList)
 |lst {a:Addr} {xs:List V} {ds:List WData}:SqL K H a xs->cK K H xs ds->Dw K H (.ref a) (.list ds)
 |tup {a:Addr} {xs:List V} {ds:List WData}:S9 K H a xs->cK K H xs ds->Dw K H (.ref a) (.tuple ds)
inductive cK(K:Frag)(H:Hp):List V->List WData->Prop
 |nil:cK K H [] []
 |cons {v:V} {vs:List V} {d:WData} {ds:List WData}:Dw K H v d->cK K H vs ds->cK K H (v::vs) (d::ds)
end
theorem dw_ints{K:Frag}{H:Hp}:∀ns:List Int,cK K H (ns.map V.int) (ns.map WData.int)
 |[]=>.nil
 |n::r=>.cons (.int n) (dw_ints r)
theorem ints_dw{K:Frag}{H:Hp}:∀(ns:List Int)(xs:List V),cK K H xs (ns.map WData.int)->xs=ns.map V.int
 |[],xs,h=>by
  cases h;rfl
 |n::r,xs,h=>by
  cases h with
  |cons h1 h2=>
   cases h1;rw[ints_dw r _ h2]<;>rfl
section
variable {P:Program}
theorem zcz(hok:ZJ P w H h)(KX:K.In h)(q:SqL K H a xs):∃(its:List Value)(o:Obj)(n:Nat),k4 xs its/\h.get? a=some o/\o.cls=.type "list" /\ o.data=.seq its.toArray n:=by
 rcases q with q|⟨o,its,n,e,hc,_,hd,_,hv⟩
 .obtain⟨_,its,n,hv,e⟩:=(show k9 P w H h a (.lst xs)from q.ok hok)
  exact⟨its,_,n,hv,e,rfl,rfl⟩
 .exact⟨its.toList,o,n,hv,KX _ _ e,hc,by simp[hd]⟩
theorem zcA(hok:ZJ P w H h)(KX:K.In h)(q:S9 K H a xs):∃(its:List Value)(o:Obj)(n:Nat),k4 xs its/\h.get? a=some o/\o.cls=.type "tuple" /\ o.data=.seq its.toArray n:=by
 rcases q with q|⟨o,its,n,e,hc,hd,_,hv⟩
 .obtain⟨_,its,hv,o,e,hc,n,hd⟩:=(show k9 P w H h a (.tup xs)from q.ok hok)
  exact⟨its,o,n,hv,e,hc,hd⟩
 .exact⟨its.toList,o,n,hv,KX _ _ e,hc,by simp[hd]⟩
mutual
theorem Dw.reads(hok:ZJ P w H h)(KX:K.In h):∀(d:WData)(v:V)(u:Value),Dw K H v d->R4 v u->∃as,ReadsW R cl h u d as
 |.none,_,_,x,r=>by
  cases x;cases r;exact⟨_,ReadsW.none⟩
 |.bool b,_,_,x,r=>by
  cases x;cases r;exact⟨_,ReadsW.bool b⟩
 |.int i,_,_,x,r=>by
  cases x;obtain⟨t,rfl⟩:=r;exact⟨_,ReadsW.int i t⟩
 |.str s,_,_,x,r=>by
  cases x;obtain⟨t,rfl⟩:=r;exact⟨_,ReadsW.str s t⟩
 |.bytes b,_,_,x,r=>by
  cases x;obtain⟨t,rfl⟩:=r;exact⟨_,ReadsW.bytes _ t⟩
 |.list ds,_,_,x,r=>by
  cases x with
  |lst hs ha=>
   cases r;obtain⟨its,o,n,rv,ho,hc,hd⟩:=zcz hok KX hs;obtain⟨as,hr⟩:=Dw.readsAll hok KX ds _ its ha rv;exact⟨_,ReadsW.list ho hc hd hr⟩
 |.tuple ds,_,_,x,r=>by
  cases x with
  |tup hs ha=>
   cases r;obtain⟨its,o,n,rv,ho,hc,hd⟩:=zcA hok KX hs;obtain⟨as,hr⟩:=Dw.readsAll hok KX ds _ its ha rv;exact⟨_,ReadsW.tuple ho hc hd hr⟩
 |.float _,_,_,x,_=>by cases x
 |.dict _,_,_,x,_=>by cases x
 |.bytearray _,_,_,x,_=>by cases x
 |.set _,_,_,x,_=>by cases x
 |.frozenset _,_,_,x,_=>by cases x
 |.obj _ _,_,_,x,_=>by cases x
theorem Dw.readsAll(hok:ZJ P w H h)(KX:K.In h):∀(ds:List WData)(vs:List V)(us:List Value),cK K H vs ds->k4 vs us->∃as,ReadsAllW R cl h us ds as
 |[],_,_,x,r=>by
  cases x;cases r;exact⟨_,ReadsAllW.nil⟩
 |d::ds,_,_,x,r=>by
  cases x with
  |cons h1 h2=>
   cases r with
   |cons r1 r2=>
    obtain⟨as,q1⟩:=Dw.reads hok KX d _ _ h1 r1;obtain⟨bs,q2⟩:=Dw.readsAll hok KX ds _ _ h2 r2;exact⟨_,ReadsAllW.cons q1 q2⟩
end
end
mutual
def Qk:WData->Bool
 |.none=>true
 |.bool _=>true
 |.int _=>true
 |.str _=>true
 |.bytes _=>true
 |.list xs=>jR xs
 |.tuple xs=>jR xs
 |_=>false
def jR:List WData->Bool
 |[]=>true
 |x::r=>Qk x&&jR r
end
theorem QZ{α:Type}{f:α->WData}(h:∀a,Qk (f a)=true):∀l:List α,jR (l.map f)=true
 |[]=>rfl
 |x::r=>by
  show(Qk (f x)&&jR (r.map f))=true;rw[h x,QZ h r]<;>rfl
theorem eL:∀(c:Codec)(a:c.denote),Qk (c.enc a)=true
 |.unit,_=>rfl
 |.bool,_=>rfl
 |.int _ _,_=>rfl
 |.nat _ _,_=>rfl
 |.u8,_=>rfl
 |.bytes _ _,_=>rfl
 |.text _ _ _ _,_=>rfl
 |.list _ _ c,a=>QZ (λx=>eL c x) a
 |.pair c d,a=>by
  show(Qk (c.enc a.1)&&(Qk (d.enc a.2)&&true))=true;rw[eL c a.1,eL d a.2]<;>rfl
 |.triple c d e,a=>by
  show(Qk (c.enc a.1)&&(Qk (d.enc a.2.1)&&(Qk (e.enc a.2.2)&&true)))=true;rw[eL c a.1,eL d a.2.1,eL e a.2.2]<;>rfl
 |.option c,none=>rfl
 |.option c,some x=>eL c x
theorem uW:∀(cs:List Codec)(a:Codec.denoteAll cs),jR (Codec.encAll cs a)=true
 |[],_=>rfl
 |c::cs,a=>by
  show(Qk (c.enc a.1)&&jR (Codec.encAll cs a.2))=true;rw[eL c a.1,uW cs a.2]<;>rfl
theorem LM:∀{xs:List WData}{d:WData},d∈xs->d.weight<=WData.weightAll xs
 |[],d,h=>absurd h (by simp)
 |x::r,d,h=>by
  show d.weight<=x.weight+1+WData.weightAll r;rcases S1.mp h with e|m
  .rw[e]
   lia
  .have z:=LM m
   lia
def RZ:Value->V
 |.none=>.non
 |.bool b=>.bl b
 |.int i _=>.int i
 |.str x _=>.str x
 |.bytes b _=>.byt b
 |.ref a=>.ref a
 |_=>.non
def Oo(A:List Addr):Value->Prop
 |.none=>True
 |.bool _=>True
 |.int _ _=>True
 |.str _ _=>True
 |.bytes _ _=>True
 |.ref a=>a∈A
 |_=>False
theorem Oo.mono(h:∀a∈A,a∈B):∀{u:Value},Oo A u->Oo B u:=λ{u} x=>by
 cases u with
 |ref a=>exact h a x
 |none=>trivial
 |bool b=>trivial
 |int i t=>trivial
 |str s t=>trivial
 |bytes b t=>trivial
 |_=>exact False.elim x
theorem Pt{u:Value}(x:Oo A u):R4 (RZ u) u:=by
 cases u with
 |ref a=>rfl
 |none=>rfl
 |bool b=>rfl
 |int i t=>exact⟨t,rfl⟩
 |str s t=>exact⟨t,rfl⟩
 |bytes b t=>exact⟨t,rfl⟩
 |_=>exact False.elim x
theorem vI{A:List Addr}:∀{vs:List Value},(∀u∈vs,Oo A u)->k4 (vs.map RZ) vs
 |[],_=>.nil
 |u::r,h=>.cons (Pt (h u (S4 ..))) (vI λx hx=>h x (o3 _ hx))
def eK(h:Heap)(A:List Addr)(a:Addr):Prop:=∃vs:List Value,vs.length<=sizeLine/\(∀u∈vs,Oo A u)/\
 (h.get? a=some {cls:=.type "list",data:=.seq vs.toArray}\/h.get? a=some {cls:=.type "tuple",data:=.seq vs.toArray})
theorem eK.mono(k:∀a∈A,a∈B)(x:eK h A a):eK h B a:=by
 obtain⟨vs,h1,h2,h3⟩:=x;exact⟨vs,h1,λu hu=>(h2 u hu).mono k,h3⟩
theorem kH{P:Params}{h:Heap}:∀{vs:List Value}{ds:List WData},WellAll P h vs ds->vs.length=ds.length
 |_,_,.nil=>rfl
 |_,_,.cons _ b=>by
  show _+1=_+1;rw[kH b]
theorem vW(x:Well P h v (.list ds)):∃(a:Addr)(vs:List Value),v=.ref a/\h.get? a=some {cls:=.type "list",data:=.seq vs.toArray}/\WellAll P h vs ds:=by
 cases x with
 |list ho qQ=>exact⟨_,_,rfl,ho,qQ⟩
theorem OS(x:Well P h v (.tuple ds)):∃(a:Addr)(vs:List Value),v=.ref a/\h.get? a=some {cls:=.type "tuple",data:=.seq vs.toArray}/\WellAll P h vs ds:=by
 cases x with
 |tuple ho qQ=>exact⟨_,_,rfl,ho,qQ⟩
theorem wW{us:List Value}{d:WData}(x:WellAll P h us (d::ds)):∃(v:Value)(vs:List Value),us=v::vs/\Well P h v d/\WellAll P h vs ds:=by
 cases x with
 |cons a b=>exact⟨_,_,rfl,a,b⟩
theorem Rk{n:Nat}(h:n<=1048576):n<=sizeLine:=d4 h (by decide)
mutual
theorem Qt:∀(d:WData)(v:Value),Well P h v d->Qk d=true->d.weight<=1048576->∃A:List Addr,Oo A v/\∀a∈A,eK h A a
 |.none,_,x,_,_=>by
  cases x;exact⟨[],trivial,λa m=>absurd m (by simp)⟩
 |.bool b,_,x,_,_=>by
  cases x;exact⟨[],trivial,λa m=>absurd m (by simp)⟩
 |.int i,_,x,_,_=>by
  cases x;exact⟨[],trivial,λa m=>absurd m (by simp)⟩
 |.str s,_,x,_,_=>by
  cases x;exact⟨[],trivial,λa m=>absurd m (by simp)⟩
 |.bytes b,_,x,_,_=>by
  cases x;exact⟨[],trivial,λa m=>absurd m (by simp)⟩
 |.list ds,_,x,p,z=>by
  obtain⟨a,vs,rfl,ho,qQ⟩:=vW x;have z2:WData.weightAll ds<=1048576:=z;obtain⟨A,h1,h2⟩:=IN ds _ qQ p λd hd=>d4 (LM hd) z2;have k:∀b∈A,b∈a::A:=λb hb=>o3 _ hb;refine⟨a::A,S4 ..,λb hb=>?_⟩;rcases S1.mp hb with e|m
  .rw[e];exact⟨vs,Rk (by rw[kH qQ];exact d4 (mF ds) z2),λu hu=>(h1 u hu).mono k,.inl ho⟩
  .exact(h2 b m).mono k
 |.tuple ds,_,x,p,z=>by
  obtain⟨a,vs,rfl,ho,qQ⟩:=OS x;have z2:WData.weightAll ds<=1048576:=z;obtain⟨A,h1,h2⟩:=IN ds _ qQ p λd hd=>d4 (LM hd) z2;have k:∀b∈A,b∈a::A:=λb hb=>o3 _ hb;refine⟨a::A,S4 ..,λb hb=>?_⟩;rcases S1.mp hb with e|m
  .rw[e];exact⟨vs,Rk (by rw[kH qQ];exact d4 (mF ds) z2),λu hu=>(h1 u hu).mono k,.inr ho⟩
  .exact(h2 b m).mono k
 |.float _,_,_,p,_=>Bool.noConfusion (show false=true from p)
 |.dict _,_,_,p,_=>Bool.noConfusion (show false=true from p)
 |.bytearray _,_,_,p,_=>Bool.noConfusion (show false=true from p)
 |.set _,_,_,p,_=>Bool.noConfusion (show false=true from p)
 |.frozenset _,_,_,p,_=>Bool.noConfusion (show false=true from p)
 |.obj _ _,_,_,p,_=>Bool.noConfusion (show false=true from p)
theorem IN:∀(ds:List WData)(vs:List Value),WellAll P h vs ds->jR ds=true->(∀d∈ds,d.weight<=1048576)->∃A:List Addr,(∀u∈vs,Oo A u)/\∀a∈A,eK h A a
 |[],_,x,_,_=>by
  cases x;exact⟨[],λu m=>absurd m (by simp),λa m=>absurd m (by simp)⟩
 |d::ds,_,x,p,z=>by
  obtain⟨v,vs,rfl,x1,x2⟩:=wW x;have q:Qk d=true/\jR ds=true:=HB.mp p;obtain⟨A,a1,a2⟩:=Qt d v x1 q.1 (z d (S4 ..));obtain⟨B,b1,b2⟩:=IN ds vs x2 q.2 λe he=>z e (o3 _ he);have kA:∀b∈A,b∈A++B:=λb hb=>N2.mpr (.inl hb);have kB:∀b∈B,b∈A++B:=λb hb=>N2.mpr (.inr hb);refine⟨A++B,λu hu=>?_,λb hb=>?_⟩
  .rcases S1.mp hu with e|m
   .rw[e];exact a1.mono kA
   .exact(b1 u m).mono kB
  .rcases N2.mp hb with m|m
   .exact(a2 b m).mono kA
   .exact(b2 b m).mono kB
end
def Jz(o:Obj):Option HO:=match o.data with
 |.seq vs _=>if (o.cls==Value.type "list")=true then some (.frz o (.lst (vs.toList.map RZ)))else some (.frz o (.tup (vs.toList.map RZ)))
 |_=>none
def uJ(K:Frag)(h:Heap)(A:List Addr):Hp:=λb=>if b∈A then(if (K.lookup b).isNone=true then(h.get? b).bind Jz else none)else none
def SZ(H:Hp):Prop:=∀b,H b=none\/∃o u,H b=some (.frz o u)
theorem TZ(vs:List Value):Jz {cls:=.type "list",data:=.seq vs.toArray}=some (.frz {cls:=.type "list",data:=.seq vs.toArray} (.lst (vs.map RZ))):=by
 show(if (Value.type "list"==Value.type "list")=true then some (HO.frz {cls:=.type "list",data:=.seq vs.toArray} (.lst (vs.toArray.toList.map RZ)))else some (HO.frz {cls:=.type "list",data:=.seq vs.toArray} (.tup (vs.toArray.toList.map RZ))))=_;grind
theorem UZ(vs:List Value):Jz {cls:=.type "tuple",data:=.seq vs.toArray}=some (.frz {cls:=.type "tuple",data:=.seq vs.toArray} (.tup (vs.map RZ))):=by
 show(if (Value.type "tuple"==Value.type "list")=true then some (HO.frz {cls:=.type "tuple",data:=.seq vs.toArray} (.lst (vs.toArray.toList.map RZ)))else some (HO.frz {cls:=.type "tuple",data:=.seq vs.toArray} (.tup (vs.toArray.toList.map RZ))))=_;rw[D0 (by decide)]
section
variable {P:Program}
theorem jS{o:Obj}(hb:b∈A) (hk:K.lookup b=none) (e:h.get? b=some o):uJ K h A b=Jz o:=by
 unfold uJ;rw[K0 hb,hk,K0 (show(none:Option Obj).isNone=true from rfl),e]<;>rfl
theorem Kz{u:HO}(q:uJ K h A b=some u):b∈A/\K.lookup b=none:=by
 unfold uJ at q;by_cases hb:b∈A
 .rw[K0 hb]at q;cases hk:K.lookup b with
  |none=>grind
  |some o=>
   grind
 all_goals grind
theorem kS(ar:∀a∈A,eK h A a){u:HO}(q:uJ K h A b=some u):K.lookup b=none/\∃vs:List Value,vs.length<=sizeLine/\(∀u∈vs,Oo A u)/\
  ((h.get? b=some {cls:=.type "list",data:=.seq vs.toArray}/\u=.frz {cls:=.type "list",data:=.seq vs.toArray} (.lst (vs.map RZ)))\/
   (h.get? b=some {cls:=.type "tuple",data:=.seq vs.toArray}/\u=.frz {cls:=.type "tuple",data:=.seq vs.toArray} (.tup (vs.map RZ)))):=by
 obtain⟨hb,hk⟩:=Kz q;obtain⟨vs,h1,h2,h3⟩:=ar b hb;refine⟨hk,vs,h1,h2,?_⟩;rcases h3 with e|e
 .rw[jS hb hk e,TZ]at q;grind
 .rw[jS hb hk e,UZ]at q;grind
theorem Po(ar:∀a∈A,eK h A a):SZ (uJ K h A):=λb=>by
 cases q:uJ K h A b with
 |none=>grind
 |some u=>
  obtain⟨_,vs,_,_,⟨_,e⟩|⟨_,e⟩⟩:=kS ar q
  all_goals grind
theorem Mz(ar:∀a∈A,eK h A a):ZJ P w (uJ K h A) h:=λb u q=>by
 obtain⟨_,vs,h1,h2,⟨e,rfl⟩|⟨e,rfl⟩⟩:=kS ar q
 .exact⟨e,by rw[B0];exact h1,vs,_,vI h2,e⟩
 .exact⟨e,by rw[B0];exact h1,vs,vI h2,_,e,rfl,_,rfl⟩
theorem zhs(KX:K.In h)(ar:∀a∈A,eK h A a)(ha:a∈A)(e:h.get? a=some {cls:=.type "list",data:=.seq vs.toArray}):(∀u∈vs,Oo A u)/\SqL K (uJ K h A) a (vs.map RZ):=by
 obtain⟨us,h1,h2,h3⟩:=ar a ha;have hu:us=vs:=by
  grind
 subst hu;refine⟨h2,?_⟩;cases hk:K.lookup a with
 |none=>exact .inl (.inr ⟨_,by rw[jS ha hk e,TZ]⟩)
 |some o=>
  have e2:=KX a o hk;rw[e]at e2;obtain rfl:=J0 e2;exact .inr ⟨_,us.toArray,_,hk,rfl,rfl,rfl,by rw[J1];exact h1,by simpa using vI h2⟩
theorem zht(KX:K.In h)(ar:∀a∈A,eK h A a)(ha:a∈A)(e:h.get? a=some {cls:=.type "tuple",data:=.seq vs.toArray}):(∀u∈vs,Oo A u)/\S9 K (uJ K h A) a (vs.map RZ):=by
 obtain⟨us,h1,h2,h3⟩:=ar a ha;have hu:us=vs:=by
  grind
 subst hu;refine⟨h2,?_⟩;cases hk:K.lookup a with
 |none=>exact .inl (.inr ⟨_,by rw[jS ha hk e,UZ]⟩)
 |some o=>
  have e2:=KX a o hk;rw[e]at e2;obtain rfl:=J0 e2;exact .inr ⟨_,us.toArray,_,hk,rfl,rfl,by rw[J1];exact h1,by simpa using vI h2⟩
mutual
theorem zcB{Pm:Params}(KX:K.In h) (ar:∀a∈A,eK h A a):∀(d:WData)(v:Value),Well Pm h v d->Qk d=true->Oo A v->Dw K (uJ K h A) (RZ v) d
 |.none,_,x,_,_=>by
  cases x;exact .non
 |.bool b,_,x,_,_=>by
  cases x;exact .bl b
 |.int i,_,x,_,_=>by
  cases x;exact .int i
 |.str s,_,x,_,_=>by
  cases x;exact .str s
 |.bytes b,_,x,_,_=>by
  cases x;have z:=Dw.byt (K:=K) (H:=uJ K h A) b.toArray;exact z
 |.list ds,_,x,p,hu=>by
  obtain⟨a,vs,rfl,ho,qQ⟩:=vW x;obtain⟨h2,hs⟩:=zhs KX ar hu ho;exact .lst hs (bY KX ar ds _ qQ p h2)
 |.tuple ds,_,x,p,hu=>by
  obtain⟨a,vs,rfl,ho,qQ⟩:=OS x;obtain⟨h2,hs⟩:=zht KX ar hu ho;exact .tup hs (bY KX ar ds _ qQ p h2)
 |.float _,_,_,p,_=>Bool.noConfusion (show false=true from p)
 |.dict _,_,_,p,_=>Bool.noConfusion (show false=true from p)
 |.bytearray _,_,_,p,_=>Bool.noConfusion (show false=true from p)
 |.set _,_,_,p,_=>Bool.noConfusion (show false=true from p)
 |.frozenset _,_,_,p,_=>Bool.noConfusion (show false=true from p)
 |.obj _ _,_,_,p,_=>Bool.noConfusion (show false=true from p)
theorem bY{Pm:Params}(KX:K.In h) (ar:∀a∈A,eK h A a):∀(ds:List WData)(vs:List Value),WellAll Pm h vs ds->jR ds=true->(∀u∈vs,Oo A u)->cK K (uJ K h A) (vs.map RZ) ds
 |[],_,x,_,_=>by
  cases x;exact .nil
 |d::ds,_,x,p,hu=>by
  obtain⟨v,vs,rfl,x1,x2⟩:=wW x;have q:Qk d=true/\jR ds=true:=HB.mp p;exact .cons (zcB KX ar d v x1 q.1 (hu _ (S4 ..))) (bY KX ar ds vs x2 q.2 λu m=>hu u (o3 _ m))
end
end
theorem Qo{P:Program}{mg mb:Str->Option Value}{CX:Pr}{k:Nat}{fa:Addr}{fd:FuncData}{sp:Sp}{s₁:Shared}{cW:List Value}{d0:WData}
 (KX:K.In s₁.heap) (hns:s₁.heap.Ns mainGlobals mg) (hb:s₁.heap.Ns builtinsNs mb) (hbb:∀x:Str,x ≠ "__name__" -> mb x=bootBuiltins x) (zhU:s₁.heap.NoLimit) (hg:s₁.gens=#[])
 (hwl:WellAll w.params s₁.heap cW ds) (xH:jR ds=true) (hwt:∀d∈ds,d.weight<=1048576) (hr:N8 cm k callerA)
 (F:∀base:Heap,K.In base->base.Ns mainGlobals mg->xA P w K mg base CX cm k fa fd ps sp) (zfs:∀(s:Shared)(us:List Value),us.length=ps.length->BindsTo s fd ⟨us,[]⟩ (ps.zip us)) (CC:ds.length=ps.length)
 (hsp:∀(H:Hp)(xs:List V),SZ H->cK K H xs ds->sp xs H (λv H'=>Dw K H' v d0) λ_ _ _=>False)
 (hCX:∀H e s',CX [] H s₁ (λ_ _ _=>False) e s'->False) :
   codeAny (model P w) callerA (.call (.ref fa) ⟨cW,[]⟩) (λr s'=>∃u as,r=.ok (.ret u)/\ReadsW R cl s'.heap u d0 as/\OldK s₁.heap s'.heap/\s'.os=s₁.os/\AllBare s'.gens) s₁:=by
  obtain⟨A,ho,ar⟩:=IN ds cW hwl xH hwt;have hO:SZ (uJ K s₁.heap A):=Po ar;have hok:ZJ P w (uJ K s₁.heap A) s₁.heap:=Mz ar;have hS:=bY KX ar ds cW hwl xH ho;have hV:=vI ho;have hK:∀b u,uJ K s₁.heap A b=some u->K.lookup b=none:=λb u q=>(kS ar q).1;have noA:∀{b:Addr}{o:Obj}{es:Array DictEntry}{ep:Nat},s₁.heap.get? b=some o->o.data=.dict es ep->uJ K s₁.heap A b=none:=λ{b o es ep} e d=>by
   cases q:uJ K s₁.heap A b with
   |none=>rfl
   |some u=>
    obtain⟨_,vs,_,_,⟨e2,_⟩|⟨e2,_⟩⟩:=kS ar q
    .rw[e2]at e;cases e;grind
    .rw[e2]at e;cases e;grind
  generalize uJ K s₁.heap A=H at hO hok hS hK noA;have Rn:∀{b:Addr}{o:Obj},s₁.heap.get? b=some o->H b=none->(HX s₁.heap H).get? b=some o:=λe n=>Ds e n;have nsK:∀{b:Addr}{m:Str->Option Value},s₁.heap.Ns b m->(HX s₁.heap H).Ns b m:=λ{b m} ⟨o,es,ep,e,d,r⟩=>⟨o,es,ep,Rn e (noA e d),d,r⟩
  have nK:∀b o,K.lookup b=some o->H b=none:=λb o e=>by
   cases q:H b with
   |none=>rfl
   |some u=>
    rw[hK b u q]at e;cases e
  have hKb:K.In (HX s₁.heap H):=λb o e=>Rn (KX b o e) (nK b o e);have hM:Mod K mg (HX s₁.heap H):=⟨hKb,nsK hns,⟨mb,nsK hb,hbb⟩,let ⟨mc,h1,h2⟩:=zhU;⟨mc,nsK h1,h2⟩⟩
  have e0:DS P w K mg (HX s₁.heap H) callerA [] s₁ H:=⟨rfl,hM,λb o e=>Oy e,cC (Xn _ _),trivial,λb hb=>absurd (show b∈([]:List Addr)from hb) (by simp),hok,.of_eq hg⟩
  have hl:cW.length=ps.length:=by rw[kH hwl];exact CC
  refine dC ((F _ hKb (nsK hns)).run callerA [] s₁ H ⟨cW,[]⟩ cW (cW.map RZ) _ _ hr e0 (zfs s₁ cW hl) hV (hsp H _ hO hS)) λr s' x=>?_;cases r with
  |error e=>exact(hCX H e s' x).elim
  |ok fl=>
   cases fl with
   |next=>exact False.elim x
   |brk=>exact False.elim x
   |cont=>exact False.elim x
   |ret u=>
    obtain⟨v,H',os,bare,un,zft,r',q⟩:=x;have kept:∀b o,s₁.heap.get? b=some o->s'.heap.get? b=some o:=λb o e=>by
     cases q2:H b with
     |none=>exact un.keep b o e q2 (by intro z;exact absurd (show b∈([]:List Addr)from z) (by simp)) (by simp)
     |some u2=>
      rcases hO b with z|⟨ob,u3,z⟩
      .grind
      .have z2:=un.frzs b ob _ z;obtain⟨e1,_⟩:=hok b _ z;obtain⟨e2,_⟩:=zft b _ z2;grind
    have KX':K.In s'.heap:=λb o e=>kept b o (KX b o e);obtain⟨as,hrd⟩:=Dw.reads (R:=R) (cl:=cl) zft KX' d0 v u q r';exact⟨u,as,rfl,hrd,OldK.of_keep kept,os,bare⟩
theorem QS(h:WData.layableAll ds=true):∀d∈ds,d.weight<=1048576:=λd hd=>
 (PySem.W.layableW_iff.mp (t7.mp h d hd)).2.2
theorem RS:∀(cs:List Codec)(a:Codec.denoteAll cs),(Codec.encAll cs a).length=cs.length
 |[],_=>rfl
 |c::cs,a=>by
  show(Codec.encAll cs a.2).length+1=cs.length+1;rw[RS cs a.2]
theorem Ro{r:OpenSpec}{k:Nat}{q:Program}{Kx:List Str}{XP:(Str->Option Value)->Heap->Prop}{YP:World->Heap->Prop}{d:DefRec}{K:Params->Frag}{CX:World->Pr}{sp:World->Sp}
 (Lx:r.wellSaid=true) (hdf:d.params.defaults=[]) (CC:r.args.length=ps.length) (hr:N8 cm k callerA)
 (hY:∀(w:World)(h:Heap),YP w h->(K w.params).In h)
 (F:∀(w:World)(mg:Str->Option Value)(fa:Addr)(h:Heap),YP w h->(K w.params).In h->h.Ns mainGlobals mg->mg d.name=some (.ref fa)->
 ∃fd:FuncData,(∀(s:Shared)(us:List Value),us.length=ps.length->BindsTo s fd ⟨us,[]⟩ (ps.zip us))/\
 ∀base:Heap,(K w.params).In base->base.Ns mainGlobals mg->xA r.prog w (K w.params) mg base (CX w) cm k fa fd ps (sp w))
 (hsp:∀(w:World)(H:Hp)(xs:List V)(a:Codec.denoteAll r.args),SZ H->Codec.withinAll r.args a=true->Codec.app r.args r.asked a=true->cK (K w.params) H xs (Codec.encAll r.args a)->
 sp w xs H (λv H'=>Dw (K w.params) H' v (r.ret.enc (Codec.app r.args r.f a))) λ_ _ _=>False)
 (hCX:∀(w:World)(H:Hp)(s:Shared)(e:Value)(s':Shared),CX w [] H s (λ_ _ _=>False) e s'->False) :
   WalkOS q Kx XP YP r d [] (λf vs=>PySem.call f vs):=by
  intro w s_0 s₁ mg mb G Y fa o pm cd Nn dV kV ho hd Vr hD hmg hg args cW as zhX zhY hrd hwl hlo;obtain⟨a,e1,e2⟩:=PySem.W.os_pre_some zhX;obtain⟨e3,Ye⟩:=Codec.encAll_of_decAll r.args args a e1;subst e3;have KX:=hY w _ Y;obtain⟨fd,hb,hF⟩:=F w mg fa _ Y KX G.T.g hmg;refine PySem.W.enter_call (dC (Qo (R:=[]) (cl:=classAt s_0.heap) (d0:=r.ret.enc (Codec.app r.args r.f a)) KX G.T.g G.T.b G.T.builtins G.T.nolimit hg hwl (uW _ _) (QS zhY) hr hF hb (by rw[RS];exact CC)
   (λH xs hO hS=>hsp w H xs a hO Ye e2 hS) λH e s'=>hCX w H s₁ e s') λr' s' hq=>?_)
  obtain⟨u,as',rfl,h1,h2,h3,h4⟩:=hq;exact⟨.inl ⟨u,_,as',rfl,λ_=>rfl,h1,(OpenSpec.post_iff Lx Ye _ _).mpr rfl,λz=>Bool.noConfusion (show false=true from z)⟩,h2,h3,h4⟩
end L2
namespace L2
open PySem PySem.Spec PyProof.Rows
variable {a C b L f:Addr}{A:Around}{g:Array GenState}{fr cm:Bool}{X:Cx}{d:Drawn}{env:Env}{e:Expr}{fd:FuncData}{o:HO}{h h' base:Heap}{H H':Hp}{pins Xe:List (Addr×Obj)}{σ:List (Option V)}{body:List Stmt}{N ps:List Str}{us:List Value}{M:Model}{i t:Nat}{dx:Option Addr}{os:OsState}{pos:Pos}{P prog:Program}{R:Result->Shared->Prop}{s:Shared}{sp:Sp}{x EB n:Str}{te:TE}{Q:Unit->Shared->Prop}{tb:Value}{E:Value->Shared->Prop}{w:World}
def xP(C:Addr)(fr:Bool)(dx:Option Addr)(tb:Value)(a:Addr)(h:Heap):Prop:=
 ∃vs sl,h.get? a=some ⟨.ref C,dx,.fields vs,sl⟩/\vs.size=6/\vs[1]?=some tb/\(fr=true->vs[2]?=some .none)
def xO(C:Addr)(fr:Bool)(dx:Option Addr)(tb:Value)(a:Addr):HO:=.ext (xP C fr dx tb a)
def tP(fl:Value)(a:Addr)(h:Heap):Prop:=∃o ts,h.get? a=some o/\o.data=.fields ts/\ts[3]?=some fl
def tO(fl:Value)(a:Addr):HO:=.ext (tP fl a)
def So(H:Hp)(a C:Addr)(fr:Bool)(dx:Option Addr):Prop:=
 H a=some (xO C fr dx .none a)\/∃T fl,T≠a/\H a=some (xO C fr dx (.ref T) a)/\H T=some (tO fl T)
def pG(H:Hp)(a C:Addr)(fr:Bool)(dx:Option Addr)(fl:Value):Prop:=∃T,T≠a/\H a=some (xO C fr dx (.ref T) a)/\H T=some (tO fl T)
theorem pG.live{fl:Value}(l:pG H a C fr dx fl):So H a C fr dx:=let ⟨T,h⟩:=l;.inr ⟨T,fl,h⟩
def ZC(H:Hp):Hp:=λb=>match H b with
 |some (.ext _)=>none
 |o=>o
theorem fL{φ ψ:Heap->Prop}(h:H a=some (.ext φ)\/H a=none):ZC (upd H a (.ext ψ))=ZC H:=by
 funext b;unfold ZC upd;by_cases e:b=a
 .subst e;rw[K0 rfl];rcases h with h|h<;>rw[h]
 .rw[D0 e]
theorem aG(h:ZC H b=some o):H b=some o:=by
 unfold ZC at h;split at h
 .cases h
 .exact h
theorem LD(h:H b=some o)(n:∀φ,o≠.ext φ):ZC H b=some o:=by
 unfold ZC;split
 .rename_i φ e;rw[h]at e;exact absurd (J0 e) (n φ)
 .exact h
section
variable {fl:Value}
theorem Nz(h1 h2:Heap)(p:xP C fr dx tb a h1)(k:∀o,h1.get? a=some o->h2.get? a=some o):xP C fr dx tb a h2:=
 let ⟨vs,sl,e,r⟩:=p;⟨vs,sl,k _ e,r⟩
theorem Oz(h1 h2:Heap)(p:tP fl a h1)(k:∀o,h1.get? a=some o->h2.get? a=some o):tP fl a h2:=
 let ⟨o,ts,e,r⟩:=p;⟨o,ts,k _ e,r⟩
theorem Sk(p:xP C fr dx tb a h):k9 P w H h a (xO C fr dx tb a):=⟨p,let ⟨_,_,e,_⟩:=p;⟨_,e⟩,Nz⟩
theorem Tk(p:tP fl a h):k9 P w H h a (tO fl a):=⟨p,let ⟨_,_,e,_⟩:=p;⟨_,e⟩,Oz⟩
theorem Kg:Of (some (xO C fr dx tb a)):=c9
theorem Lg:Of (some (tO fl a)):=c9
end
section
variable {fl:Value}
theorem V2.xo(I:V2 X pins σ H s)(e:H a=some (xO C fr dx tb a)):xP C fr dx tb a s.heap:=(I.hok a _ e).1
theorem V2.to(I:V2 X pins σ H s)(e:H a=some (tO fl a)):tP fl a s.heap:=(I.hok a _ e).1
theorem VZ(x:ZJ P w H h)(k:∀b u,(∃o,H b=some o)->h.get? b=some u->h'.get? b=some u):ZJ P w H h':=λb u e=>
 (x b u e).stay (λc v hc q=>k c v (by
   rcases hc with z|z
   .exact⟨u,by rw[z];exact e⟩
   .exact⟨_,z⟩) q) (λ_ q=>q) λ_ _ q=>q
theorem V2.slots(I:V2 X pins σ H s)(hs:Heap.SlotsOnly (Pj X.stack) s.heap h'):V2 X pins σ H {s with heap:=h'}:=by
 have fr0:∀b,(∃o,H b=some o)->b∉Pj X.stack:=λb ⟨o,e⟩ z=>by
  rw[I.stkFree b z]at e;cases e
 refine I.call (g':=s.gens) (d':=s.drawn) (t':=s.toks) (ch:=[]) ⟨λb o e _ hb _=>(hs.2.1 b hb).trans e,λb o e _ _ _=>hs.2.2 b o e,λb o _ n _=>n,λb o e _=>?_,λ_ _ q=>q,λ_ _ _ q=>q,λ_ ps q=>⟨#[],by rw[q];simp⟩⟩
  (VZ I.hok λb u hb e=>(hs.2.1 b (fr0 b hb)).trans e) I.bare (λb z=>absurd z (by simp))
 obtain⟨sl,e'⟩:=hs.2.2 b o e;exact⟨_,e'⟩
theorem JN{o:Obj}{vs:Array Value}{x:Value}(e:h.get? a=some o) (d:o.data=.fields vs):(h.update a (Obj.mapFields (·.setIfInBounds i x))).get? a=some {o with data:=.fields (vs.setIfInBounds i x)}:=by
 obtain⟨c,dd,dt,sl⟩:=o;obtain rfl:dt=.fields vs:=d;exact vB _ e rfl
end
section
variable {fl:Value}
theorem Mg{fo:Option Addr}(I:V2 X pins σ H s) (l:pG H a C fr dx fl)
 (h:∀H' s',V2 X pins σ H' s'->ZC H'=ZC H->pG H' a C fr dx (fo.elim .none λf=>rawInt f)->Q () s') :
   wpAny M A (setFlight (.ref a) fo) Q E s:=by
  obtain⟨T,hT,e1,e2⟩:=l;obtain⟨vs,sl,g1,sz,v1,v2⟩:=V2.xo I e1;obtain⟨o,ts,g2,d2,t3⟩:=V2.to I e2;have hsz:3<ts.size:=(G9.mp t3).1;unfold setFlight;refine z0 (K5 g1 rfl v1 ?_);rw[K0 (show(Value.ref T != Value.none)=true from by simp)];refine E9 g2 d2 hsz ?_;have mu:Of (H T):=by rw[e2];exact Lg
  have g3:=JN (i:=3) (x:=fo.elim Value.none λf=>rawInt f) g2 d2;refine h (upd H T (tO _ T)) _ (I.write (x:=T) (e:=T) (t':=s.toks) mu (.inl rfl) (λb u hb q=>?_) ⟨_,g3⟩ (Tk ⟨_,_,g3,rfl,by simp[hsz]⟩)) (fL (φ:=tP fl T) (.inl e2)) ⟨T,hT,?_,C0⟩
  .rw[M5 _ _ (K2 hb)];exact q
  .rw[M0 (K2 hT)];exact e1
theorem Rt{env0:Env}{N7:List Env}{Q:Value->Shared->Prop}(Mf:A.frames=some (env0::N7)) (hl:s.heap.FunFrames base (env0::N7)) (Mx:env0.frame=some L) (hf:env.frame=some L)
 (h:∀h1,Heap.SlotsOnly ((env0::N7).filterMap (·.frame)) s.heap h1->Q (.ref L) {s with heap:=h1}):wpAny M A (PySem.frameOf env) Q E s:=by
  unfold PySem.frameOf;refine z0 (wpAny_frameEnvs Mf ?_);have dw:((env0::N7).dropWhile λx=>x.frame != env.frame)=env0::N7:=by simp[List.dropWhile,hf,Mx]
  rw[dw];unfold frameObject;refine z0 (z0 (wpAny_readyFrames_fun hl λh1 hs1=>S0 ?_));rw[Mx];exact S0 (h h1 hs1)
theorem WZ{head:Value}{b:Bool}{env0:Env}{N7:List Env}(I:V2 X pins σ H s) (Mf:A.frames=some X.stack) (FM:X.stack=env0::N7) (Mx:env0.frame=some L) (hf:env.frame=some L) (e1:H a=some (xO C fr dx tb a))
 (h:∀H' s',V2 X pins σ H' s'->ZC H'=ZC H->pG H' a C fr dx (rawInt L)->Q () s') :
   wpAny M A (do let z <-PySem.frameOf env;let pl <-entryPlaceOf L b;let y <-EntryCells.newEntry head z .none (rawInt L) .none pl;setField (.ref a) 1 y) Q E s:=by
  have hl:=I.stack;rw[FM]at hl Mf;refine z0 (Rt Mf hl Mx hf λh1 hs1=>?_);have I1:V2 X pins σ H {s with heap:=h1}:=V2.slots I (by rw[FM];exact hs1);refine z0 (wpAny_entryPlaceOf λpl xH=>?_);unfold EntryCells.newEntry newFields;refine z0 (F5 ?_ (xH.sizeOk5 _ _ _ _ _));have gT:=X1 h1 (o:={cls:=.type "traceback",dict:=none,data:=.fields ([head,.ref L,.none,rawInt L,.none]++(if pl.isEmpty then List.replicate 6 Value.none else pl)).toArray}) rfl;have hn:H h1.objs.size=none:=I1.hok.fresh (j1 _);have I2:=I1.laid (t':=s.toks) (a:=h1.objs.size) (o:=tO (rawInt L) h1.objs.size) (λb u e=>U0 _ e) (j1 _)
   (Tk ⟨_,_,gT,rfl,by simp⟩)
  have ne:a≠h1.objs.size:=C1 e1 hn;have e2:upd H h1.objs.size (tO (rawInt L) h1.objs.size) a=some (xO C fr dx tb a):=by
   rw[M0 ne];exact e1
  obtain⟨vs,sl,g1,sz,v1,v2⟩:=V2.xo I2 e2;refine E9 g1 rfl (by lia) ?_;have mu:Of (upd H h1.objs.size (tO (rawInt L) h1.objs.size) a):=by rw[e2];exact Kg
  have g3:=JN (i:=1) (x:=Value.ref h1.objs.size) g1 rfl;refine h (upd (upd H h1.objs.size (tO (rawInt L) h1.objs.size)) a (xO C fr dx (.ref h1.objs.size) a)) _
   (I2.write (x:=a) (e:=a) (t':=s.toks) mu (.inl rfl) (λb u hb q=>?_) ⟨_,g3⟩ (Sk ⟨_,sl,g3,by simp[sz],by simp[sz],λz=>?_⟩))
   ((fL (φ:=xP C fr dx tb a) (.inl e2)).trans (fL (φ:=λ_=>True) (.inr hn))) ⟨h1.objs.size,K2 ne,C0,?_⟩
  .rw[M5 _ _ (K2 hb)];exact q
  .rw[uA (by decide)];exact v2 z
  .rw[M0 (K2 ne)];exact C0
theorem lS{env0:Env}{N7:List Env}(I:V2 X pins σ H s) (Mf:A.frames=some X.stack) (FM:X.stack=env0::N7) (Mx:env0.frame=some L) (hf:env.frame=some L) (l:So H a C fr dx)
 (h:∀H' s',V2 X pins σ H' s'->ZC H'=ZC H->pG H' a C fr dx (rawInt L)->Q () s') :
   wpAny M A (noteFrame (.ref a) env) Q E s:=by
  unfold noteFrame;simp only[hf];rcases l with e1|⟨T,fl,hT,e1,e2⟩
  .obtain⟨vs,sl,g1,sz,v1,v2⟩:=V2.xo I e1;refine z0 (K5 g1 rfl v1 ?_);rw[D0 (by decide)];exact WZ I Mf FM Mx hf e1 h
  .obtain⟨vs,sl,g1,sz,v1,v2⟩:=V2.xo I e1;obtain⟨o,ts,g2,d2,t3⟩:=V2.to I e2;have hsz:3<ts.size:=(G9.mp t3).1;refine z0 (K5 g1 rfl v1 ?_);rw[K0 (show(Value.ref T != Value.none)=true from by simp)];refine z0 (K5 g2 d2 t3 ?_);by_cases hfl:(fl==rawInt L)=true
   .rw[K0 hfl];obtain rfl:=eq_of_beq hfl;exact S0 (h H s I rfl ⟨T,hT,e1,e2⟩)
   .rw[D0 hfl];refine z0 (E9 g2 d2 hsz ?_);have mu:Of (H T):=by rw[e2];exact Lg
    have g3:=JN (i:=3) (x:=Value.none) g2 d2;have I1:=I.write (x:=T) (e:=T) (t':=s.toks) mu (.inl rfl) (h':=s.heap.update T (Obj.mapFields (·.setIfInBounds 3 .none))) (o:=tO .none T)
     (λb u hb q=>by rw[M5 _ _ (K2 hb)];exact q) ⟨_,g3⟩ (Tk ⟨_,_,g3,rfl,by simp[hsz]⟩)
    have e3:upd H T (tO .none T) a=some (xO C fr dx (.ref T) a):=by
     rw[M0 (K2 hT)];exact e1
    exact WZ I1 Mf FM Mx hf e3 λH' s' I' m l'=>h H' s' I' (m.trans (fL (φ:=tP fl T) (.inl e2))) l'
theorem XZ{env0:Env}{N7:List Env}(I:V2 X pins σ H s) (Mf:A.frames=some X.stack) (FM:X.stack=env0::N7) (Mx:env0.frame=some L) (hf:env.frame=some L) (l:So H a C fr dx)
 (h:∀H' s',V2 X pins σ H' s'->ZC H'=ZC H->pG H' a C fr dx .none->Q () s') :
   wpAny M A (noteFrame (.ref a) env) (λ_ s1=>wpAny M A (setFlight (.ref a) none) Q E s1) E s:=
  lS I Mf FM Mx hf l λH1 s1 I1 m1 l1=>Mg I1 l1 λH2 s2 I2 m2 l2=>h H2 s2 I2 (m2.trans m1) l2
theorem Ng{env0:Env}{N7:List Env}(I:V2 X pins σ H s) (Mf:A.frames=some X.stack) (FM:X.stack=env0::N7) (Mx:env0.frame=some L) (hf:env.frame=some L) (l:So H a C fr dx)
 (h:∀H' s',V2 X pins σ H' s'->ZC H'=ZC H->pG H' a C fr dx .none->Q () s') :
   wpAny M A (leaving env (.ref a)) Q E s:=by
  unfold leaving;exact z0 (XZ I Mf FM Mx hf l h)
end
def kR(P:Program)(w:World):Pr:=λouter H s E e s'=>∃a C fr dx H',e=.ref a/\s'.os=s.os/\AllBare s'.gens/\Un (Pj outer) [] H H' s.heap s'.heap/\ZJ P w H' s'.heap/\So H' a C fr dx/\E (C,fr) dx (ZC H')
abbrev WX:=St->XK
variable {W:WX}
structure GC(X:Cx)(W:WX):Prop where
 th:∀(pins:List (Addr×Obj))(σ:St)(H:Hp)(s:Shared)(a C:Addr)(fr:Bool)(dx:Option Addr),V2 X pins σ H s->So H a C fr dx->W σ (C,fr) dx (ZC H)->X.xe (.ref a) s
 po:PassesOwn (model X.prog X.w) X.A X.env X.xe
theorem GC.passes(t:GC X W):uB (kR X.prog X.w) X W:=λpins σ H s e s' I ⟨a,C,fr,dx,H',he,os,bare,un,hok,l,q⟩=>by
 subst he;exact t.th pins σ H' s' a C fr dx (I.call' os un hok bare (λb z=>absurd z (by simp))) l q
section
variable {K:Frag}{mg:Str->Option Value}
theorem O1{scope:Scope}{cd:Value}{outer:List Env}{E:XK} :
  GC (CZ (kR P w) cm P w K mg base N EB scope f cd A outer s H E) (λ_=>E):=by
 refine⟨λpins σ H1 s1 a C fr dx I l q=>?_,?_⟩
 .exact Ng (X:=CZ (kR P w) cm P w K mg base N EB scope f cd A outer s H E) I I.ok.frames rfl rfl rfl l λH2 s2 I2 m2 l2=>
   ⟨a,C,fr,dx,H2,rfl,I2.os,I2.bare,I2.base,I2.hok,l2.live,by rw[m2];exact q⟩
 .exact PassesOwn.leaving (Q₁:=λe s''=>kR P w outer H s E e s'') (E₁:=λe s''=>kR P w outer H s E e s'')
theorem Fun.kk{st:Stmt}{k:Nat}(F:Fun K x EB st f fd) (S:CD N ps (Z3 st))
 (On:∀(H:Hp)(vs:List V)(Q:VK)(E:XK),sp vs H Q E->
 vs.length=ps.length/\∀{cV:Value}{A:Around}{outer:List Env}{s:Shared},N8 cm k (A.deeper (envOfC EB (Z3 st) s.heap.objs.size f cV))->∃t,Nr (CZ (kR P w) cm P w K mg base N EB (Z3 st) f cV A outer s H E) (KD st) t/\t {nx:=λ_ H'=>Q .non H',rt:=Q} (start N vs) H):xA P w K mg base (kR P w) cm (k+1) f fd ps sp:=by
  obtain⟨oc,od,kV,Nn,pm,an,cV,ct,osl,rfl,lk,Vr⟩:=F.ex;exact zew lk Vr S (λvs H Q E h=>(On H vs Q E h).1) λA outer s H vs Q E hr h=>(On H vs Q E h).2 hr
end
theorem N8.mo{j k:Nat}(r:N8 cm k A) (h:j<=k:=by decide):N8 cm j A:=r.mono h
section
variable {HK:Pos}{sc:Scope}
theorem RC(i:Nat)(S:CD X.N ps sc)(he:PE X e te)(hi:X.N[i]?=some x:=by rfl)(hx:Loc X.env.scope x:=by first|exact .inl rfl|exact .inr rfl)(hs:swapsWith e (some (.Name x HK)) pos.line X.env=pure false:=by rfl)(hf:X.fn x=true\/X.env.scope.names.lookup x=some .local:=by first|exact .inl rfl|exact .inr rfl|assumption):PS X (.Assign [.Name x HK] e pos) (Ry te (aH i)):=zb9 S.nd hi hx he hs hf
theorem SE(i:Nat)(S:CD X.N ps sc)(hi:X.N[i]?=some x:=by rfl)(hx:Loc X.env.scope x:=by first|exact .inl rfl|exact .inr rfl)(hf:X.fn x=true\/X.env.scope.names.lookup x=some .local:=by first|exact .inl rfl|exact .inr rfl|assumption):PG X (.Name x pos) (aH i):=Qy S.nd hi hx hf
theorem qG{n:Int}{t:Tok}(hm:X.mg x=some (.int n t)) (hg:Gl X x:=by rfl) (hd:(x==("__debug__": Str))=false:=by decide):PE X (.Name x pos) (tC (.int n)):=aC hg hm ⟨_,rfl⟩ hd
theorem psa{op:Operator}{ti:TIp}(i:Nat) (S:CD X.N ps sc) (he:PE X e te) (ho:PIp X op ti) (hi:X.N[i]?=some x:=by rfl) (hx:Loc X.env.scope x:=by first|exact .inl rfl|exact .inr rfl) (hf:X.fn x=true\/X.env.scope.names.lookup x=some .local:=by first|exact .inl rfl|exact .inr rfl|assumption):PS X (.AugAssign (.Name x HK) op e pos) (zeo i te ti):=zca S.nd hi hx he ho hf
end
structure To(K:Frag)(C:Addr):Prop where
 base:mroIn K C (.type "BaseException")=some true
 ty:typeIn K (.ref C)=some (.type "type")
inductive Uk(K:Frag)(W:WX)(σ:St)(x:V)(H1:Hp):Prop
 |mk (a C dx:_):x=.ref a->H1 a=some (xO C true dx .none a)->To K C->W σ (C,true) dx (ZC H1)->Uk K W σ x H1
def cY(K:Frag)(W:WX)(te:TE):TS:=λu0' σ H=>te σ H (Uk K W σ)
theorem SS(tk:GC X W)(hc:X.calm=true)(he:PE X e te):PS X (.Raise (some e) none pos) (cY X.K W te):=by
 intro pins s σ H D I h;show wpAny _ X.A (do standAt pos;raiseStmt X.env (some (do let v <-eval e X.env;standAt pos;pure v)) none) _ X.xe s;refine z0 (lA ?_);unfold raiseStmt;dsimp only;refine z0 (z0 (i8 (he pins s σ H _ I h) λv s1 ⟨x,H1,I1,rx,a,C,dx,ex,ea,er,q⟩=>z0 (lA (S0 ?_))));subst ex;obtain rfl:v=Value.ref a:=rx;obtain⟨vs,sl,g1,sz,v1,v2⟩:=I1.xo ea;have nt:∀{Q':Bool->Shared->Prop},Q' false s1->wpAny (model X.prog X.w) X.A (isType (.ref a)) Q' X.xe s1:=by
  intro Q' hq;simp only[isType,loadHead];exact z0 (EA g1 (S0 hq))
 have ty:Looks (model X.prog X.w) s1.heap (typeOf (.ref a)) (.ref C):=(C9 g1).andThen .now;have sb:Looks (model X.prog X.w) s1.heap (isSubtype (.ref C) (.type "BaseException")) true:=AA I1.kIn er.base;have tt:Looks (model X.prog X.w) s1.heap (typeOf (.ref C)) (.type "type"):=looks_typeIn I1.kIn er.ty;refine z0 (S0 ?_);dsimp only;refine z0 (T5 ?_);unfold excFromValue isExcClass;refine z0 (z0 (nt ?_));simp only[i3,l7];refine S0 ?_;simp only[i3,l7];unfold isInstance;refine z0 (z0 (ty.here (sb.here ?_)));simp only[QF];refine S0 ?_;refine z0 (nt ?_);simp only[i3,l7];unfold raisedInstance;refine z0 (z0 (ty.here (z0 (tt.here ?_))));rw[K0 (by decide)];refine S0 ?_;unfold setFlight raiseNew;refine z0 (z0 (K5 g1 rfl v1 ?_));rw[D0 (by decide)];refine S0 (z0 (EH ?_));rw[I1.ok.hd hc];have fin:X.xe (.ref a) s1:=tk.th pins σ H1 s1 a C true dx I1 (.inl ea) q
 first
  |exact tD fin
  |exact z0 (S0 (tD fin))
theorem qV:entryFor table "proto.unchain"= some Builtin.«proto.unchain»:=entryFor_of_fast (by kernel_rfl)
theorem dY{x:Value}{fr':Bool}(I:V2 X pins σ H s) (e:H a=some (xO C fr dx tb a)) (hi:i<6) (h1:i≠1) (h2:fr'=true->fr=true/\i≠2)
 (h:∀s',V2 X pins σ (upd H a (xO C fr' dx tb a)) s'->Q () s'):wpAny M A (setField (.ref a) i x) Q E s:=by
  obtain⟨vs,sl,g1,sz,v1,v2⟩:=I.xo e;refine E9 g1 rfl (by lia) ?_;have mu:Of (H a):=by rw[e];exact Kg
  have g3:=JN (i:=i) (x:=x) g1 rfl;refine h _ (I.write (x:=a) (e:=a) (t':=s.toks) mu (.inl rfl) (λb u hb q=>?_) ⟨_,g3⟩ (Sk ⟨_,sl,g3,by simp[sz],?_,λz=>?_⟩))
  .rw[M5 _ _ (K2 hb)];exact q
  .rw[uA h1];exact v1
  .rw[uA (h2 z).2];exact v2 (h2 z).1
inductive YZ(K:Frag)(W:WX)(b:Addr)(σ:St)(x:V)(y:V)(H2:Hp):Prop
 |mk (a C dx Cb dxb tbb:_):x=.ref a->y=.ref b->a≠b->H2 a=some (xO C true dx .none a)->H2 b=some (xO Cb true dxb tbb b)->To K C->To K Cb->W σ (C,false) dx (ZC H2)->YZ K W b σ x y H2
def Vk(K:Frag)(W:WX)(b:Addr)(te tc:TE):TS:=λu0' σ H=>te σ H λx H1=>tc σ H1 (YZ K W b σ x)
section
variable {c:Expr}{tc:TE}
theorem Uo(tk:GC X W)(hh:X.A.handled=some (.ref b))(he:PE X e te)(hcs:PE X c tc):PS X (.Raise (some e) (some c) pos) (Vk X.K W b te tc):=by
 intro pins s σ H D I h;show wpAny _ X.A (do standAt pos;raiseStmt X.env (some (do let v <-eval e X.env;standAt pos;pure v)) (some (do let v <-eval c X.env;standAt pos;pure v))) _ X.xe s;refine z0 (lA ?_);unfold raiseStmt;dsimp only;refine z0 (z0 (i8 (he pins s σ H _ I h) λv s0 ⟨x,H0,I0,rx,q0⟩=>z0 (lA (S0 ?_))));refine z0 (T5 (z0 (i8 (hcs pins s0 σ H0 _ I0 q0) λu s1 ⟨y,H1,I1,ry,a,C,dx,Cb,dxb,tbb,ex,ey,nab,ea,eb,er,erb,q⟩=>z0 (lA (S0 ?_)))));subst ex ey;obtain rfl:v=Value.ref a:=rx;obtain rfl:u=Value.ref b:=ry;have nt:∀{z:Addr}{Cz:Addr}{fz:Bool}{dz:Option Addr}{tz:Value}{Q':Bool->Shared->Prop},H1 z=some (xO Cz fz dz tz z)->Q' false s1->wpAny (model X.prog X.w) X.A (isType (.ref z)) Q' X.xe s1:=by
  intro z Cz fz dz tz Q' ez hq;obtain⟨_,_,g,_⟩:=I1.xo ez;simp only[isType,loadHead];exact z0 (EA g (S0 hq))
 have ofv:∀{z:Addr}{Cz:Addr}{fz:Bool}{dz:Option Addr}{tz:Value}{w:String}{Q':Value->Shared->Prop},H1 z=some (xO Cz fz dz tz z)->To X.K Cz->Q' (.ref z) s1->wpAny (model X.prog X.w) X.A (excFromValue (.ref z) w) Q' X.xe s1:=by
  intro z Cz fz dz tz w Q' ez rz hq;obtain⟨_,_,g,_⟩:=I1.xo ez;have ty:Looks (model X.prog X.w) s1.heap (typeOf (.ref z)) (.ref Cz):=(C9 g).andThen .now;have sb:Looks (model X.prog X.w) s1.heap (isSubtype (.ref Cz) (.type "BaseException")) true:=AA I1.kIn rz.base;unfold excFromValue isExcClass;refine z0 (z0 (nt ez ?_));simp only[i3,l7];refine S0 ?_;simp only[i3,l7];unfold isInstance;refine z0 (z0 (ty.here (sb.here ?_)));simp only[QF];exact S0 hq
 refine z0 (S0 ?_);refine z0 (T5 (ofv ea er ?_));dsimp only;rw[D0 (by simp)];refine z0 (T5 (ofv eb erb ?_));refine z0 (dY (fr':=true) I1 ea (by decide) (by decide) (λ_=>⟨rfl,by decide⟩) λs2 I2=>?_);refine z0 (dY (fr':=true) I2 C0 (by decide) (by decide) (λ_=>⟨rfl,by decide⟩) λs3 I3=>?_);rw[V4]at I3;have e3:upd H1 a (xO C true dx .none a) a=some (xO C true dx .none a):=C0;have eb3:upd H1 a (xO C true dx .none a) b=some (xO Cb true dxb tbb b):=by
  rw[M0 (K2 nab)];exact eb
 obtain⟨vs,sl,g1,sz,v1,v2⟩:=I3.xo e3;have ty:Looks (model X.prog X.w) s3.heap (typeOf (.ref a)) (.ref C):=(C9 g1).andThen .now;have tt:Looks (model X.prog X.w) s3.heap (typeOf (.ref C)) (.type "type"):=looks_typeIn I3.kIn er.ty;have nt3:∀{Q':Bool->Shared->Prop},Q' false s3->wpAny (model X.prog X.w) X.A (isType (.ref a)) Q' X.xe s3:=by
  intro Q' hq;simp only[isType,loadHead];exact z0 (EA g1 (S0 hq))
 refine z0 (nt3 ?_);simp only[i3,l7];unfold raisedInstance;refine z0 (z0 (ty.here (z0 (tt.here ?_))));rw[K0 (by decide)];refine S0 ?_;unfold setFlight raiseNew;refine z0 (z0 (K5 g1 rfl v1 ?_));rw[D0 (by decide)];refine S0 (z0 (EH ?_));rw[hh];dsimp only;rw[K0 (show(Value.ref b != Value.ref a)=true by simp[K2 nab])];obtain⟨ws,sl',g2,sz',w1,w2⟩:=I3.xo eb3;refine z0 (T5 (wpAny_runValue (nF qV ?_)));unfold Builtin.«proto.unchain»;dsimp only;refine z0 (K5 g2 rfl (w2 rfl) ?_);rw[K0 (by decide)];refine S0 ?_;refine z0 ?_;show wpAny _ _ (setField (.ref a) 2 (.ref b)) _ _ _;refine dY (fr':=false) I3 e3 (by decide) (by decide) (λz=>nomatch z) λs4 I4=>?_;rw[V4]at I4;have fin:X.xe (.ref a) s4:=tk.th pins σ _ s4 a C false dx I4 (.inl C0) (by rw[show ZC (upd H1 a (xO C false dx .none a))=ZC H1 from fL (φ:=xP C true dx .none a) (.inl ea)];exact q)
 first
  |exact tD fin
  |exact z0 (S0 (tD fin))
end
abbrev Cx.sub(X:Cx)(A':Around)(cm:Bool)(pn':List (Addr×Obj))(xe':Value->Shared->Prop):Cx:={X with A:=A',calm:=cm,pn:=pn',xe:=xe'}
section
variable {A':Around}{xe':Value->Shared->Prop}
theorem V2.into(I:V2 X pins σ H s)(hA:A'.frames=X.A.frames)(hc:cm=true->A'.handled=none):V2 (X.sub A' cm (X.pn++pins) xe') [] σ H s:=
 ⟨⟨I.ok.mod,I.ok.kind,I.ok.glob,I.ok.blt,I.ok.above,I.ok.inj,I.ok.has,I.ok.cab,hc,hA.trans I.ok.frames,I.ok.stk,I.ok.exf,I.ok.bs,I.ok.bsz,I.ok.noex,I.ok.exfs,I.ok.funs,I.ok.frf⟩,I.os,I.bare,I.base,I.loc,I.cell,I.free,I.freeC,
   λp hp=>I.pin p (by simpa using hp),I.hok,I.len⟩
theorem V2.back(ok:X.Ok)(I:V2 (X.sub A' cm (X.pn++pins) xe') Xe σ H s):V2 X pins σ H s:=
 ⟨ok,I.os,I.bare,I.base,I.loc,I.cell,I.free,I.freeC,λp hp=>I.pin p (n6 _ hp),I.hok,I.len⟩
theorem SP.back{D:MK}{f:Flow}{s':Shared}(ok:X.Ok) (h:SP (X.sub A' cm (X.pn++pins) xe') Xe D f s'):SP X pins D f s':=by
 cases f with
 |next=>obtain⟨a,b,I,q⟩:=h;exact⟨a,b,I.back ok,q⟩
 |brk=>obtain⟨a,b,I,q⟩:=h;exact⟨a,b,I.back ok,q⟩
 |cont=>obtain⟨a,b,I,q⟩:=h;exact⟨a,b,I.back ok,q⟩
 |ret u=>obtain⟨v,a,b,I,r,q⟩:=h;exact⟨v,a,b,I.back ok,r,q⟩
theorem Vo{v:V}(I:V2 X pins σ H s) (hN:X.N.Nodup) (hi:X.N[i]?=some n) (hk:X.env.scope.names.lookup n=some .local) (hv:σ[i]?=some (some v))
 (h:∀s',V2 X pins (σ.set i none) H s'->Q () s'):wpAny M A (unbindBehindTheSuite X.env n pos) Q E s:=by
  obtain⟨m,hn,hl⟩:=id I.loc;obtain⟨u,ru,lu⟩:=hl i n v hi hv (.inl hk);have hm:m n=some u:=by
   rcases lu with⟨_,z⟩|⟨z,_⟩
   .exact z
   .have z':X.env.scope.names.lookup n=some .cell\/X.env.scope.names.lookup n=some .free:=z;rw[hk]at z';rcases z' with q|q<;>cases q
  have zdm:(X.env.scope.kind == .class||(X.env.scope.kind == .module&&X.env.locals != X.env.globals))=false:=by rw[I.ok.kind];rfl
  unfold unbindBehindTheSuite;refine wpAny_onRaise (wpAny_unbindName_local hk hn hm zdm λh' u' hn' hs=>h _ ?_);have ltL:∀b o,X.s_0.heap.get? b=some o->b≠X.env.locals:=λb o e=>j3 (O2 (F2 e) I.ok.above);refine⟨I.ok,I.os,I.bare,⟨λb o e n' hb hx=>?_,λb o e n' hb hx=>?_,I.base.free,λb o e hx=>?_,I.base.tups,I.base.frzs,I.base.tbls⟩,⟨_,hn',λj y w e1 e2 e3=>?_⟩,λy c e=>?_,I.free,I.freeC,λp hp=>?_,?_,by simpa using I.len⟩
  .exact(hs.2 b (ltL b o e)).trans (I.base.keep b o e n' hb hx)
  .obtain⟨sl,e1⟩:=I.base.slot b o e n' hb hx;exact⟨sl,(hs.2 b (ltL b o e)).trans e1⟩
  .obtain⟨o',e1⟩:=I.base.there b o e hx;exact⟨o',(hs.2 b (ltL b o e)).trans e1⟩
  .by_cases hj:j=i
   .subst hj;rw[K6 (N0.mp hv).1]at e2;cases e2
   .rw[S8 (K2 hj)]at e2;obtain⟨u2,r2,q⟩:=hl j y w e1 e2 e3;refine⟨u2,r2,?_⟩;rcases q with⟨k,e⟩|⟨k,c,e,z⟩
    .refine .inl ⟨k,?_⟩;have ny:y≠n:=λe=>hj (sN hN e1 (e ▸ hi));simp[ny,e]
    .exact .inr ⟨k,c,e,z.sameBut hs (I.cne y c e)⟩
  .obtain⟨w',z⟩:=I.cell y c e;exact⟨w',z.sameBut hs (I.cne y c e)⟩
  .obtain⟨e,n',ne,nf,d⟩:=I.pin p hp;exact⟨(hs.2 p.1 ne).trans e,n',ne,nf,d⟩
  .refine VZ I.hok λb u2 ⟨o,hb⟩ e=>(hs.2 b λz=>?_).trans e;rw[z,I.free]at hb;cases hb
theorem KN(I:V2 X pins σ H s)(hN:X.N.Nodup)(hi:X.N[i]?=some n)(hk:X.env.scope.names.lookup n=some .local)
 (h:∀s',V2 X pins (σ.set i none) H s'->Q () s'):wpAny M A (do bindName X.env n .none;unbindBehindTheSuite X.env n pos) Q E s:=by
  have hl:i<σ.length:=by rw[I.len];exact(N0.mp hi).1
  refine z0 (wpAny_bindName (LK (v:=V.non) I hN hi (.inl hk) rfl (λs1 I1=>?_) (.inr hk)));refine Vo (v:=V.non) I1 hN hi hk (by rw[K6 hl]) λs2 I2=>?_;rw[List.set_set]at I2;exact h s2 I2
end
abbrev HR:=Addr->Addr->Bool->Option Addr->MK->St->Hp->Prop
def PH(X:Cx)(hs:List ExceptHandler)(t:HR):Prop:=
 ∀(pins:List (Addr×Obj))(s:Shared)(σ:St)(H:Hp)(D:MK)(a C:Addr)(fr:Bool)(dx:Option Addr),V2 X pins σ H s->pG H a C fr dx .none->t a C fr dx D σ H->
  wpAny (model X.prog X.w) X.A (handleBy (.ref a) X.env hs) (SP X pins D) X.xe s
section
variable {fl:Value}
theorem Tt(h:H a=some o):upd H a o=H:=by
 funext b;by_cases e:b=a
 .subst e;rw[C0,h]
 .rw[M0 e]
theorem Ut(I:V2 X pins σ H s)(l:pG H a C fr dx .none)(h:∀s',V2 X pins σ H s'->Q () s'):wpAny M A (setFlight (.ref a) none) Q E s:=by
 obtain⟨T,hT,e1,e2⟩:=l;obtain⟨vs,sl,g1,sz,v1,v2⟩:=V2.xo I e1;obtain⟨o,ts,g2,d2,t3⟩:=V2.to I e2;have hsz:3<ts.size:=(G9.mp t3).1;unfold setFlight;refine z0 (K5 g1 rfl v1 ?_);rw[K0 (show(Value.ref T != Value.none)=true from by simp)];refine E9 g2 d2 hsz ?_;have mu:Of (H T):=by rw[e2];exact Lg
 have g3:=JN (i:=3) (x:=Value.none) g2 d2;have I':=I.write (x:=T) (e:=T) (t':=s.toks) mu (.inl rfl) (h':=s.heap.update T (Obj.mapFields (·.setIfInBounds 3 .none))) (o:=tO .none T)
  (λb u hb q=>by rw[M5 _ _ (K2 hb)];exact q) ⟨_,g3⟩ (Tk ⟨_,_,g3,rfl,by simp[hsz]⟩)
 rw[Tt e2]at I';exact h _ I'
theorem oP{α:Type}{zh2:String}{Q:α->Shared->Prop}(I:V2 X pins σ H s) (l:pG H a C fr dx fl)
 (h:∀H' s',V2 X pins σ H' s'->ZC H'=ZC H->pG H' a C fr dx (env.frame.elim .none λf=>rawInt f)->E (.ref a) s'):wpAny M A (PySem.passOn zh2 (.ref a) env:Sem α) Q E s:=by
  have l':=l;obtain⟨T,hT,e1,e2⟩:=l;obtain⟨vs,sl,g1,sz,v1,v2⟩:=I.xo e1;unfold PySem.passOn;refine z0 (K5 g1 rfl v1 ?_);rw[D0 (by simp)];exact z0 (Mg I l' λH' s' I' m' l2=>tD (h H' s' I' m' l2))
theorem Pz(I:V2 X pins σ H s)(l:pG H a C fr dx fl)
 (h:∀H' s',V2 X pins σ H' s'->ZC H'=ZC H->pG H' a C fr dx (env.frame.elim .none λf=>rawInt f)->E (.ref a) s'):cameBackBy M A env E (.ref a) s:=by
  have l':=l;obtain⟨T,hT,e1,e2⟩:=l;obtain⟨vs,sl,g1,sz,v1,v2⟩:=I.xo e1;unfold cameBackBy;refine z0 (K5 g1 rfl v1 ?_);rw[D0 (by simp)];exact Mg I l' λH' s' I' m' l2=>h H' s' I' m' l2
end
def zhu(W:WX):HR:=λ_ C fr dx _ σ H=>W σ (C,fr) dx (ZC H)
def hAs(K:Frag)(C':Addr)(i:Nat)(ts:Addr->TS)(tr:HR):HR:=λa C fr dx D σ H=>∃b,exmOne K (.ref C) (.ref C')=some b/\
 if b=true then ts a {nx:=λσ' H'=>D.nx (σ'.set i none) H',rt:=D.rt,bk:=λσ' H'=>D.bk (σ'.set i none) H',ct:=λσ' H'=>D.ct (σ'.set i none) H'} (σ.set i (some (.ref a))) H else tr a C fr dx D σ H
theorem Og(tk:GC X W):PH X [] (zhu W):=by
 intro pins s σ H D a C fr dx I l h;refine wpAny_handleBy_nil (oP I l λH' s' I' m' l'=>tk.th pins σ H' s' a C fr dx I' l'.live ?_);rw[m'];exact h
theorem Vt{np:Pos}{b0:Stmt}{N7:List ExceptHandler}{C':Addr}{ts:Addr->TS}{tr:HR}(tk:GC X W) (FM:X.stack=X.env::X.outer) (hf:X.env.frame=some X.env.locals) (hN:X.N.Nodup) (hi:X.N[i]?=some n) (hk:X.env.scope.names.lookup n=some .local)
 (hg:Gl X x) (hm:X.mg x=some (.ref C'))
 (zfw:∀(a:Addr)(pn:List (Addr×Obj))(xe:Value->Shared->Prop),GC (X.sub (X.A.mark (some (.ref a))) false pn xe) (λσ=>W (σ.set i none))->Nr (X.sub (X.A.mark (some (.ref a))) false pn xe) (b0::body) (ts a))
 (hr:PH X N7 tr) (hd:(x==("__debug__": Str))=false:=by decide):PH X (.ExceptHandler (some (.Name x np)) (some n) (b0::body) pos::N7) (hAs X.K C' i ts tr):=by
  intro pins s σ H D a C fr dx I l h;obtain⟨b,hb,h⟩:=h;have frm:(X.A.mark (some (.ref a))).frames=X.A.frames:=rfl;have noH:false=true->(X.A.mark (some (.ref a))).handled=none:=λz=>nomatch z;refine wpAny_handleBy_cons (codeAny_handlers_test ?_) (by intro q;cases q);have I0:V2 (X.sub (X.A.mark (some (.ref a))) false (X.pn++pins) (λ_ _=>False)) [] σ H s:=I.into frm noH;refine ZG (X:=X.sub (X.A.mark (some (.ref a))) false (X.pn++pins) (λ_ _=>False)) I0 hg hm ?_ hd;obtain⟨T,hT,e1,e2⟩:=id l;obtain⟨vs,sl,g1,sz,v1,v2⟩:=I.xo e1;have ty:Looks (model X.prog X.w) s.heap (typeOf (.ref a)) (.ref C):=(C9 g1).andThen .now;refine(PySem.W.exm_one I.kIn ty hb).here ?_;cases b with
  |false=>
   simp only[i3,l7]at h ⊢;exact hr pins s σ H D a C fr dx I l h
  |true=>
   simp only[QF]at h ⊢;refine codeAny_handlers_suite_as ?_;generalize hNE:notedBy (model X.prog X.w) (X.A.mark (some (.ref a))) X.env (λx s'=>cameBackBy (model X.prog X.w) X.A X.env X.xe x s')=NE;refine Ut I l λs1 I1=>?_;have hil:i<σ.length:=by rw[I.len];exact(N0.mp hi).1
   let xe2:Value->Shared->Prop:=λx s3=>wpAny (model X.prog X.w) (X.A.mark (some (.ref a))) (noteFrame x X.env) (λ_ Zr=>
       wpAny (model X.prog X.w) (X.A.mark (some (.ref a))) (do bindName X.env n .none;unbindBehindTheSuite X.env n pos)
        (λ_ s4=>wpAny (model X.prog X.w) (X.A.mark (some (.ref a))) (PySem.passOn "try.except-as" x X.env:Sem Flow) (λ_ _=>False) NE s4)
        (λy s4=>wpAny (model X.prog X.w) (X.A.mark (some (.ref a))) (setFlight x none) (λ_ s5=>NE y s5) NE s4) Zr) NE s3
   have I2:V2 (X.sub (X.A.mark (some (.ref a))) false (X.pn++pins) xe2) [] σ H s1:=I1.into frm noH;have tk2:GC (X.sub (X.A.mark (some (.ref a))) false (X.pn++pins) xe2) (λσ=>W (σ.set i none)):=by
    refine⟨λp2 σ2 H2 s2 a2 C2 fr2 Mj J2 k2 w2=>?_,lH⟩;refine lS (X:=X.sub (X.A.mark (some (.ref a))) false (X.pn++pins) xe2) (L:=X.env.locals) J2 J2.ok.frames FM hf hf k2 λH3 s3 J3 m3 k3=>?_;refine KN (X:=X.sub (X.A.mark (some (.ref a))) false (X.pn++pins) xe2) J3 hN hi hk λs4 J4=>?_;refine oP J4 k3 λH5 s5 J5 m5 k5=>?_;rw[<-hNE];unfold notedBy;refine lS (X:=X.sub (X.A.mark (some (.ref a))) false (X.pn++pins) xe2) (L:=X.env.locals) J5 J5.ok.frames FM hf hf k5.live λH6 s6 J6 m6 k6=>?_;refine Pz J6 k6 λH7 s7 J7 m7 k7=>?_;refine tk.th pins _ H7 s7 a2 C2 fr2 Mj (J7.back I.ok) k7.live ?_;rw[m7,m6,m5,m3];exact w2
   refine LK (X:=X.sub (X.A.mark (some (.ref a))) false (X.pn++pins) xe2) (v:=V.ref a) I2 hN hi (.inl hk) rfl (λs3 I3=>?_) (.inr hk);refine L5 (zfw a (X.pn++pins) xe2 tk2 [] s3 _ H _ I3 h) (λf s4 h4=>?_) λx s4 h4=>h4;have h5:SP X pins {nx:=λσ' H'=>D.nx (σ'.set i none) H',rt:=D.rt,bk:=λσ' H'=>D.bk (σ'.set i none) H',ct:=λσ' H'=>D.ct (σ'.set i none) H'} f s4:=SP.back I.ok h4;show wpAny _ X.A (do bindName X.env n .none;unbindBehindTheSuite X.env n pos) _ X.xe s4;cases f with
   |next=>
    obtain⟨σ5,H5,I5,q5⟩:=h5;exact KN I5 hN hi hk λs6 I6=>⟨_,H5,I6,q5⟩
   |brk=>
    obtain⟨σ5,H5,I5,q5⟩:=h5;exact KN I5 hN hi hk λs6 I6=>⟨_,H5,I6,q5⟩
   |cont=>
    obtain⟨σ5,H5,I5,q5⟩:=h5;exact KN I5 hN hi hk λs6 I6=>⟨_,H5,I6,q5⟩
   |ret u=>
    obtain⟨v5,σ5,H5,I5,r5,q5⟩:=h5;exact KN I5 hN hi hk λs6 I6=>⟨v5,_,H5,I6,r5,q5⟩
def zhv(Wt:WX)(tb:TS)(th:HR):TS:=λD σ H=>tb D σ H/\∀(a C:Addr)(fr:Bool)(dx:Option Addr)(σ':St)(H':Hp),pG H' a C fr dx .none->Wt σ' (C,fr) dx (ZC H')->th a C fr dx D σ' H'
theorem Pg{h0:ExceptHandler}{hs:List ExceptHandler}{Wt:WX}{tb:TS}{th:HR}(FM:X.stack=X.env::X.outer) (hf:X.env.frame=some X.env.locals)
 (hb:∀(pn:List (Addr×Obj))(xe:Value->Shared->Prop),GC (X.sub X.A X.calm pn xe) Wt->Nr (X.sub X.A X.calm pn xe) body tb) (hh:PH X (h0::hs) th):PS X (.Try body (h0::hs) [] [] pos) (zhv Wt tb th):=by
  intro pins s σ H D I h;obtain⟨h1,h2⟩:=h;refine wpAny_Try_except ?_
  let xe2:Value->Shared->Prop:=λe s1=>wpAny (model X.prog X.w) X.A (noteFrame e X.env) (λ_ s2=>wpAny (model X.prog X.w) X.A (setFlight e none) (λ_ s3=>wpAny (model X.prog X.w) X.A (handleBy e X.env (h0::hs)) (SP X pins D) X.xe s3) X.xe s2) X.xe s1
  have I2:V2 (X.sub X.A X.calm (X.pn++pins) xe2) [] σ H s:=I.into rfl I.ok.hd;have tk2:GC (X.sub X.A X.calm (X.pn++pins) xe2) Wt:=by
   refine⟨λp2 σ2 H2 s2 a2 C2 fr2 Mj J2 k2 w2=>?_,lH⟩;refine XZ (X:=X.sub X.A X.calm (X.pn++pins) xe2) (L:=X.env.locals) J2 J2.ok.frames FM hf hf k2 λH3 s3 J3 m3 k3=>?_;exact hh pins s3 σ2 H3 D a2 C2 fr2 Mj (J3.back I.ok) k3 (h2 a2 C2 fr2 Mj σ2 H3 k3 (by rw[m3];exact w2))
  refine L5 (hb (X.pn++pins) xe2 tk2 [] s σ H D I2 h1) (λf s4 h4=>?_) λx s4 h4=>h4;have h5:SP X pins D f s4:=SP.back I.ok h4;cases f with
  |next=>
   obtain⟨σ5,H5,I5,q5⟩:=h5;exact NC ⟨σ5,H5,I5,q5⟩
  |brk=>exact h5
  |cont=>exact h5
  |ret u=>exact h5
def ZL(K:Frag)(C:Addr):Bool:=match K.lookup C with
 |some ⟨_,_,.cls cd,sl⟩=>!cd.hasDel&&(sl.toList[4]?).join==some (.builtin "Exception.__new__")&&!cd.mro.isEmpty&&(cd.mro.contains (.ref C)&&cd.mro.contains (.type "Exception"))&&!cd.mro.contains (.type "AttributeError")&&!cd.mro.contains (.type "NameError")&&
   (specialIn K (.ref C) "__call__"==some (some (.builtin "type.__call__"))&&PySem.W.instIn K (.ref C) (.type "type")==some true)
 |_=>false
structure Qg(M:Model)(h:Heap)(C:Addr):Prop where
 obj:∃oc od cd sl,h.get? C=some ⟨oc,od,.cls cd,sl⟩/\cd.hasDel=false/\cd.mro.isEmpty=false
 made:Looks M h (Bind.madeBy (.ref C)) (some "Exception.__new__")
 base:Looks M h (Bind.staticBase (.ref C)) (.ref C)
 self:Looks M h (isSubtype (.ref C) (.ref C)) true
 exc:Looks M h (isSubtype (.ref C) (.type "Exception")) true
 noA:Looks M h (isSubtype (.ref C) (.type "AttributeError")) false
 noN:Looks M h (isSubtype (.ref C) (.type "NameError")) false
 call:Looks M h (specialOf (.ref C) "__call__") (some (.builtin "type.__call__"))
 typ:Looks M h (isInstance (.ref C) (.type "type")) true
theorem Wo{K:Frag}(KX:K.In h) (q:ZL K C=true):Qg M h C:=by
 unfold ZL at q;split at q
 .rename_i oc od cd sl lk;simp only[D1,O3,L4]at q;obtain⟨⟨⟨⟨⟨⟨q1,q2⟩,q3⟩,q4,q5⟩,q6⟩,q7⟩,q8,q9⟩:=q;have Vr:clsIn K C=some cd:=by unfold clsIn;rw[lk]
  have mro:Looks M h (mroOf (.ref C)) cd.mro:=(zA KX Vr).andThen .now;obtain⟨c1,l1,hl⟩:∃c1 l1,cd.mro=c1::l1:=by
   cases z:cd.mro with
   |nil=>rw[z]at q3;cases q3
   |cons c1 l1=>exact⟨c1,l1,rfl⟩
  have made:Looks M h (Bind.madeBy (.ref C)) (some "Exception.__new__"):=by
   intro A0 Q0 E0 s0 k0 w0;unfold Bind.madeBy;refine z0 (mro A0 _ E0 s0 k0 ?_);rw[hl,fB];refine z0 (z0 (z0 (z0 (EA (k0 _ _ (KX _ _ lk)) (S0 ?_)))));dsimp only;rw[<-Array.getElem?_toList,q2];exact S0 (S0 (S0 w0))
  have sub:∀{b:Value}{r:Bool},cd.mro.contains b=r->Looks M h (isSubtype (.ref C) b) r:=λ{b r} z=>AA KX (by
   unfold mroIn;rw[Vr,o4,D0 (by rw[q3];decide),z])
  refine⟨⟨oc,od,cd,sl,KX _ _ lk,q1,q3⟩,made,?_,sub q4,sub q5,sub q6,sub q7,PySem.W.looks_specialIn KX q8,PySem.W.looks_instIn KX q9⟩;intro A0 Q0 E0 s0 k0 w0;unfold Bind.staticBase;refine z0 (mro A0 _ E0 s0 k0 ?_);rw[hl,fB];exact z0 (z0 (z0 (made A0 _ E0 s0 k0 (S0 (S0 (S0 w0))))))
 .cases q
abbrev AE(us:List Value):Obj:={cls:=.type "tuple",data:=.seq us.toArray}
abbrev oF(C t:Addr):Obj:={cls:=.ref C,data:=.fields #[.ref t,.none,.none,.none,.bool false,.none]}
theorem Qz(Y:Qg (model prog w) h C)(hus:us.length<=sizeLine)
 (hq:R (.ok (.ret (.ref (h.objs.size+1)))) ⟨(h.push (AE us)).push (oF C h.objs.size),g,d,t,os⟩) :
   codeAny (model prog w) A (.call (.builtin "Exception.__new__") ⟨.ref C::us,[]⟩) R ⟨h,g,d,t,os⟩:=by
  obtain⟨⟨oc,od,cd,sl,hC,e2,e4⟩,made,base,self,exc,noA,noN,call,typ⟩:=Y;have F:=PySem.F.excBase_Exception;have zjL:=F.noStar;refine codeAny_call_builtin_code (Code.quiet_builtin _ F.quiet) ?_;simp only[checkBuiltinCall,F.newKind,F.newSplit,F.newRow];have here:Looks (model prog w) h (Bind.madeHere "BaseException.__new__" (.ref C)) ():=base.andThen (made.andThen (oE (by simp only[QC,F.canon,MD,i3,l7])));have zjM:Looks (model prog w) h (Bind.madeHere "Exception.__new__" (.ref C)) ():=base.andThen (made.andThen (oE (by simp only[QC,MD,i3,l7])))
  repeat (first|simp only[MD,i3,l7]|lk)
  have zjN:=F.ends;refine codeAny_builtinAt F.entry ?_;unfold Builtin.«BaseException.__new__»;refine PySem.wpAt_bind ?_;show PySem.wpAt _ _ _ (stack>>=_) _ _ _;refine PySem.wpAt_bind (PySem.wpAt_stack λp zbH=>PySem.wpAt_of_wpAny ?_)
  wp_walk
  refine PySem.wpAt_of_wpAny ?_;rw[F.owner];have isT:Looks (model prog w) h (isType (.ref C)) true:=by
   unfold isType loadHead;exact(C9 hC).andThen .now
  repeat (first|simp only[Bool.not_true,i3,l7]|lk)
  rw[D0 (by rw[J1];lia)];unfold newObjAsIs;refine z0 (ZK (S0 ?_));have hC1:=U0 (AE us) hC;have hC2:=U0 (oF C h.objs.size) hC1;refine z0 ?_;show wpAny _ _ (newObjAsIs (.ref C) _ _) _ _ _;unfold newObjAsIs classHasDel;refine z0 (ZK (z0 (z0 (wpAny_load hC2 (S0 ?_)))));rw[e2];refine S0 (S0 ?_);show R _ _;rw[X4];exact hq
theorem Xt(Y:Qg (model prog w) h C)(hi:Looks (model prog w) h (typeLookup (.ref C) "__init__") (some (.ref f)))(hb:∀self,Looks (model prog w) h (bindSpecial (.ref f) self) (.ref f,[self]))(hus:us.length<=sizeLine)
 (hq:codeAny (model prog w) (A.under (.builtin "type.__call__" ⟨.ref C::us,[]⟩)) (.call (.ref f) ⟨.ref (h.objs.size+1)::us,[]⟩) (InitBack (h.objs.size+1) R) ⟨(h.push (AE us)).push (oF C h.objs.size),g,d,t,os⟩) :
   codeAny (model prog w) A (.call (.ref C) ⟨us,[]⟩) R ⟨h,g,d,t,os⟩:=by
  have Y':=Y;obtain⟨⟨oc,od,cd,sl,hC,e2,e4⟩,made,base,self,exc,noA,noN,call,typ⟩:=Y;refine codeAny_of_tree ?_;show wpAny _ _ (callAny (.ref C) _) _ _ _;refine PySem.W.nd_load hC ?_;show wpAny _ _ (callAny.viaDunder (.ref C) _) _ _ _;unfold callAny.viaDunder;refine z0 (call.at ?_);dsimp only;rw[tc_bind];refine z0 (S0 (z0 (S0 ?_)));refine S0 (a:=Fin.again (.call (.builtin "type.__call__") ⟨.ref C::us,[]⟩)) (And.intro rfl ?_);refine codeAny_call_builtin_at (Code.quiet_builtin _ (by decide +kernel)) entry_typeCall (sG tc_kind tc_split typ (PySem.W.tc_args _ _ _) ?_);unfold Builtin.«type.__call__»;have hm:Looks (model prog w) h (mroOf (.ref C)) cd.mro:=((C9 (part:=none) hC).andThen .now).andThen .now
  repeat (first|simp only[e4,i3,l7]|with_reducible refine xE ?_|lk)
  refine Qz Y' hus ?_;have kp:∀b o,h.get? b=some o->((h.push (AE us)).push (oF C h.objs.size)).get? b=some o:=λb o e=>U0 _ (U0 _ e);have hx:((h.push (AE us)).push (oF C h.objs.size)).get? (h.objs.size+1)=some (oF C h.objs.size):=by heap_get
  have t1:Looks (model prog w) ((h.push (AE us)).push (oF C h.objs.size)) (typeOf (.ref (h.objs.size+1))) (.ref C):=(C9 hx).andThen .now;have s1:=self.keeps kp;have i1:=hi.keeps kp;have b1:=(hb (.ref (h.objs.size+1))).keeps kp;unfold isInstance callSpecial? specialOf
  repeat (first|with_reducible refine xE ?_|lk)
  refine dC hq λr s' z=>?_;rcases r with e|(v|_|_|_)<;>first|exact z|exact z.elim|skip
  obtain⟨rfl,z⟩:=z;exact S0 (S0 z)
structure MkX(K:Frag)(C f:Addr):Prop where
 makes:ZL K C=true
 init:findIn K (.ref C) "__init__"= some (some (.ref f))
 fn:isFn K (.ref f)=true
 kp:keepIn K (.ref C)=true
def US(C:Addr)(sp:Sp)(W:WX)(t:TA):TE:=λσ H Q=>t σ H λvs H1=>vs.length<=1000/\∀x,H1 x=none->sp (.ref x::vs) (upd H1 x (xO C true none .none x)) (λv H2=>v=.non/\Q (.ref x) H2) (W σ)
section
variable {k:Nat}{p:Pos}{es:List Expr}{t:TA}
theorem xW{σ:St}{Q:VK}{vs:List V}(M:MkX X.K C f) (F:xA X.prog X.w X.K X.mg X.base (kR X.prog X.w) cm k f fd ps sp) (hr:N8 cm (k+1) X.A) (hb:yB X.K fd ps [])
 (tk:GC X W) (I:V2 X pins σ H s) (r:k4 vs us) (hl:vs.length<=1000)
 (h:∀x,H x=none->sp (.ref x::vs) (upd H x (xO C true none .none x)) (λv H2=>v=.non/\Q (.ref x) H2) (W σ)) :
   wpAny (model X.prog X.w) X.A (call (.ref C) us) (EP X pins σ Q) X.xe s:=by
  obtain⟨hp,g,d,tk0,os⟩:=s;have hq:=h (hp.objs.size+1) (I.hok.fresh (TK _));have I1:V2 X pins σ H ⟨hp.push (AE us),g,d,tk0,os⟩:=I.kept (h':=hp.push (AE us)) (t':=tk0) (λb u e=>U0 _ e);have hx:((hp.push (AE us)).push (oF C hp.objs.size)).get? (hp.objs.size+1)=some (oF C hp.objs.size):=by heap_get
  have I2:V2 X pins σ (upd H (hp.objs.size+1) (xO C true none .none (hp.objs.size+1))) ⟨(hp.push (AE us)).push (oF C hp.objs.size),g,d,tk0,os⟩:=
   I1.laid (h':=(hp.push (AE us)).push (oF C hp.objs.size)) (t':=tk0) (λb u e=>U0 _ e) (by show(hp.push (AE us)).objs.size<=_;rw[X4];exact j1 _) (Sk ⟨_,_,hx,rfl,rfl,λ_=>rfl⟩)
  have r2:k4 (V.ref (hp.objs.size+1)::vs) (Value.ref (hp.objs.size+1)::us):=.cons rfl r;have Wr:(Value.ref (hp.objs.size+1)::us++[]).length=ps.length:=by
   have e:=r2.length;rw[F.len _ _ _ _ hq]at e;simpa using e.symm
  have hbd:=hb ⟨(hp.push (AE us)).push (oF C hp.objs.size),g,d,tk0,os⟩ (Value.ref (hp.objs.size+1)::us) I2.kIn Wr;rw[d3]at hbd;have hfn:typeIn X.K (.ref f)=some (.type "function"):=L4.mp M.fn;refine xE (Xt (f:=f) (Wo I.kIn M.makes) (bA I.kIn M.init) (λself=>bind_fn I.kIn self hfn) (by rw[<-r.length];exact d4 hl (by decide))
   (dC (F.run _ X.stack _ _ ⟨Value.ref (hp.objs.size+1)::us,[]⟩ (Value.ref (hp.objs.size+1)::us) _ _ (W σ) (hr.make C us []) (I2.env0.make C us []) hbd r2 hq) λr s' Mn=>?_))
  cases r with
  |error e=>
   have z:=tk.passes pins σ _ _ e s' I2 Mn;exact z
  |ok fl=>
   cases fl with
   |ret u=>
    obtain⟨v,H',I3,rv,ev,q3⟩:=I2.after Mn;subst ev;exact⟨rv,⟨V.ref (hp.objs.size+1),H',I3,rfl,q3⟩⟩
   |next=>exact False.elim Mn
   |brk=>exact False.elim Mn
   |cont=>exact False.elim Mn
theorem LN(M:MkX X.K C f)(F:xA X.prog X.w X.K X.mg X.base (kR X.prog X.w) cm k f fd ps sp)(hr:N8 cm (k+1) X.A)(hg:Gl X x)(hm:X.mg x=some (.ref C))(hb:yB X.K fd ps [])(tk:GC X W)
 (ha:PA X (e::es) t) (fZ:(x==("__debug__": Str))=false:=by decide) (he:starEach (e::es) X.env=(false,eval e X.env)::starEach es X.env:=by rfl) (xH:(backTo pos (starEach es X.env)).any (·.1)=false:=by rfl) :
   PE X (.Call (.Name x p) (e::es) [] pos) (US C sp W t):=by
  intro pins s σ H Q I h;refine u6 (ZG I hg hm ?_ fZ);refine YA (h₀:=X.base) I.ok.mod.kin M.kp (i8 (ha pos pins s σ H _ I h) λus s1 ⟨vs,H1,I1,r,hl,q⟩=>⟨I1.kIn,?_⟩) he xH;exact xW M F hr hb tk I1 r hl q
theorem Xo(M:MkX X.K C f)(F:xA X.prog X.w X.K X.mg X.base (kR X.prog X.w) cm k f fd ps sp)(hr:N8 cm (k+1) X.A)(hg:Gl X x)(hm:X.mg x=some (.ref C))(hb:yB X.K fd ps [])(tk:GC X W)
 (fZ:(x==("__debug__": Str))=false:=by decide):PE X (.Call (.Name x p) [] [] pos) (US C sp W yZ):=by
  intro pins s σ H Q I h;refine u6 (ZG I hg hm ?_ fZ);exact HF I.kIn M.kp (xW (us:=[]) M F hr hb tk I .nil h.1 h.2)
end
end L2
namespace L2
open PySem PySem.Spec PyProof.Rows
open Builtin.ObjectAttr
variable {C:Addr}{A:Around}{s:Shared}{Q:Unit->Shared->Prop}
def aM:List Value->Bool
 |[.type a,.type b,.type c]=>a=="Exception" && b=="BaseException" && c=="object"
 |.ref _::r=>aM r
 |_=>false
theorem VS(self:Value):∀{l:List Value},aM l=true->refuseLoop self "__setattr__" l=pure ()
 |[],e=>by cases e
 |.ref c::r,e=>by
  rw[refuseLoop_ref];exact VS self (l:=r) (by unfold aM at e;exact e)
 |[.type a,.type b,.type c],e=>by
  have e':(a=="Exception" && b=="BaseException" && c=="object")=true:=e;simp only[D1,L4]at e';obtain⟨⟨rfl,rfl⟩,rfl⟩:=e';exact PySem.F.store_Exception.passes self
theorem tG:∀{l:List Value},aM l=true->l.contains (.type "object")=true/\l.contains (.type "BaseException")=true
 |[],e=>by cases e
 |.ref c::r,e=>by
  have z:=tG (l:=r) (by unfold aM at e;exact e);rw[aD,aD,z.1,z.2];exact⟨Bool.or_true _,Bool.or_true _⟩
 |[.type a,.type b,.type c],e=>by
  have e':(a=="Exception" && b=="BaseException" && c=="object")=true:=e;simp only[D1,L4]at e';obtain⟨⟨rfl,rfl⟩,rfl⟩:=e';exact⟨by decide,by decide⟩
def Yt(K:Frag)(C:Addr):Bool:=(clsIn K C).any λcd=>aM cd.mro
structure eY(K:Frag)(C:Addr):Prop where
 po:Yt K C=true
 hd:hasDictIn K C=true
 sa:findIn K (.ref C) "__setattr__"= some (some (.builtin "object.__setattr__"))
 ga:findIn K (.ref C) "__getattribute__"= some (some (.builtin "BaseException.__getattribute__"))
 gh:findIn K (.ref C) "__getattr__"= some none
section
variable {prog:Program}{w:World}{K:Frag}{x:Addr}{R:Result->Shared->Prop}
theorem yW{ox:Obj}{od:Option Obj}{name:Str}{tk:Tok}{v:Value}(KX:K.In s.heap) (I:PySem.W.InstAt s.heap x ox C od) (hp:Yt K C=true) (ht:D3 K C name)
 (h:∀b,wpAny (model prog w) A.in1 (storeInOwnDict (.ref x) (.ref C) (.str name tk) name v b)
 (λfin s'=>match fin with|.done f=>R (.ok f) s'|.again c'=>c'.quiet=true/\codeAny (model prog w) A c' R s') (λe s'=>R (.error e) s') s) :
   codeAny (model prog w) A (.call (.builtin "object.__setattr__") ⟨[.ref x,.str name tk,v],[]⟩) R s:=by
  have SF:=PySem.F.store_object;obtain⟨cd,hc,ho⟩:=bC hp;have ne:cd.mro.isEmpty=false:=by
   cases q:cd.mro with
   |nil=>rw[q]at ho;cases ho
   |cons _ _=>rfl
  have sub:Looks (model prog w) s.heap (isInstance (.ref x) (.type "object")) true:=I.type.andThen (AA KX (by
   unfold mroIn;rw[hc,o4,D0 (by rw[ne];decide),(tG ho).1]))
  refine codeAny_call_builtin SF.slot.plain SF.entry (@sG (model prog w) _ _ s "object.__setattr__" "object" "__setattr__" (.ref x) [.str name tk,v] [] _ SF.kind SF.split sub (SF.args (.ref x) (.str name tk) v) ?_);have hm:Looks (model prog w) s.heap (mroOf (.ref C)) cd.mro:=(zA KX hc).andThen .now;rw[PySem.W.osa_eq,refuse_eq];refine z0 (z0 (I.type.here (z0 (hm.here ?_))));rw[VS _ ho];exact S0 (z0 (I.type.here (z0 ((bA KX ht).here (z0 (S0 (h _)))))))
end
section
variable {X:Cx}{pins:List (Addr×Obj)}{σ:List (Option V)}{H:Hp}{a d:Addr}{fr:Bool}{tb:Value}{E:Value->Shared->Prop}{f:Str}{y:V}{u:Value}{fs:List (Str×V)}
theorem Zt(I:V2 X pins σ H s)(e:H a=some (xO C fr none tb a))(c:eY X.K C)(n:D3 X.K C f)(ry:R4 y u)
 (h:∀d H' s',H d=none->d≠a->V2 X pins σ H' s'->H' a=some (xO C fr (some d) tb a)->H' d=some (.xd [(f,y)])->(∀b,b≠a->b≠d->H' b=H b)->Q () s'):wpAny (model X.prog X.w) A (setAttr (.ref a) f u) Q E s:=by
  obtain⟨vs,sl,g1,sz,v1,v2⟩:=I.xo e;have J:PySem.W.InstAt s.heap a ⟨.ref C,none,.fields vs,sl⟩ C none:=⟨g1,rfl,rfl,c9⟩
  have I0:=I.tok (s.toks+1);refine cH I.kIn J c.sa (yW (s:={s with toks:=s.toks+1}) I.kIn J c.po n λb=>?_);obtain⟨cd,hc,hd'⟩:=bC c.hd;refine z0 (S0 (z0 (z0 (EA g1 (z0 (kG (s:={s with toks:=s.toks+1}) (zA I.kIn hc) ?_))))));rw[hd'];show wpAny _ A.in1 (alloc {cls:=.type "dict",data:=.dict #[]} >>= λd=>(update a λo=>{cls:=o.cls,dict:=some d,data:=o.data,slots:=o.slots})>>=λ_=>dictMade (.ref C) a d) _ _ _;refine z0 (ZK ?_);generalize hd0:s.heap.objs.size=d;have dn:H d=none:=I.hok.fresh (cC hd0);have da:a≠d:=C1 e dn;have gD:(s.heap.push {cls:=.type "dict",data:=.dict #[]}).get? d=some {cls:=.type "dict",data:=.dict #[]}:=by
   rw[<-hd0];exact X1 s.heap rfl
  have nD:(s.heap.push {cls:=.type "dict",data:=.dict #[]}).Ns d (λ_=>none):=⟨_,#[],_,gD,rfl,λz hz=>absurd hz (by simp),λ_=>rfl⟩
  have I1:=I0.laid (a:=d) (o:=.xd []) (h':=s.heap.push {cls:=.type "dict",data:=.dict #[]}) (t':=s.toks+1) (λb q z=>U0 _ z) (cC hd0)
   ⟨λ_=>none,Heap.Ns1.of_empty nD,λ_=>c9,E1 _,λz hz=>absurd rfl hz⟩
  have e1:upd H d (.xd []) a=some (xO C fr none tb a):=by
   rw[M0 da];exact e
  have g2:(s.heap.push {cls:=.type "dict",data:=.dict #[]}).get? a=some ⟨.ref C,none,.fields vs,sl⟩:=U0 _ g1;refine z0 (wpAny_update g2 ?_);have g3:((s.heap.push {cls:=.type "dict",data:=.dict #[]}).update a λo=>{cls:=o.cls,dict:=some d,data:=o.data,slots:=o.slots}).get? a=some ⟨.ref C,some d,.fields vs,sl⟩:=vB _ g2 rfl;have I2:=I1.write (x:=a) (e:=a) (o:=xO C fr (some d) tb a) (t':=s.toks+1) (h':=(s.heap.push {cls:=.type "dict",data:=.dict #[]}).update a λo=>{cls:=o.cls,dict:=some d,data:=o.data,slots:=o.slots})
   (by rw[e1];exact Kg) (.inl rfl) (λb q hb z=>(M5 _ _ (K2 hb)).trans z) ⟨_,g3⟩ (Sk ⟨vs,sl,g3,sz,v1,v2⟩)
  have e2:upd (upd H d (.xd [])) a (xO C fr (some d) tb a) d=some (.xd []):=by
   rw[M0 (K2 da)];exact C0
  refine S0 (a:=some d) ?_;show wpAny _ _ (storeInDict d (.str f s.toks) f u) _ _ _;unfold storeInDict newKeyGuard;obtain⟨mA,n1,r1,l1,w1⟩:=(show k9 X.prog X.w _ _ d (.xd [])from I2.hok d _ e2)
  refine z0 (S0 (z0 (wN n1 λh3 n3 s3=>?_)));obtain⟨oD,esD,epD,hoD,hdD,hcD⟩:=n3.count (dH f u w1);refine z0 (bI hoD (by rw[hdD];exact cI (d4 hcD (by show 1<=_;rw[YE];decide))) ?_);refine S0 (h d (upd (upd (upd H d (.xd [])) a (xO C fr (some d) tb a)) d (.xd [(f,y)])) _ dn (K2 da) (I2.write (x:=d) (e:=d) (by rw[e2];exact c9) (.inl rfl) (λb q hb z=>(s3.2 b hb).trans z) ⟨_,hoD⟩
   ⟨_,n3,λg=>?_,by show 1<=1000;decide,λg hg=>?_⟩) ?_ C0 λb hb hbd=>?_)
  .show eG (List.lookup g [(f,y)]) (if g=f then some u else mA g);by_cases q:g=f
   .rw[K0 q,q];simp only[B9,gC];exact ry
   .rw[D0 q];have q':(g==f)=false:=by simpa using q
    simp only[B9,q',List.lookup_nil];exact r1 g
  .show g∈[f];by_cases q:g=f
   .rw[q];exact Q1.mpr rfl
   .have z:mA g≠none:=λz=>hg (by show(if g=f then some u else mA g)=none;rw[D0 q];exact z);exact absurd (w1 g z) (by simp)
  .rw[M0 da];exact C0
  .rw[M0 hbd,M0 hb,M0 hbd]
theorem Au(I:V2 X pins σ H s)(e:H a=some (xO C fr (some d) tb a))(ed:H d=some (.xd fs))(c:eY X.K C)(n:D3 X.K C f)(hl:fs.length<1000)(ry:R4 y u)
 (h:∀s',V2 X pins σ (upd H d (.xd (lG f y fs))) s'->Q () s'):wpAny (model X.prog X.w) A (setAttr (.ref a) f u) Q E s:=by
  obtain⟨vs,sl,g1,sz,v1,v2⟩:=I.xo e;have da:a≠d:=XE e ed (by intro z;cases z);obtain⟨mA,n1,r1,l1,w1⟩:=(show k9 X.prog X.w _ _ d (.xd fs)from I.hok d _ ed)
  obtain⟨od,god,_⟩:=iP n1;have J:PySem.W.InstAt s.heap a ⟨.ref C,some d,.fields vs,sl⟩ C (some od):=⟨g1,rfl,rfl,god⟩
  have I0:=I.tok (s.toks+1);refine cH I.kIn J c.sa (yW (s:={s with toks:=s.toks+1}) I.kIn J c.po n λb=>?_);obtain⟨cd,hc,hd'⟩:=bC c.hd;refine z0 (S0 (z0 (z0 (EA g1 (z0 (kG (s:={s with toks:=s.toks+1}) (zA I.kIn hc) ?_))))));rw[hd'];refine S0 (a:=some d) ?_;show wpAny _ _ (storeInDict d (.str f s.toks) f u) _ _ _;unfold storeInDict newKeyGuard;refine z0 (S0 (z0 (wN n1 λh3 n3 s3=>?_)));obtain⟨oD,esD,epD,hoD,hdD,hcD⟩:=n3.count (dH f u w1);refine z0 (bI hoD (by rw[hdD];exact cI (d4 hcD (by rw[M1,B0,YE];lia))) ?_);refine S0 (h _ (I0.write (x:=d) (e:=d) (by rw[ed];exact c9) (.inl rfl) (λb q hb z=>(s3.2 b hb).trans z) ⟨_,hoD⟩ ⟨_,n3,λg=>?_,?_,λg hg=>?_⟩))
  .show eG ((lG f y fs).lookup g) (if g=f then some u else mA g);rw[RK];by_cases q:g=f
   .rw[K0 q,K0 q];exact ry
   .rw[D0 q,D0 q];exact r1 g
  .have:=SK f y fs
   lia
  .by_cases q:g=f
   .rw[q];exact(eI f y fs).1
   .refine(eI f y fs).2 g (w1 g λz=>hg ?_);show(if g=f then some u else mA g)=none;rw[D0 q];exact z
end
end L2
section
set_option maxHeartbeats 400000
namespace L2
open PySem PySem.Spec PyProof.Rows
theorem Rz:builtinKind "BaseException.__getattribute__"= some .slot:=by decide +kernel
theorem Bu:splitId "BaseException.__getattribute__"= some ("BaseException","__getattribute__"):=by decide +kernel
section
variable {X:Cx}{pins:List (Addr×Obj)}{σ:List (Option V)}{H:Hp}{s:Shared}{a C d:Addr}{fr:Bool}{tb:Value}{A:Around}{E:Value->Shared->Prop}{f:Str}{v:V}{fs:List (Str×V)}
theorem Sz{b:Bool}{Q:Value->Shared->Prop}(I:V2 X pins σ H s) (e:H a=some (xO C fr (some d) tb a)) (ed:H d=some (.xd fs)) (c:eY X.K C) (n:D3 X.K C f) (l:fs.lookup f=some v)
  (h:∀u s',V2 X pins σ H s'->R4 v u->Q u s'):wpAny (model X.prog X.w) A (getAttr (.ref a) f b) Q E s:=by
 obtain⟨vs,sl,g1,sz,v1,v2⟩:=I.xo e;obtain⟨mA,n1,r1,l1,w1⟩:=(show k9 X.prog X.w _ _ d (.xd fs)from I.hok d _ ed)
 obtain⟨od,god,lk0⟩:=iP n1;have J:PySem.W.InstAt s.heap a ⟨.ref C,some d,.fields vs,sl⟩ C (some od):=⟨g1,rfl,rfl,god⟩
 obtain⟨u,hu,ru⟩:∃u,mA f=some u/\R4 v u:=by
  have z:=r1 f;rw[l]at z;cases q:mA f with
  |none=>rw[q]at z;exact z.elim
  |some u=>rw[q]at z;exact⟨u,rfl,z⟩
 have FX:=PySem.F.attr_Exception;have L0:=J.type (M:=model X.prog X.w);have L1:=bA (M:=model X.prog X.w) I.kIn c.ga;have L2':=bA (M:=model X.prog X.w) I.kIn c.gh;have LF:=PySem.W.looks_find (M:=model X.prog X.w) I.kIn J (findObj_own (name:=f) c.hd n rfl (by rw[lk0,hu]));obtain⟨cd,hc,ho⟩:=bC c.po;have ne:cd.mro.isEmpty=false:=by
  cases q:cd.mro with
  |nil=>rw[q]at ho;cases ho
  |cons _ _=>rfl
 have sub:Looks (model X.prog X.w) s.heap (isInstance (.ref a) (.type "BaseException")) true:=J.type.andThen (AA I.kIn (by
  unfold mroIn;rw[hc,o4,D0 (by rw[ne];decide),(tG ho).2]))
 have I':=I.tok (s.toks+1);obtain⟨hp,g,dr,tk,os⟩:=s;unfold getAttr getAttrBy;refine z0 (wpAny_mkText (T5 (z0 (L0.at (z0 (L1.at ?_))))));dsimp only;rw[D0 (by simp)];unfold getAttrByItsOwn hookBefore;rw[K0 (by rfl)];refine z0 (L2'.at ?_);refine z0 (CH (T5 ?_));unfold callGetattribute;rw[D0 (by cases b<;>decide)];unfold boundAndCalled;rw[FX.ga.bind];refine z0 (S0 (xE ?_));refine codeAny_call_builtin FX.ga.plain PySem.F.entry_bexc_ga (@sG (model X.prog X.w) _ _ ⟨hp,g,dr,tk+1,os⟩ "BaseException.__getattribute__" "BaseException" "__getattribute__" (.ref a) [.str f tk] [] _ Rz Bu sub (PySem.F.args_bexc_ga _ _) ?_);show wpAny _ _ (typeOf (.ref a)>>=λtp=>Builtin.ObjectAttr.find (.ref a) tp f>>=_) _ _ _;refine z0 (L0.at (z0 (LF.at ?_)));refine S0 ?_;show wpAny _ _ (handedOut u) _ _ _;rw[PySem.W.handedOut_of (iW ru)];exact S0 (h u _ I' ru)
end
end L2
end
section
set_option maxHeartbeats 1000000
namespace L2
open PySem PySem.Spec PyProof.Rows
inductive Cu(K:Frag)(f:Str)(Q:VK)(x:V)(H1:Hp):Prop
 |mk (a C fr d tb fs v:_):x=.ref a->H1 a=some (xO C fr (some d) tb a)->H1 d=some (.xd fs)->eY K C->D3 K C f->fs.lookup f=some v->Q v H1->Cu K f Q x H1
def zbh(K:Frag)(ta:TE)(f:Str):TE:=λσ H Q=>ta σ H (Cu K f Q)
def zeU(K:Frag)(ta tv:TE)(f:Str):TS:=λD σ H=>tv σ H λy H1=>ta σ H1 λx H2=>∃a C fr dx tb,x=.ref a/\H2 a=some (xO C fr dx tb a)/\eY K C/\D3 K C f/\
 ((dx=none/\∀d H3,H2 d=none->d≠a->H3 a=some (xO C fr (some d) tb a)->H3 d=some (.xd [(f,y)])->(∀b,b≠a->b≠d->H3 b=H2 b)->D.nx σ H3)\/
   ∃d fs,dx=some d/\H2 d=some (.xd fs)/\fs.length<1000/\D.nx σ (upd H2 d (.xd (lG f y fs))))
section
variable {X:Cx}{o e zD:Expr}{f:Str}{pos HK:Pos}{ta tv:TE}
theorem Tz(he:PE X e ta)(hb:attributeBase e f X.env (eval e X.env)=eval e X.env):PE X (.Attribute e f pos) (zbh X.K ta f):=by
 intro pins s σ H Q I h;refine Zj hb (i8 (he pins s σ H _ I h) λu s1 ⟨x,H1,I1,rx,a,C,fr,d,tb,fs,v,ex,ea,ed,c,n,l,q⟩=>?_);subst ex;obtain rfl:u=Value.ref a:=rx;exact Sz I1 ea ed c n l λu' s2 I2 ru=>⟨v,H1,I2,ru,q⟩
theorem bM(ha:PE X o ta)(hv:PE X zD tv)(hs:swapsWith zD (some (.Attribute o f HK)) pos.line X.env=pure false):PS X (.Assign [.Attribute o f HK] zD pos) (zeU X.K ta tv f):=by
 intro pins s σ H D I h;refine gE (i8 (hv pins s σ H _ I h) λu s1 ⟨y,H1,I1,ry,q⟩=>i8 (ha pins s1 σ H1 _ I1 q) λov s2 ⟨x,H2,I2,rx,a,C,fr,dx,tb,ex,ea,c,n,q2⟩=>?_) hs;subst ex;obtain rfl:ov=Value.ref a:=rx;rcases q2 with⟨rfl,q2⟩|⟨d,fs,rfl,ed,l,q2⟩
 .exact Zt I2 ea c n ry λd H3 s3 dn da I3 e3 e4 kp=>⟨σ,H3,I3,q2 d H3 dn da e3 e4 kp⟩
 .exact Au I2 ea ed c n l ry λs3 I3=>⟨σ,_,I3,q2⟩
end
structure CAt(K:Frag)(C:Addr)(m:Str)(f:Addr):Prop where
 ga:specialIn K (.ref C) "__getattribute__"= some (some (.builtin "type.__getattribute__"))
 rd:PySem.W.readsIn K C (.type "type")=true
 fd:PySem.W.findCls K (.ref C) (.type "type") m=some (.val (.ref f))
 kp:keepIn K (.ref f)=true
section
variable {X:Cx}{W:WX}{CX:Pr}{k:Nat}{f C:Addr}{fd:FuncData}{ps:List Str}{sp:Sp}{x m:Str}{p pos jE:Pos}{e:Expr}{es:List Expr}{t:TA}{cm:Bool}
theorem XS{pl:Sem Bool}(F:xA X.prog X.w X.K X.mg X.base CX cm k f fd ps sp) (hr:N8 cm k X.A) (hg:Gl X x) (hm:X.mg x=some (.ref C)) (hc:CAt X.K C m f) (hb:yB X.K fd ps []) (hx:uB CX X W) (ha:PA X (e::es) t)
  (fZ:(x==("__debug__": Str))=false:=by decide)
  (FM:starEach (e::es) X.env=(false,eval e X.env)::starEach es X.env:=by rfl) (xH:(backTo pos (starEach es X.env)).any (·.1)=false:=by rfl)
  (ht:eval (.Call (.Attribute (.Name x p) m jE) (e::es) [] pos) X.env=(do
    let ov <-eval (.Name x p) X.env
    standAt jE.atName
    let (f,first) <-holding [ov] (getMethod ov m pl)
    callWith pos f first (backTo pos (starEach (e::es) X.env)) (backToKw pos (keywordEach [] X.env))):=by rfl) :
  PE X (.Call (.Attribute (.Name x p) m jE) (e::es) [] pos) (Ck sp [] W t):=by
 intro pins s σ H Q I h;refine lE (pl:=pl) (ZG I hg hm ?_ fZ) ht;refine PySem.W.method_cls I.kIn hc.ga (PySem.W.cls_value I.kIn hc.rd hc.fd rfl ?_);have I0:=I.tok (s.toks+1);refine YA (h₀:=X.base) I.ok.mod.kin hc.kp (i8 (ha pos pins {s with toks:=s.toks+1} σ H _ I0 h) λus s1 ⟨vs,H1,I1,r,q⟩=>⟨I1.kIn,?_⟩) FM xH;exact MX F hr hb .nil hx I1 r q
end
end L2
end
namespace L2
open PySem PySem.Spec PyProof.Rows
variable {Lj tg DF:Expr}{own:List (Str×Nat)}{Af:List Expr}{pos:Pos}{scope:Scope}{te:TE}{g:TG}{wi:TI}{tt:TT}{E:XK}
section
variable {X:Cx}
abbrev Uz(X:Cx)(scope:Scope)(E:XK)(R:Cx->Prop):Prop:=∀{s:Shared}{H:Hp}{C:Addr}{cl:List (Str×Addr)}{fp:List Addr}{xe:Value->Shared->Prop},GC ((X.blk s H scope (compEnvC scope cl C X.env) fp).wish xe) (λ_=>E)->R ((X.blk s H scope (compEnvC scope cl C X.env) fp).wish xe)
theorem ZZ{pins:List (Addr×Obj)}{s:Shared}{σ:St}{H:Hp}{Q:VK}{HK:Pos}{use:Option (Value->Sem Unit)}{Qf:Value->Shared->Prop}
 (tk:GC X (λ_=>E)) (FM:X.stack=X.env::X.outer) (hfm:X.env.frame=some X.env.locals) (hc:X.calm=true) (hN:X.N.Nodup) (I:V2 X pins σ H s) (hi:PI X tg DF wi) (ok:IZ X.N X.env.scope scope own)
 (hg:Uz X scope E λY=>PG Y tg g) (ht:Uz X scope E λY=>PTs Y Af tt)
 (he:Uz X scope E λY=>PE Y Lj te) (hs:∀x,foldedSetIterable DF X.env x=pure x)
 (h:tLc wi g tt te (own.map (·.2)) σ H Q)
 (hRR:∀D C s' m H',V2 X pins σ H' s'->Q (.ref D) H'->s'.heap.Ns C m->OK X pins H' C->compPost (model X.prog X.w) X.A X.xe use Qf (.ref D) C (.ok .next) s') :
   wpAny (model X.prog X.w) X.A (comprehension (.ListComp Lj [⟨tg,DF,Af,0⟩] scope pos) scope X.env HK (newList []) false (eval DF X.env) use) Qf X.xe s:=by
  have Jn:∀y∈scope.names,y.2=.free->∃c,X.env.cells.lookup y.1=some c:=λy hy e=>by
   rcases ok.free y hy e with k|k
   .exact I.ok.has _ (.inl k)
   .exact I.ok.has _ (.inr k)
  refine wpAny_comprehension_free (use:=use) rfl hs (Gg Jn) ok.kind (λy hy e=>by rw[ok.uniq y hy,e])
   (i8 (hi pins s σ H _ I h) λxv s1 hx=>i8 hx λitv s2 h2=>?_)
  obtain⟨it,fp,tn,J,H2,e,I2,T,Ij,f2,q⟩:=h2;subst e;refine F5 (HZ ?_) (by show 0<=sizeLine;decide);generalize hD:s2.heap.objs.size=D;have hDn:H2 D=none:=I2.hok.fresh (cC hD);obtain⟨W,⟨m0,w0⟩,turn⟩:=q D hDn;generalize hs3:({s2 with heap:=s2.heap.push {cls:=.type "list",data:=.seq ([]:List Value).toArray}}:Shared)=s3;have I3:V2 X pins σ (upd H2 D (.lst [])) s3:=by
   rw[<-hs3];refine I2.laid (t':=s2.toks) (λb o e=>U0 _ e) (cC hD) ⟨E1 _,[],0,.nil,?_⟩;rw[<-hD];exact X1 _ rfl
  have h3:s3.heap=s2.heap.push {cls:=.type "list",data:=.seq ([]:List Value).toArray}:=by rw[<-hs3]
  have sz:∀b∈fp,b<s2.heap.objs.size:=λb hb=>by
   obtain⟨o,e,_⟩:=T.obj _ _ Ij b hb;exact F2 e
  have f3:∀b∈fp,OK X pins (upd H2 D (.lst [])) b/\b<s3.heap.objs.size:=λb hb=>by
   have UC:=sz b hb;refine⟨⟨?_,(f2 b hb).2⟩,by rw[h3,X4];exact HD UC⟩;rw[M0 (by rw[<-hD];exact j3 UC)];exact(f2 b hb).1
  have Ex:tn 0 s3.heap:=T.keep _ _ _ Ij λb _ o e=>by rw[h3];exact U0 _ e
  have I4:=JZ I3 ok hN f3
  let RR:=compPost (model X.prog X.w) X.A X.xe use Qf (.ref D) s3.heap.objs.size
  let xeB:Value->Shared->Prop:=notedBy (model X.prog X.w) X.A (compEnvC scope (cellsFrom (s3.heap.objs.size+1) scope.names (k8 X.env.cells scope.names [])) s3.heap.objs.size X.env) (λe s'=>RR (.error e) s')
  have tkB:GC ((X.blk s3 (upd H2 D (.lst [])) scope (compEnvC scope (cellsFrom (s3.heap.objs.size+1) scope.names (k8 X.env.cells scope.names [])) s3.heap.objs.size X.env) fp).wish xeB) (λ_=>E):=by
   refine⟨λp5 σ5 H5 s5 a5 C5 fr5 dx5 I5 l5 w5=>?_,lH⟩;refine lS (X:=(X.blk s3 (upd H2 D (.lst [])) scope (compEnvC scope (cellsFrom (s3.heap.objs.size+1) scope.names (k8 X.env.cells scope.names [])) s3.heap.objs.size X.env) fp).wish xeB) (L:=X.env.locals) I5 I5.ok.frames FM hfm hfm l5 λH6 s6 I6 m6 l6=>?_;have I7:V2 X pins σ H6 s6:=I3.call' (ch:=fp) I6.os I6.base I6.hok I6.bare λb hb=>⟨(f3 b hb).1.2.2.2.1,(f3 b hb).1.2.1,(f3 b hb).1.2.2.2.2.1,(f3 b hb).1.2.2.2.2.2⟩
   have nC:H6 s3.heap.objs.size=none:=I6.free;obtain⟨m7,hn7,_⟩:=I6.loc;have hn7:s6.heap.Ns s3.heap.objs.size m7:=hn7;have F7:OK X pins H6 s3.heap.objs.size:=I3.fpOk (j1 _) nC;obtain⟨f0,f1,f2,f3',f4,f5⟩:=F7;refine⟨m7,hn7,λh8 sb8 qD hce=>?_⟩;have I8:V2 X pins σ H6 {s6 with heap:=h8}:=I7.turned (t':=s6.toks) (λb o hb e=>(sb8.2 b hb).trans e) f0 f1 f3' f4 f5;exact oP I8 l6 λH9 s9 I9 m9 l9=>tk.th pins σ H9 s9 a5 C5 fr5 dx5 I9 l9.live (by rw[m9,m6];exact w5)
  have pg:=hg tkB;have pt:=ht tkB;have pe:=he tkB;clear tkB;show codeAny _ _ (.compStart (.ListComp Lj [⟨tg,DF,Af,0⟩] scope pos) 0 (.ref it) (.ref D) (compEnvC scope (cellsFrom (s3.heap.objs.size+1) scope.names (k8 X.env.cells scope.names [])) s3.heap.objs.size X.env)) (compPost (model X.prog X.w) X.A X.xe use Qf (.ref D) s3.heap.objs.size) {s3 with heap:=pushCells (s3.heap.push {cls:=.type "dict",data:=.dict #[]}) scope.names};have nfp:∀b∈fp,(upd H2 D (.lst [])) b=none:=λb hb=>(f3 b hb).1.1;have hxe:xeB=notedBy (model X.prog X.w) X.A (compEnvC scope (cellsFrom (s3.heap.objs.size+1) scope.names (k8 X.env.cells scope.names [])) s3.heap.objs.size X.env) (λe s'=>RR (.error e) s'):=rfl
  clear_value xeB
  generalize hce:compEnvC scope (cellsFrom (s3.heap.objs.size+1) scope.names (k8 X.env.cells scope.names [])) s3.heap.objs.size X.env=ce at I4 pg pt pe hxe ⊢;have cL:ce.locals=s3.heap.objs.size:=by subst hce;rfl
  generalize hH3:upd H2 D (.lst [])=H3 at I3 I4 pg pt pe w0 nfp f3;generalize hs4:({s3 with heap:=pushCells (s3.heap.push {cls:=.type "dict",data:=.dict #[]}) scope.names}:Shared)=s4 at I4 ⊢;have st4:tn 0 s4.heap:=T.keep _ _ _ Ex λb _ o e=>by rw[<-hs4];exact kF _ _ _ _ (U0 _ e)
  have Jj:∀{σ':St}{H':Hp}{s':Shared},V2 (X.blk s3 H3 scope ce fp) [] σ' H' s'->(∀b∈fp,H' b=none)->∀b∈fp,OK (X.blk s3 H3 scope ce fp) [] H' b:=λ{σ' H' s'} I' hn b hb=>
   ⟨hn b hb,(I'.ok.exf b hb).1,I'.ok.exfs b hb,.inl hb,λx c e=>(I'.ok.exf b hb).2 x c e,λp hp=>absurd (show p∈([]:List (Addr×Obj))++[]from hp) (by simp)⟩
  have loop:codeAny (model X.prog X.w) X.A (.compLoop (.ListComp Lj [⟨tg,DF,Af,0⟩] scope pos) 0 (.ref it) (.ref D) ce) (compPost (model X.prog X.w) X.A X.xe use Qf (.ref D) s3.heap.objs.size) s4:=by
   refine UX (λn s'=>∃i H',V2 (X.blk s3 H3 scope ce fp) [] (T8 σ (own.map (·.2))) H' s'/\tn i s'.heap/\(∀b∈fp,H' b=none)/\W i n H') ?_ m0 ⟨0,H3,I4,st4,nfp,w0⟩;rintro n s5 ⟨i,H5,I5,st5,n5,w5⟩;rcases turn i n H5 w5 with⟨stop,qq⟩|⟨go,Nx,hNx,step⟩
   .have td:=T.done (X.blk s3 H3 scope ce fp) rfl rfl rfl hc i [] s5 _ H5 (λ_ _=>False) I5 (Jj I5 n5) st5 stop;refine zcr td λr s6 ⟨hr,I6⟩=>?_;subst hr;have I7:V2 X pins σ H5 s6:=I3.call' (ch:=fp) I6.os I6.base I6.hok I6.bare λb hb=>⟨(f3 b hb).1.2.2.2.1,(f3 b hb).1.2.1,(f3 b hb).1.2.2.2.2.1,(f3 b hb).1.2.2.2.2.2⟩
    have nC:H5 s3.heap.objs.size=none:=by
     have z:H5 ce.locals=none:=I6.free;rw[cL]at z;exact z
    obtain⟨m,hn,_⟩:=I6.loc;have hn:s6.heap.Ns ce.locals m:=hn;rw[cL]at hn;exact hRR D s3.heap.objs.size s6 m H5 I7 qq hn (I3.fpOk (j1 _) nC)
   .have ti:=T.item (X.blk s3 H3 scope ce fp) rfl rfl rfl hc i [] s5 _ H5 (λ_ _=>False) I5 (Jj I5 n5) st5 go;refine zcr ti λr s6 ⟨u,hr,h6⟩=>?_;subst hr;refine zcr h6 λ_ s7 ⟨x,H7,I7,r7,y7,st7,n7⟩=>?_;have I7':=I7.pinned (Jj I7 n7) (T.obj _ _ st7);refine L5 (pg _ s7 _ H7 x u _ (I7'.wish xeB) r7 (step x H7 y7)) (λ_ s8 ⟨σ8,H8,I8w,hw8,q8⟩=>?_) λ_ _ z=>(by rw[<-hxe];exact z)
    have I8:=I8w.unwish;refine L5 (pt _ s8 σ8 H8 _ (I8.wish xeB) q8) (λb s9 ⟨H9,I9w,q9⟩=>?_) λ_ _ z=>(by rw[<-hxe];exact z)
    have I9:=I9w.unwish;have fin:∀{s':Shared}{H':Hp},V2 (X.blk s3 H3 scope ce fp) ([]++xS fp s7.heap) σ8 H' s'->Nx H'->∃m,m<n/\∃i H',V2 (X.blk s3 H3 scope ce fp) [] (T8 σ (own.map (·.2))) H' s'/\tn i s'.heap/\(∀b∈fp,H' b=none)/\W i m H':=λ{s' H'} I' nx=>by
     obtain⟨m',hm,w'⟩:=hNx H' nx;have zfD:∀b∈fp,∀o,s7.heap.get? b=some o->s'.heap.get? b=some o/\H' b=none:=λb hb o e=>
      let z:=I'.pin (b,o) (Y3 _ (Y3 _ (jJ hb e)))
      ⟨z.1,z.2.1⟩
     have hl:(T8 σ (own.map (·.2))).length=σ8.length:=by rw[<-hw8,bL]
     refine⟨m',hm,i+1,H',(I'.unpinned (pins:=[])).weak hl (λj v e=>?_),T.keep _ _ _ st7 λb hb o e=>(zfD b hb o e).1,λb hb=>?_,w'⟩
     .rw[<-hw8]at e;exact(mP e).1
     .obtain⟨o,e,_⟩:=T.obj _ _ st7 b hb;exact(zfD b hb o e).2
    cases b with
    |false=>
     simp only[i3,l7]at q9 ⊢;exact fin I9 q9
    |true=>
     simp only[QF]at q9 ⊢;refine L5 (pe _ s9 σ8 H9 _ (I9.wish xeB) q9) (λz s10 ⟨yv,H10,I10w,r10,acc,hD10,hz10,nx⟩=>?_) λ_ _ z=>(by rw[<-hxe];exact z)
     have I10:=I10w.unwish;exact zcq (X:=X.blk s3 H3 scope ce fp) I10 hD10 hz10 r10 λs11 I11=>fin I11 nx
  exact codeAny_compStart_list loop (T.self X.A 0 _ _ _ st4 loop)
theorem bD(tk:GC X (λ_=>E))(FM:X.stack=X.env::X.outer)(hfm:X.env.frame=some X.env.locals)(hc:X.calm=true)(hN:X.N.Nodup)(hi:PI X tg DF wi)(ok:IZ X.N X.env.scope scope own)
 (hg:Uz X scope E λY=>PG Y tg g) (ht:Uz X scope E λY=>PTs Y Af tt)
 (he:Uz X scope E λY=>PE Y Lj te) (hs:∀x,foldedSetIterable DF X.env x=pure x:=by intro _;rfl) :
   PE X (.ListComp Lj [⟨tg,DF,Af,0⟩] scope pos) (tLc wi g tt te (own.map (·.2))):=by
  intro pins s σ H Q I h;rw[eval_ListComp];refine ZZ tk FM hfm hc hN I hi ok hg ht he hs h λD C s' m H' I' q hn f=>⟨m,hn,λh'' sb=>?_⟩
  obtain⟨f0,f1,f2,f3,f4,f5⟩:=f;exact⟨.ref D,H',I'.turned (t':=s'.toks) (λb o hb e=>(sb.2 b hb).trans e) f0 f1 f3 f4 f5,rfl,q⟩
theorem wI{i:Nat}{y:Str}{py:Pos}{zfE:Pos}(tk:GC X (λ_=>E)) (FM:X.stack=X.env::X.outer) (hfm:X.env.frame=some X.env.locals) (hc:X.calm=true) (hN:X.N.Nodup) (hy:X.N[i]?=some y) (hyl:X.env.scope.names.lookup y=some .local)
 (hsw:swapsWith (.ListComp Lj [⟨tg,DF,Af,0⟩] scope pos) (some (.Name y py)) zfE.line X.env=pure true) (hi:PI X tg DF wi) (ok:IZ X.N X.env.scope scope own)
 (hg:Uz X scope E λY=>PG Y tg g) (ht:Uz X scope E λY=>PTs Y Af tt)
 (he:Uz X scope E λY=>PE Y Lj te) (hs:∀x,foldedSetIterable DF X.env x=pure x:=by intro _;rfl) :
   PS X (.Assign [.Name y py] (.ListComp Lj [⟨tg,DF,Af,0⟩] scope pos) zfE) (Ry (tLc wi g tt te (own.map (·.2))) (aH i)):=by
  intro pins s σ H D I h;rw[exec_Assign_Name_used _ _ _ _ hsw];refine z0 (lA (z0 ?_));show wpAny _ X.A (do let _ <-comprehension (.ListComp Lj [⟨tg,DF,Af,0⟩] scope pos) scope X.env (firstIterPos [⟨tg,DF,Af,0⟩] pos) (newList []) false (eval DF X.env) (some (assign (.Name y py) X.env))) _ _ s;have h:tLc wi g tt te (own.map (·.2)) σ H (λx H1=>aH i x σ H1 D.nx):=h;refine z0 (i8 (ZZ (Qf:=λ_ s'=>SP X pins D .next s') tk FM hfm hc hN I hi ok hg ht he hs h λL C s' m H' I' q hn f=>?_) λ_ s' hq=>S0 (S0 hq));show wpAny _ _ (assign (.Name y py) X.env (.ref L)) _ _ _;refine wpAny_assign_Name (fW (v:=V.ref L) I' hN hy (.inl hyl) rfl (λs2 I2 ⟨a,sb,ha⟩=>?_) (.inr hyl));obtain⟨f0,f1,f2,f3,f4,f5⟩:=f;have haC:C≠a:=by
   rcases ha with z|z
   .rw[z];exact f1
   .exact λe=>f4 y a z e.symm
  refine⟨m,hn.sameBut sb haC,λh3 sb3=>?_⟩;exact⟨_,H',I2.turned (t':=s2.toks) (λb o hb e=>(sb3.2 b hb).trans e) f0 f1 f3 f4 f5,q⟩
end
end L2
namespace HT
open PySem PyProof.Rows
def lexGt:List Int->List Int->Bool
 |[],[]=>false
 |[],_::_=>false
 |_::_,[]=>true
 |x::xs,y::ys=>if x=y then lexGt xs ys else decide (y<x)
theorem lexGt_cons(x y:Int)(xs ys:List Int):lexGt (x::xs) (y::ys)=if x=y then lexGt xs ys else decide (y<x):=rfl
theorem lexGt_nil_nil:lexGt [] []=false:=rfl
theorem YS(y:Int)(ys:List Int):lexGt [] (y::ys)=false:=rfl
theorem ZS(x:Int)(xs:List Int):lexGt (x::xs) []=true:=rfl
theorem Du(A:Around)(s:Shared)(a:Int)(t:Tok)(c:Int)(u:Tok)(prog:Program)(w:World)(E:Value->Shared->Prop)(Q:Value->Shared->Prop)(h:Q (.bool (decide (c<a))) s) :
  wpAny (model prog w) A (richCompare .Gt (.int a t) (.int c u)) Q E s:=
 (PyProof.Rows.gt_int h:wpAny (model prog w) A (compareOp .Gt (.int a t) (.int c u)) Q E s)
section
open PySem.SeqAt
open PySem.AutoSeq1 (wpAny_loadPart')
open PySem.MeetsSeq PySem.MeetsSeq2 PySem.MeetsSeq3
theorem rV(l b:Addr)(items Y6:Array Value)(n n2:Nat)(dd Jf:Option Addr)(sl Kf:Array (Option Value))(ns ms:List Int)(hi:IntsAre items.toList ns)(hj:IntsAre Y6.toList ms) :
  Meets (Builtin.«tuple.__gt__» ⟨[.ref l,.ref b],[]⟩)
   (λ_ R s=>s.heap.get? l=some {cls:=.type "tuple",dict:=dd,data:=.seq items n,slots:=sl}/\s.heap.get? b=some {cls:=.type "tuple",dict:=Jf,data:=.seq Y6 n2,slots:=Kf}/\
     R (.ok (.ret (.bool (lexGt ns ms)))) s):=
 .of_wp λprog w A R s h=>by
  obtain⟨hp,g,d,tk,os⟩:=s;obtain⟨hl,hb,h⟩:=h;have f2:=EC;have z1:items.size=ns.length:=by rw[<-hi.length];simp
  have z2:Y6.size=ms.length:=by rw[<-hj.length];simp
  wp_walk using wpAny_loadPart' hl,wpAny_loadPart' hb,fI _ (λN7 b s'=>b.1=none/\s'=⟨hp,g,d,tk,os⟩/\∃(vs ws:List Value)(Lf Gr:List Int),N7=vs.zip ws/\
   IntsAre vs Lf/\IntsAre ws Gr/\Lf.length+Y6.size=Gr.length+items.size/\R (.ok (.ret (.bool (lexGt Lf Gr)))) ⟨hp,g,d,tk,os⟩) _
  case turn=>
   rintro⟨y,x⟩ N7 b s' ⟨cP,rfl,vs,ws,Lf,Gr,hz,hvi,Ye,CC,hR⟩;cases hvi with
   |nil=>rw[List.zip_nil_left]at hz;cases hz
   |cons a t hvi'=>
    cases Ye with
    |nil=>rw[List.zip_nil_right]at hz;cases hz
    |cons c u hwi'=>
     rw[WC]at hz;injection hz with hyx hrest;injection hyx with hy hx;subst hy hx;rw[lexGt_cons]at hR;simp only[M1]at CC;obtain⟨e,he,Fx⟩:=EZ A.in1 ⟨hp,g,d,tk,os⟩ a t c u;refine z0 (he prog w _ _ ?_);cases e with
     |true=>
      rw[K0 (Fx.mp rfl)]at hR
      wp_walk
      exact⟨rfl,rfl,_,_,_,_,hrest,hvi',hwi',by lia,hR⟩
     |false=>
      rw[D0 (λq=>absurd (Fx.mpr q) T1)]at hR;have hri:=Du A.in1 ⟨hp,g,d,tk,os⟩ a t c u prog w
      wp_walk using hri
      exact⟨_,rfl,by simpa using hR⟩
  case fin=>
   rintro⟨b1,b2⟩ s' ⟨cP,rfl,vs,ws,Lf,Gr,hz,hvi,Ye,CC,hR⟩;simp only at cP;subst cP;have hv:lexGt Lf Gr=decide (Y6.size<items.size):=by
    cases hvi with
    |nil=>
     cases Ye with
     |nil=>
      simp only[F6]at CC;rw[lexGt_nil_nil];exact(Y0 (by lia)).symm
     |cons c u hw=>
      simp only[F6,M1]at CC;rw[YS];exact(Y0 (by lia)).symm
    |cons a t hv=>
     cases Ye with
     |nil=>
      simp only[F6,M1]at CC;rw[ZS];exact(F1 (by lia)).symm
     |cons c u hw=>
      rw[WC]at hz;cases hz
   rw[hv]at hR
   wp_walk
   exact⟨_,rfl,by simpa[Builtin.Tuple.tupleCompareSizes]using hR⟩
  case h=>
   exact⟨rfl,rfl,items.toList,Y6.toList,ns,ms,rfl,hi,hj,by lia,h⟩
end
theorem gt_tupInts{prog:Program}{w:World}{A:Around}{E:Value->Shared->Prop}{s:Shared}{l b:Addr}{items Y6:Array Value}{ns ms:List Int}{Q:Value->Shared->Prop}(hl:IsTup s.heap l items) (hb:IsTup s.heap b Y6) (hi:IntsAre items.toList ns) (hj:IntsAre Y6.toList ms)
  (hu:A.units<cLine) (h:Q (.bool (lexGt ns ms)) s):wpAny (model prog w) A (compareOp .Gt (.ref l) (.ref b)) Q E s:=by
 obtain⟨⟨cls,dd,data,sl⟩,ho,hc,n,hd⟩:=id hl;obtain⟨⟨zaN,Jf,data2,Kf⟩,EX,qZ,n2,bW⟩:=id hb;simp only at hc hd qZ bW;subst hc hd qZ bW;exact DD (op:=.Gt) ⟨_,ho,rfl⟩ ⟨_,EX,rfl⟩ PySem.F.slot_tuple_gt PySem.F.entry_tuple_gt (PySem.F.args_tuple_gt_2 _ _) (rV l b items Y6 n n2 dd Jf sl Kf ns ms hi hj)
  ⟨ho,EX,show Value.bool (lexGt ns ms)≠Value.notImplemented/\Q (.bool (lexGt ns ms)) s from⟨(λx=>nomatch x),h⟩⟩ hu
end HT
namespace L2
open PySem PySem.Spec PyProof.Rows
open PySem.AutoSeq1 (wpAny_loadPart')
variable {it t l:Addr}{A:Around}{items:Array Value}{cm:Bool}{X:Cx}{e:Expr}{Ix:List Expr}{i:Nat}{aW pos:Pos}{prog P:Program}{s:Shared}{x:Value}{E Q:Value->Shared->Prop}{w:World}
inductive zeV(K:Frag)(x:V)(y:V)(H:Hp)(Q:VK):Prop
 |mk (a b ns ms:_):x=.ref a->y=.ref b->S9 K H a (ns.map V.int)->S9 K H b (ms.map V.int)->Q (.bl (HT.lexGt ns ms)) H->zeV K x y H Q
theorem zcC(hu:X.A.units<cLine):kJ X (compareOp .Gt) (zeV X.K):=by
 intro pins s σ H x y v u Q I rx ry h;obtain⟨a,b,ns,ms,rfl,rfl,ha,hb,q⟩:=h;cases rx;cases ry;obtain⟨its,r1,p1,_⟩:=I.tuple ha;obtain⟨IK,r2,p2,_⟩:=I.tuple hb;have i1:IntsAre its.toArray.toList ns:=nJ r1;have i2:IntsAre IK.toArray.toList ms:=nJ r2;exact HT.gt_tupInts p1 p2 i1 i2 hu ⟨.bl (HT.lexGt ns ms),H,I,rfl,q⟩
theorem Rg(dJ:s.heap.IsTupleIter it t i)(ht:s.heap.IsTuple t items)(hx:items[i]?=some x)
 (hQ:∀h',h'.IsTupleIter it t (i+1)->Heap.SameBut it s.heap h'->Q x {s with heap:=h'}):wpAny (model prog w) A (Builtin.SmallTypes.nextOf (.ref it)) Q E s:=by
  obtain⟨o,ho,hc,hd⟩:=id dJ;obtain⟨ot,hot,_,n,Qn⟩:=ht;unfold Builtin.SmallTypes.nextOf;refine z0 (o7 (name:=Str.ofString "__next__") dJ.typeIs J9 (w9 J9 dJ.typeIs TF ?_ (pF _)));have nt:¬((Value.ref t==Value.none)=true):=λz=>nomatch z;show wpAny _ _ (field (.ref it) 0>>=λv=>if (v==Value.none)=true then _ else _) _ _ s;refine z0 (K5 ho hd (x:=.ref t) rfl ?_);rw[D0 nt];refine z0 (K5 ho hd (x:=.int i 0) rfl (z0 (IB hot Qn ?_)));simp only[P4,hx];refine z0 (E9 ho hd (by simp) (S0 ⟨x,rfl,S0 (hQ _ ⟨_,vB _ ho (Obj.isFreed_of_fields (Obj.data_mapFields hd _)),(Obj.cls_mapFields ..).trans hc,?_⟩ (JF ..))⟩));rw[Obj.data_mapFields hd];simp[rawInt]
theorem zW(hh:A.handled=none)(dJ:s.heap.IsTupleIter it t i)(ht:s.heap.IsTuple t items)(hx:items[i]?=none)
 (hE:∀h' e,Heap.ExtBut it s.heap h'->(∃o,h'.get? e=some o/\o.cls=.type "StopIteration")->E (.ref e) {s with heap:=h'}):wpAny (model prog w) A (Builtin.SmallTypes.nextOf (.ref it)) Q E s:=by
  obtain⟨o,ho,hc,hd⟩:=id dJ;obtain⟨ot,hot,_,n,Qn⟩:=ht;unfold Builtin.SmallTypes.nextOf;refine z0 (o7 (name:=Str.ofString "__next__") dJ.typeIs J9 (w9 J9 dJ.typeIs TF ?_ (pF _)));have nt:¬((Value.ref t==Value.none)=true):=λz=>nomatch z;show wpAny _ _ (field (.ref it) 0>>=λv=>if (v==Value.none)=true then _ else _) _ _ s;refine z0 (K5 ho hd (x:=.ref t) rfl ?_);rw[D0 nt];refine z0 (K5 ho hd (x:=.int i 0) rfl (z0 (IB hot Qn ?_)));simp only[P4,hx];refine z0 (MM (z0 (E9 ho hd (by simp) ?_)));show wpAny _ _ (newExc (.type "StopIteration") []>>=_) _ _ _;refine z0 ?_;simp only[newExc,newTuple];refine z0 (F5 ?_ (by size_fits));refine z0 (m:=firstArgMember _ _) (wpAny_of_eq (a:=Value.none) (by first|rfl|(simp only[firstArgMember];rfl)) ?_);refine F5 ?_ (by size_fits);simp only[raiseNew];refine z0 (EH ?_)
  first|rw[show A.in1.handled=none from hh]|rw[hh]
  refine z0 (S0 (tD ?_));exact hE _ _ (((JF ..).extBut.push _).push _) ⟨_,X1 _ rfl,rfl⟩
theorem Yo(hh:A.handled=none)(it t:Addr)(JK:t≠it)(items:Array Value):Draws prog w A it [it,t] items.size (λi v=>items[i]?=some v) (λi h=>h.IsTupleIter it t i/\h.IsTuple t items) where
 live:=λ_ _ st=>let ⟨o,ho,_⟩:=st.1;⟨o,ho⟩
 frame:=λ_ _ _ st hk=>⟨st.1.at λo e=>hk it (by simp) o e,let ⟨o,ho,r⟩:=st.2;⟨o,hk t (by simp) o ho,r⟩⟩
 item:=λi s Q E hi st hQ=>Rg st.1 st.2 (x:=items[i]) (by simp[hi]) λh' a b=>hQ _ h' s.toks (by simp[hi]) ⟨a,st.2.extBut b.extBut JK⟩ b
 done:=λs Q E st hE=>zW hh st.1 st.2 (by simp) hE
theorem lR{e:Addr}{old:Value}{Q:Option Value->Shared->Prop}(he:IsEnum s.heap e it i old) (dJ:s.heap.IsTupleIter it l i) (hl:s.heap.IsTuple l items) (hx:items[i]?=some x) (JK:e≠it) (hh:A.handled=none)
 (hQ:∀h' tk,IsEnumOut h' e it ((i:Int)+1) x s.heap.objs.size->h'.IsTupleIter it l (i+1)->h'.get? s.heap.objs.size=some {cls:=.type "tuple",data:=.seq #[.int i tk,x]}->h'.objs.size=s.heap.objs.size+1->
 (∀b o,b≠e->b≠it->s.heap.get? b=some o->h'.get? b=some o)->Q (some (.ref s.heap.objs.size)) {s with heap:=h',toks:=tk+1}):wpAny (model prog w) A (pyNext (.ref e)) Q E s:=by
  have hi:i<items.size:=(G9.mp hx).1;obtain⟨oi,hoi,hci,_⟩:=id dJ;obtain⟨ol,hol,Xr,_⟩:=id hl;have hil:l≠it:=λz=>by
   subst z;obtain rfl:oi=ol:=J0 (hoi.symm.trans hol);rw[hci]at Xr;exact absurd Xr (by decide)
  have hel:e≠l:=λz=>by
   subst z;have q:_=ol:=J0 (he.symm.trans hol);rw[<-q]at Xr;exact absurd (show Value.type "enumerate"= Value.type "tuple" from Xr) (by decide)
  refine wpAny_pyNext_enum_itemD (Yo (A:=A.in1) hh it l hil items) he ⟨dJ,hl⟩ hi JK (by simp[JK,hel]) λy h' tk hy a b c d k=>?_;obtain rfl:x=y:=J0 (hx.symm.trans hy);exact hQ h' tk a b.1 c d k
theorem aT{e:Addr}{old:Value}{Q:Option Value->Shared->Prop}(hh:A.handled=none) (he:IsEnum s.heap e it i old) (dJ:s.heap.IsTupleIter it l i) (hl:s.heap.IsTuple l items) (hx:items[i]?=none)
 (hQ:∀h',Heap.ExtBut it s.heap h'->Q none {s with heap:=h'}):wpAny (model prog w) A (pyNext (.ref e)) Q E s:=by
  have hT:s.TypeIs (.ref e) "enumerate":= ⟨_,he,rfl⟩;unfold pyNext;refine z0 (CH (o7 (name:=Str.ofString "__next__") hT sK (w9 sK hT F.entry_enumerate_next ?_ (F.args_enumerate_next_1 _))));show wpAny _ _ (field (.ref e) 2>>=_) _ _ _;refine z0 (K5 he rfl (x:=.ref it) rfl (z0 (zW hh dJ hl hx λh' x k ⟨o,ho,hc⟩=>?_)));exact z0 (wpAny_isInstance (T:= "StopIteration") (b:=true) ⟨o,ho,hc⟩ isSubtype_stop (S0 (hQ _ k)))
theorem Aa(l:Addr)(items:Array Value)(n:Nat)(dct:Option Addr)(sl:Array (Option Value)) :
  Meets (Builtin.«enumerate.__new__» ⟨[.type "enumerate",.ref l],[]⟩) (λ_ R s=>s.heap.get? l=some {cls:=.type "tuple",dict:=dct,data:=.seq items n,slots:=sl}/\
   R (.ok (.ret (.ref (s.heap.push {cls:=.type "tuple_iterator",data:=.fields #[.ref l,.int 0 0]}).objs.size)))
    {s with heap:=(s.heap.push {cls:=.type "tuple_iterator",data:=.fields #[.ref l,.int 0 0]}).push {cls:=.type "enumerate",data:=.fields #[.none,.bool false,.ref s.heap.objs.size,rawInt 0,.none,.none]}}):=
 .of_wp λprog w A R s h=>by
  obtain⟨hp,g,d,tk,os⟩:=s;obtain⟨hl,h⟩:=h;have zlT:=sub_enumerate;have hL:Heap.IsTuple (Shared.heap ⟨hp,g,d,tk,os⟩) l items:=⟨_,hl,rfl,n,rfl⟩
  wp_walk using wpAny_loadPart' hl
  refine wpAny_stack_any λst=>S0 ?_;split
  .rename_i c _ _ _ _ _;cases (c==Value.type "enumerate")<;>
   .wp_walk using wpAny_loadPart' hl,iG hL
    exact⟨_,rfl,h⟩
  .wp_walk using wpAny_loadPart' hl,iG hL
   exact⟨_,rfl,h⟩
theorem Sg(hL:s.heap.IsTuple l items)
 (h:∀h',IsEnum h' (s.heap.objs.size+1) s.heap.objs.size 0 .none->h'.IsTupleIter s.heap.objs.size l 0->h'.objs.size=s.heap.objs.size+2->(∀b o,s.heap.get? b=some o->h'.get? b=some o)->Q (.ref (s.heap.objs.size+1)) {s with heap:=h'}) :
   wpAny (model prog w) A (call (.type "enumerate") [.ref l]) Q E s:=by
  obtain⟨⟨c,dct,dt,sl⟩,hl,hc,n,hd⟩:=hL;obtain rfl:c=.type "tuple":= hc;obtain rfl:dt=.seq items n:=hd;refine callType_new F.called_enumerate (by decide) (F.typeCall_enumerate_1 _) (F.newCall_enumerate_1 _) (λobj=>F.args_object_init_2 obj _) F.entry_enumerate_new (Aa l items n dct sl) ⟨hl,?_⟩;have hz:(s.heap.push {cls:=.type "tuple_iterator",data:=.fields #[.ref l,.int 0 0]}).objs.size=s.heap.objs.size+1:=X4 ..;have z:=X1 (s.heap.push {cls:=.type "tuple_iterator",data:=.fields #[.ref l,.int 0 0]}) (o:={cls:=.type "enumerate",data:=.fields #[.none,.bool false,.ref s.heap.objs.size,rawInt 0,.none,.none]}) rfl;show _/\_;rw[hz]at z ⊢;exact⟨⟨_,z,rfl⟩,h _ z ⟨_,U0 _ (X1 _ rfl),rfl,rfl⟩ (by rw[X4,hz]) λb o q=>U0 _ (U0 _ q)⟩
def Eu(K:Frag)(a:Addr):It:=
 ⟨λi H=>∃(xs:List V)(x:V),S9 K H a xs/\xs[i]?=some x,λi H v H'=>∃T x,v=.ref T/\H T=none/\H'=upd H T (.tup [.int (i:Nat),x])/\∀xs,S9 K H a xs->xs[i]?=some x,λi H=>∃xs:List V,S9 K H a xs/\xs.length<=i⟩
theorem Tg{K:Frag}{kk:Nat}(a e it:Addr) :
  lV P w K (.Tuple Ix kk aW) (Eu K a) [e,it] e (λi h=>(∃old,IsEnum h e it ((i:Nat):Int) old)/\h.IsTupleIter it a i/\e≠it) where
 mem:=by simp
 obj:=λi h st b hb=>by
  obtain⟨⟨old,he⟩,⟨o,ho,hc,hd⟩,_⟩:=st;have e':b=e\/b=it:=by simpa using hb
  rcases e' with z|z
  .rw[z];exact⟨_,he,λv q=>nomatch q⟩
  .rw[z];exact⟨o,ho,λv q=>by rw[hd]at q;cases q⟩
 keep:=λi h h' st k=>let ⟨⟨old,he⟩,hi,JK⟩:=st;⟨⟨old,k e (by simp) _ he⟩,hi.at λo q=>k it (by simp) o q,JK⟩
 item:=by
  intro X hP hw hK hc i pins s σ H E I hf st hg;subst hP hw hK;obtain⟨⟨old,he⟩,dJ,JK⟩:=st;obtain⟨xs,x,hq,hx⟩:=hg;obtain⟨its,rv,p,hz⟩:=I.tuple hq;obtain⟨u,hu,ru⟩:=rv.get hx;have hel:e<s.heap.objs.size:=F2 he;have hil:it<s.heap.objs.size:=by obtain⟨_,q,_⟩:=dJ;exact F2 q
  refine lR he dJ (show s.heap.IsTuple a its.toArray from p) (x:=u) (by simpa using hu) JK (I.ok.hd hc) λh' tk ho Jx hT hsz hk=>?_;refine⟨_,rfl,nG (s:={s with heap:=h',toks:=tk+1}) ho λh'' he' sb=>?_⟩;have hT2:h''.get? s.heap.objs.size=some {cls:=.type "tuple",data:=.seq #[.int i tk,u]}:=(sb.2 _ (PF hel)).trans hT;have new:k9 X.prog X.w (upd H s.heap.objs.size (.tup [.int (i:Nat),x])) h'' s.heap.objs.size (.tup [.int (i:Nat),x]):=
   ⟨by show 2<=sizeLine;decide,[.int i tk,u],.cons ⟨_,rfl⟩ (.cons ru .nil),⟨_,hT2,rfl,_,rfl⟩⟩
  have I1:V2 X pins σ (upd H s.heap.objs.size (.tup [.int (i:Nat),x])) {s with heap:=h'',toks:=tk+1}:=
   I.turnedNew (ch:=[e,it]) (λb ob hb q=>(sb.2 b (λz=>hb (by simp[z]))).trans (hk b ob (λz=>hb (by simp[z])) (λz=>hb (by simp[z])) q)) hf (j1 _) new
  refine⟨.ref s.heap.objs.size,_,I1,rfl,⟨_,x,rfl,I.hok.fresh (j1 _),rfl,λys hy=>by rw[I.tuple_inj hy hq];exact hx⟩,⟨⟨u,?_⟩,Jx.at λo q=>(sb.2 it (K2 JK)).trans q,JK⟩,λb hb=>?_⟩
  .have e1:((i+1:Nat):Int)=(i:Int)+1:=by lia
   rw[e1];exact he'
  .have cP:b<s.heap.objs.size:=by
    have e':b=e\/b=it:=by simpa using hb
    rcases e' with z|z
    .rw[z];exact hel
    .rw[z];exact hil
   rw[M0 (j3 cP)];exact(hf b hb).1
 done:=by
  intro X hP hw hK hc i pins s σ H E I hf st hg;subst hP hw hK;obtain⟨⟨old,he⟩,dJ,JK⟩:=st;obtain⟨xs,hq,hx⟩:=hg;obtain⟨its,rv,p,hz⟩:=I.tuple hq;obtain⟨f0,f1,f2,f3,f4,f5⟩:=hf it (by simp);have hl:=rv.length;exact aT (I.ok.hd hc) he dJ (show s.heap.IsTuple a its.toArray from p) (by simp;lia) λh' eb=>⟨rfl,I.turned (t':=s.toks) (λb o hb q=>eb b o hb q) f0 f1 f3 f4 f5⟩
 self:=λA i s Q E st h=>let ⟨⟨_,he⟩,_⟩:=st;JD he h
inductive Wk(K:Frag)(R:It->Hp->Prop)(vs:List V)(H1:Hp):Prop
 |mk (a xs:_):vs=[.ref a]->S9 K H1 a xs->R (Eu K a) H1->Wk K R vs H1
def zcD(K:Frag)(ta:TA):TI:=λσ H R=>ta σ H (Wk K R)
theorem Fu{ta:TA}{p:Pos}{kk:Nat}(hg:Gl X "enumerate") (hm:X.mg "enumerate"= none) (ha:PA X [e] ta) (hs:starEach [e] X.env=[(false,eval e X.env)]:=by rfl) :
  PI X (.Tuple Ix kk aW) (.Call (.Name "enumerate" p) [e] [] pos) (zcD X.K ta):=by
 intro pins s σ H R I h;refine Call_ (fJ I hg hm boot_enumerate (b6 (i8 (ha pos pins s σ H _ I h) λus s1 ⟨vs,H1,I1,r1,q1⟩=>?_) hs rfl));obtain⟨a,xs,ex,hq,q⟩:=q1;subst ex;cases r1 with
 |cons r rr=>
  cases rr;cases r;obtain⟨its,rv,p',hz⟩:=I1.tuple hq;refine Sg (show s1.heap.IsTuple a its.toArray from p') λh' he dJ hsz hk=>JD he ?_;have I2:V2 X pins σ H1 {s1 with heap:=h'}:=I1.kept (t':=s1.toks) hk;refine⟨s1.heap.objs.size+1,[s1.heap.objs.size+1,s1.heap.objs.size],_,_,H1,rfl,I2,Tg a (s1.heap.objs.size+1) s1.heap.objs.size,⟨⟨.none,he⟩,dJ,Nat.succ_ne_self _⟩,λb hb=>?_,q⟩;have e':b=s1.heap.objs.size+1\/b=s1.heap.objs.size:=by simpa using hb
  have hle:s1.heap.objs.size<=b:=by
   rcases e' with z|z
   .rw[z];exact Nat.le_add_right _ _
   .rw[z];exact j1 _
  exact I1.fpOk hle (I1.hok.fresh hle)
inductive zeW(K:Frag)(x:V)(y:V)(H:Hp)(Q:VK):Prop
 |mk (p q xs:_):x=.ref p->y=.ref q->SqL K H p xs->SqL K H q []->Q (.bl (!xs.isEmpty)) H->zeW K x y H Q
theorem zcE(hu:X.A.units<cLine):kJ X (compareOp .NotEq) (zeW X.K):=by
 intro pins s σ H x y v u Q I rx ry h;obtain⟨p,q,xs,rfl,rfl,hp,hq,k⟩:=h;cases rx;cases ry;obtain⟨its,r1,p1,_⟩:=I.list hp;obtain⟨IK,r2,p2,_⟩:=I.list hq;cases r2;have l1:=r1.length;have fin:∀b:Bool,b=!xs.isEmpty->EP X pins σ Q (.bool b) s:=λb e=>⟨.bl b,H,I,rfl,by rw[e];exact k⟩
 cases xs with
 |nil=>
  cases r1;exact(SeqAt.RcNeAt.lists (e:=λ_=>true) p1.isList p2.isList rfl hu (λj h1 _=>absurd h1 (by simp)) X.prog X.w X.xe _ (fin _ rfl):wpAny (model X.prog X.w) X.A (compareOp .NotEq (.ref p) (.ref q)) _ X.xe s)
 |cons x xs=>
  exact(SeqAt.RcNeAt.lists_lengths p1.isList p2.isList (by simp[<-l1]) hu X.prog X.w X.xe _ (fin _ rfl):wpAny (model X.prog X.w) X.A (compareOp .NotEq (.ref p) (.ref q)) _ X.xe s)
theorem N8.mark{k:Nat}{h:Option Value}(r:N8 cm k A):N8 false k (A.mark h):=⟨(λz=>nomatch z),r.dp,r.un⟩
theorem MN{K:Frag}{f:Str}{ta:TE}(hK:X.K=K) (he:PE X e ta) (hb:attributeBase e f X.env (eval e X.env)=eval e X.env):PE X (.Attribute e f pos) (zbh K ta f):=by
 subst hK;exact Tz he hb
theorem bT{K:Frag}{W:WX}{c:Expr}{te tc:TE}{b:Addr}(hK:X.K=K) (tk:GC X W) (hh:X.A.handled=some (.ref b)) (he:PE X e te) (hcs:PE X c tc):PS X (.Raise (some e) (some c) pos) (Vk K W b te tc):=by
 subst hK;exact Uo tk hh he hcs
open PySem.W (Codec OpenSpec) in
theorem walk_specX{r:OpenSpec}{k:Nat}{q:Program}{Kx:List Str}{XP:(Str->Option Value)->Heap->Prop}{YP:World->Heap->Prop}{d:DefRec}{K:Params->Frag}{ps:List Str}{sp:Frag->Sp}
 (Lx:r.wellSaid=true) (hdf:d.params.defaults=[]) (CC:r.args.length=ps.length) (hr:N8 cm k callerA) (hY:∀(w:World)(h:Heap),YP w h->(K w.params).In h)
 (F:∀(w:World)(mg:Str->Option Value)(fa:Addr)(h:Heap),YP w h->(K w.params).In h->h.Ns mainGlobals mg->mg d.name=some (.ref fa)->
 ∃fd:FuncData,(∀(s:Shared)(us:List Value),us.length=ps.length->BindsTo s fd ⟨us,[]⟩ (ps.zip us))/\∀base:Heap,(K w.params).In base->base.Ns mainGlobals mg->xA r.prog w (K w.params) mg base (kR r.prog w) cm k fa fd ps (sp (K w.params)))
 (hsp:∀(K:Frag)(H:Hp)(xs:List V)(a:Codec.denoteAll r.args),SZ H->Codec.withinAll r.args a=true->Codec.app r.args r.asked a=true->cK K H xs (Codec.encAll r.args a)->
 sp K xs H (λv H'=>Dw K H' v (r.ret.enc (Codec.app r.args r.f a))) λ_ _ _=>False):WalkOS q Kx XP YP r d [] (λf vs=>PySem.call f vs):=
  Ro (K:=K) (CX:=λw=>kR r.prog w) (sp:=λw=>sp (K w.params)) Lx hdf CC hr hY F (λw H xs a h1 h2 h3 h4=>hsp (K w.params) H xs a h1 h2 h3 h4) λ_ _ _ _ _ ⟨_,_,_,_,_,_,_,_,_,_,_,q⟩=>q
theorem zbi:uB (kR P w) X (λ_ _ _ _=>False):=λ_ _ _ _ _ _ _ ⟨_,_,_,_,_,_,_,_,_,_,_,q⟩=>q.elim
end L2
namespace Wm
open Bd
def F8(s:UInt8):Bytes->List Bytes
 |[]=>[[]]
 |c::r=>if c=s then[]::F8 s r else match F8 s r with
  |[]=>[[c]]
  |x::l=>(c::x)::l
def Qr(s:UInt8)(p:List Bytes×Bytes)(c:UInt8):List Bytes×Bytes:=if c=s then(p.1++[p.2],[])else(p.1,p.2++[c])
def fl(s:UInt8)(t:Bytes):List Bytes×Bytes:=t.foldl (Qr s) ([],[])
def parts(p:List Bytes×Bytes):List Bytes:=p.1++[p.2]
theorem Vz(s:UInt8)(t:Bytes)(c:UInt8):fl s (t++[c])=Qr s (fl s t) c:=by
 grind [fl]
theorem NM:∀t:Bytes,wordsOf t=F8 32 t
 |[]=>rfl
 |c::r=>by
  unfold wordsOf F8;rw[NM r];rfl
theorem dA(s:UInt8):∀t:Bytes,∃x l,F8 s t=x::l
 |[]=>⟨_,_,rfl⟩
 |c::r=>by
  obtain⟨x,l,e⟩:=dA s r;unfold F8
  all_goals grind
theorem OM(s:UInt8):∀(t:Bytes)(i:List Bytes)(l x:Bytes)(r:List Bytes),F8 s t=x::r->parts (t.foldl (Qr s) (i,l))=i++(l++x)::r
 |[],i,l,x,r,h=>by
  cases h;simp[parts]
 |c::t,i,l,x,r,h=>by
  obtain⟨y,q,e⟩:=dA s t;rw[OC];unfold F8 at h;rw[e]at h;by_cases hc:c=s
  .rw[K0 hc]at h;obtain⟨h1,h2⟩:=pB h;subst h1 h2;rw[show Qr s (i,l) c=(i++[l],[])from K0 hc,OM s t _ _ y q e];simp
  .rw[D0 hc]at h;obtain⟨h1,h2⟩:=pB h;subst h1 h2;rw[show Qr s (i,l) c=(i,l++[c])from D0 hc,OM s t _ _ y q e];simp
theorem cT(s:UInt8)(t:Bytes):parts (fl s t)=F8 s t:=by
 obtain⟨x,l,e⟩:=dA s t;unfold fl;rw[OM s t [] [] x l e,e];rfl
theorem Ba:∀t:Bytes,F8 10 t=(linesOf t).1++[(linesOf t).2]
 |[]=>rfl
 |c::r=>by
  have ih:=Ba r;unfold F8 linesOf;by_cases h:c=10
  .simp only[K0 h];rw[ih];rfl
  .simp only[D0 h];rw[ih];cases e:(linesOf r).1 with
   |nil=>rfl
   |cons x l=>rfl
theorem Ca(t:Bytes):fl 10 t=linesOf t:=by
 grind [cT,Ba,parts,List.append_inj']
theorem Gu:∀d:Nat,d<10->UInt8.ofNat (Nat.digitChar d).toNat=UInt8.ofNat (48+d):=by decide
theorem pP{n:Nat}(h:n<10):number n=[UInt8.ofNat (48+n)]:=by
 show((String.ofList (Nat.toDigits 10 n)).toList.map _)=_;rw[dF,Nat.toDigits_of_lt_base h];show[UInt8.ofNat (Nat.digitChar n).toNat]=_;rw[Gu n h]
theorem AW{n:Nat}(h:10<=n):number n=number (n/10)++[UInt8.ofNat (48+n%10)]:=by
 show((String.ofList (Nat.toDigits 10 n)).toList.map _)=((String.ofList (Nat.toDigits 10 (n/10))).toList.map _)++_;rw[dF,dF,Nat.toDigits_of_base_le (by decide) h,V0];show _++[UInt8.ofNat (Nat.digitChar (n%10)).toNat]=_;rw[Gu (n%10) (PM _ (by decide))]
theorem vJ(x:Bytes)(c:UInt8):valueOf (x++[c])=10*valueOf x+(c.toNat-48):=by
 grind [valueOf]
theorem Da{c:UInt8}(h:isDigit c=true):UInt8.ofNat (48+(c.toNat-48))=c/\c.toNat-48<10:=by
 unfold isDigit at h;simp only[D1,P0]at h;refine⟨?_,by lia⟩
 simp_all
def uG(x:Bytes):Bool:=x.headD 0==48&&decide (1<x.length)
theorem Ea:∀(n:Nat),10<=n->(number n).headD 0≠48/\number n≠[]/\1<(number n).length:=by
 intro n
 induction n using Nat.strongRecOn with
 |_ n ih=>
  intro h;rw[AW h];by_cases h2:10<=n/10
  .obtain⟨a,b,c⟩:=ih (n/10) (by lia) h2;cases e:number (n/10)with
   |nil=>exact absurd e b
   |cons y l=>
    rw[e]at a;refine⟨a,by simp,?_⟩;simp
  .rw[pP (by lia)];refine⟨?_,by simp,by simp⟩;have hn:n/10<10:=by lia
   have h1:1<=n/10:=by lia
   have q:∀d:Nat,d<10->1<=d->UInt8.ofNat (48+d)≠48:=by decide
   exact q _ hn h1
theorem Zo:∀(x:Bytes),x≠[]->x.all isDigit=true->x.headD 0≠48->1<=valueOf x:=by
 intro x
 suffices h:∀(y:Bytes)(a:Nat),1<=a->1<=y.foldl (λ(n:Nat)(c:UInt8)=>10*n+(c.toNat-48)) a by
  intro hx hd hh;cases x with
  |nil=>grind
  |cons c r=>
   unfold valueOf;rw[OC];refine h r _ ?_;simp only[O8,D1]at hd;have hc:isDigit c=true:=hd.1;unfold isDigit at hc;simp only[D1,P0]at hc;have:c.toNat≠48:=λz=>hh (by
    exact qF.mp z)
   lia
 intro y
 induction y<;>grind
theorem NN:∀(n:Nat)(x:Bytes),x.length=n->x≠[]->x.all isDigit=true->uG x=false->number (valueOf x)=x
 |0,x,hl,hx,_,_=>absurd (X3.mp hl) hx
 |n+1,x,hl,hx,hd,hn=>by
  have e:x=x.dropLast++[x.getLast hx]:=(lB hx).symm;generalize x.dropLast=y at e;generalize x.getLast hx=c at e;subst e;simp only[List.all_append,O8,ON,FH,D1]at hd;obtain⟨e2,h2⟩:=Da hd.2;rw[vJ];cases y with
  |nil=>
   show number (10*0+(c.toNat-48))=[c];rw[Nat.mul_zero,bB,pP h2,e2]
  |cons d r=>
   have hh:(d::r).headD 0≠48:=by
    unfold uG at hn;grind
   have p:=Zo (d::r) (by simp) hd.1 hh;have nn:uG (d::r)=false:=by
    unfold uG;grind
   have ih:=NN n (d::r) (by simpa using hl) (by simp) hd.1 nn;rw[AW (by lia),show(10*valueOf (d::r)+(c.toNat-48))/10=valueOf (d::r) by lia,show(10*valueOf (d::r)+(c.toNat-48))%10=c.toNat-48 by lia,ih,e2]
def xI(x:Bytes):Bool:=decide (1<=x.length)&&(decide (x.length<=5)&&(x.all isDigit&&!uG x))
theorem uM(x:Bytes):readNumber x=if xI x=true then some (valueOf x)else none:=by
 unfold readNumber;by_cases h:xI x=true
 .rw[K0 h];unfold xI at h;simp only[D1,P0,O3]at h;obtain⟨h1,h2,h3,h4⟩:=h;have hx:x≠[]:=λz=>by grind
  rw[K0 ⟨hx,h2,h3,NN x.length x rfl hx h3 h4⟩]
 .rw[D0 h];refine D0 λ⟨a,b,c,d⟩=>h ?_;unfold xI;have l1:1<=x.length:=by
   cases x with
   |nil=>grind
   |cons _ _=>simp
  simp only[D1,P0,O3];refine⟨l1,b,c,?_⟩;cases hn:uG x with
  |false=>rfl
  |true=>
   unfold uG at hn;by_cases h10:10<=valueOf x
   .have z:=(Ea _ h10).1;grind
   .rw[pP (by lia)]at d;rw[<-d]at hn;simp at hn
theorem Ug:∀(x:Bytes),x.length<=5->x.all isDigit=true->valueOf x<100000:=by
 have h:∀(n:Nat)(x:Bytes),x.length=n->x.all isDigit=true->valueOf x<10^n:=by
  intro n
  induction n with
  |zero=>
   intro x hl _;rw[X3.mp hl];decide
  |succ n ih=>
   intro x hl hd;have hx:x≠[]:=λz=>by rw[z]at hl;cases hl
   have e:x=x.dropLast++[x.getLast hx]:=(lB hx).symm;generalize x.dropLast=y at e;generalize x.getLast hx=c at e;subst e;simp only[List.all_append,O8,ON,FH,D1]at hd;obtain⟨_,h2⟩:=Da hd.2;have z:=ih y (by simpa using hl) hd.1;rw[vJ,PN]
   lia
 intro x hl hd;exact O2 (h x.length x rfl hd) (eA (by decide) hl)
def eT(s:UInt8):List Bytes->Bytes
 |[]=>[]
 |[x]=>x
 |x::y::l=>x++s::eT s (y::l)
theorem QM(s:UInt8):∀t:Bytes,eT s (F8 s t)=t
 |[]=>rfl
 |c::r=>by
  have ih:=QM s r;obtain⟨x,l,e⟩:=dA s r;unfold F8;rw[e]at ih ⊢;by_cases h:c=s
  .rw[K0 h];show[]++s::eT s (x::l)=c::r;rw[ih,h];rfl
  .rw[D0 h];cases l with
   |nil=>
    have ih':x=r:=ih;show c::x=c::r;rw[ih']
   |cons y l=>
    show(c::x)++s::eT s (y::l)=c::r;have ih':x++s::eT s (y::l)=r:=ih;rw[<-ih'];rfl
theorem QN{s:UInt8}:∀{w:Bytes}(r:Bytes),(∀c∈w,c≠s)->F8 s (w++s::r)=w::F8 s r
 |[],r,_=>by
  show F8 s (s::r)=[]::F8 s r;rw[F8,K0 rfl]
 |c::w,r,h=>by
  show F8 s (c::(w++s::r))=_;rw[F8,D0 (h c (by simp)),QN (w:=w) r λd hd=>h d (by simp[hd])]
def B4(YB:Bytes)(line:Bytes):Option (List Bytes):=match F8 32 line with
 |w::r=>if w=YB then some r else none
 |[]=>none
theorem fT{w line x:Bytes}:behind w line=some x↔line=w++32::x:=by
 unfold behind;constructor
 .intro h;by_cases e:line.take (w.length+1)=w++[32]
  .rw[K0 e]at h;have h':=J0 h;rw[<-pE (w.length+1) line,e,h'];simp
  all_goals grind
 .intro h;subst h;rw[K0]
  .congr 1;rw[show w++32::x=(w++[32])++x by simp,List.drop_left' (by simp)]
  .rw[show w++32::x=(w++[32])++x by simp,List.take_left' (by simp)]
theorem BW(YB:String)(ok:UInt8->Bool)(line:Bytes)(hw:∀c∈ascii YB,c≠32)(h32:ok 32=false) :
  formed YB ok line=match B4 (ascii YB) line with
   |some [x]=>if x≠[]/\x.all ok=true then some x else none
   |_=>none:=by
 unfold formed;cases hb:behind (ascii YB) line with
 |some N7=>
  have e:=fT.mp hb;have hs:=QN (s:=32) N7 hw;rw[<-e]at hs;unfold B4;rw[hs];dsimp only;rw[K0 rfl,o4];obtain⟨x,l,ex⟩:=dA 32 N7;have hj:=QM 32 N7;rw[ex]at hj ⊢;cases l with
  |nil=>
   have Ox:x=N7:=hj;rw[Ox]
  |cons y l=>
   have Ox:x++32::eT 32 (y::l)=N7:=hj;show(if N7≠[]/\N7.all ok=true then some N7 else none)=none;refine D0 λ⟨_,z⟩=>?_;rw[<-Ox]at z;simp[h32]at z
 |none=>
  rw[Option.bind_none];unfold B4;obtain⟨x,l,ex⟩:=dA 32 line;have hj:=QM 32 line;rw[ex]at hj ⊢;dsimp only;by_cases q:x=ascii YB
  .rw[K0 q];cases l with
   |nil=>rfl
   |cons y l=>
    exfalso;have Ox:x++32::eT 32 (y::l)=line:=hj;rw[q]at Ox;rw[fT.mpr Ox.symm]at hb;cases hb
  .rw[D0 q]
theorem RN(YB:String)(n:Nat)(line:Bytes):numbersIn YB n line=(B4 (ascii YB) line).bind λr=>if r.length=n then r.mapM readNumber else none:=by
 grind [numbersIn,B4,NM]
def gL(x:Bytes):Option Nat:=if x=ascii "free" then some 0 else if x=ascii "side" then some 1 else if x=ascii "end" then some 2 else none
theorem Hu(YB:String)(line:Bytes):endIn YB line=match B4 (ascii YB) line with
  |some [x]=>gL x
  |_=>none:=by
 unfold endIn B4;rw[NM];obtain⟨x,l,ex⟩:=dA 32 line;rw[ex];cases l with
 |nil=>
  grind
 |cons y l=>
  cases l with
  |nil=>
   dsimp only;by_cases q:x=ascii YB
   .rw[K0 q,K0 q];rfl
   .rw[D0 q,D0 q]
  |cons z l=>
   grind
inductive HV where
 |nm (b:Bytes)
 |num (n:Nat)
 deriving DecidableEq
def mH(x:Bytes):Except Nat Bytes:=if x=[]\/x.all isSmall=false then .error 1 else if 15<x.length then .error 2 else .ok x
def qE(x:Bytes)(most:Nat):Except Nat Nat:=match readNumber x with
 |none=>.error 1
 |some n=>if n<1\/most<n then .error 2 else .ok n
def fY(i:Nat):String:=(["wall","long","high","left","right","reveal"]:List String).getD i ""
def sF(i:Nat)(x:Bytes):Except Nat HV:=
 if i=0 then(mH x).map .nm else if i=1 then(qE x 32).map .num else if i=2 then(qE x 8).map .num else match gL x with
  |some e=>.ok (.num e)
  |none=>.error 1
def KF(i:Nat)(line:Bytes):Except Nat HV:=match B4 (ascii (fY i)) line with
 |some [x]=>sF i x
 |_=>.error 1
def vM(line:Bytes)(long high:Nat)(before:List Opening):Except Nat Opening:=match (B4 (ascii "open") line).bind λr=>r.mapM readNumber with
 |some [a,b,c,d]=>
  let o:Opening:=⟨a,b,c,d⟩
  if o.within long high=false then .error 2
  else if (before.getLast?.any λ(p:Opening)=>!p.before o)=true then .error 3
  else if (before.any λ(p:Opening)=>p.meets o)=true then .error 4
  else if 8<=before.length then .error 5
  else .ok o
 |_=>.error 1
def HC(h:List HV)(i:Nat):Nat:=match h[i]? with
 |some (.num n)=>n
 |_=>0
def oH(h:List HV)(o:List Opening)(line:Bytes):Except Nat (List HV×List Opening):=
 if h.length<6 then(match KF h.length line with
  |.error k=>.error k
  |.ok v=>.ok (h++[v],o))
 else match vM line (HC h 1) (HC h 2) o with
  |.error k=>.error k
  |.ok p=>.ok (h,o++[p])
def yI:List Bytes->Nat->List HV->List Opening->Except Fault (List HV×List Opening)
 |[],_,h,o=>.ok (h,o)
 |l::r,i,h,o=>match oH h o l with
  |.error k=>.error (i,k)
  |.ok z=>yI r (i+1) z.1 z.2
def MF(z:List Bytes×Bytes):Except Fault (List HV×List Opening):=match yI z.1 0 [] []with
 |.error e=>.error e
 |.ok x=>if x.1.length<6\/z.2≠[]then .error (z.1.length,1)else .ok x
def zcF(h:List HV):Bytes:=match h[0]? with
 |some (HV.nm b)=>b
 |_=>[]
def NF(h:List HV)(o:List Opening):Wall:=⟨zcF h,HC h 1,HC h 2,HC h 3,HC h 4,HC h 5,o⟩
def ND(L:List Bytes)(i:Nat):Except Fault HV:=
 if i=0 then(match lineAt L 0 "wall" isSmall with
  |.error e=>.error e
  |.ok name=>if NAME<name.length then .error (0,2)else .ok (.nm name))
 else if i=1 then(sizeAt L 1 "long" LENGTH).map .num else if i=2 then(sizeAt L 2 "high" HIGH).map .num
 else if i=3 then(endAt L 3 "left").map .num else if i=4 then(endAt L 4 "right").map .num else(endAt L 5 "reveal").map .num
def zI(L:List Bytes):Nat->List HV->Except Fault Wall
 |0,h=>match opensAt L (HC h 1) (HC h 2) (L.length+1) 6 []with
  |.error e=>.error e
  |.ok l=>.ok (NF h l)
 |n+1,h=>match ND L h.length with
  |.error e=>.error e
  |.ok v=>zI L n (h++[v])
def iE(z:List Bytes×Bytes):List Bytes:=z.1++(if z.2=[]then[]else[[]])
theorem Vg(t:Bytes):judgeWall t=zI (iE (linesOf t)) 6 []:=by
 unfold judgeWall;generalize hL:iE (linesOf t)=L;have hL':(linesOf t).1++(if (linesOf t).2=[]then[]else[[]])=L:=hL;simp only[hL'];simp only[zI,F6,List.nil_append,Y1,M1,List.cons_append,bB];have s0:ND L 0=(match lineAt L 0 "wall" isSmall with
  |.error e=>.error e
  |.ok name=>if NAME<name.length then .error (0,2)else .ok (.nm name)):=rfl
 have s1:ND L 1=(sizeAt L 1 "long" LENGTH).map .num:=rfl;have s2:ND L 2=(sizeAt L 2 "high" HIGH).map .num:=rfl;have s3:ND L 3=(endAt L 3 "left").map .num:=rfl;have s4:ND L 4=(endAt L 4 "right").map .num:=rfl;have s5:ND L 5=(endAt L 5 "reveal").map .num:=rfl;simp only[Nat.reduceAdd,s0,s1,s2,s3,s4,s5];cases lineAt L 0 "wall" isSmall with
 |error e=>rfl
 |ok name=>
  dsimp only;by_cases hn:NAME<name.length
  .grind
  .rw[D0 hn,D0 hn];cases sizeAt L 1 "long" LENGTH with
   |error e=>rfl
   |ok long=>
    cases sizeAt L 2 "high" HIGH with
    |error e=>rfl
    |ok high=>
     cases endAt L 3 "left" with
     |error e=>rfl
     |ok left=>
      cases endAt L 4 "right" with
      |error e=>rfl
      |ok right=>
       cases endAt L 5 "reveal" with
       |error e=>rfl
       |ok reveal=>rfl
theorem DW(L:List Bytes)(i:Nat)(YB:String)(most:Nat):sizeAt L i YB most=match L[i]? with
  |none=>.error (i,1)
  |some x=>match B4 (ascii YB) x with
   |some [y]=>(match qE y most with
    |.error k=>.error (i,k)
    |.ok n=>.ok n)
   |_=>.error (i,1):=by
 unfold sizeAt;cases L[i]? with
 |none=>rfl
 |some x=>
  rw[o4,RN];dsimp only;cases B4 (ascii YB) x with
  |none=>rfl
  |some r=>
   rw[o4]
   match r with
   |[]=>rfl
   |[y]=>
    rw[K0 (show[y].length=1 from rfl)];unfold qE;cases hy:readNumber y with
    |none=>simp[hy]
    |some n=>
     simp only[U8,List.mapM_nil,hy];show(if n<1\/most<n then Except.error (i,2)else Except.ok n)=_;by_cases q:n<1\/most<n
     .rw[K0 q,K0 q]
     .rw[D0 q,D0 q]
   |y::z::l=>
    dsimp only;rw[D0 (by simp)]
theorem iT(L:List Bytes)(i:Nat)(YB:String):endAt L i YB=match L[i]? with
  |none=>.error (i,1)
  |some x=>match B4 (ascii YB) x with
   |some [y]=>(match gL y with
    |none=>.error (i,1)
    |some n=>.ok n)
   |_=>.error (i,1):=by
 unfold endAt;cases L[i]? with
 |none=>rfl
 |some x=>
  rw[o4,Hu];dsimp only;cases B4 (ascii YB) x with
  |none=>rfl
  |some r=>
   match r with
   |[]=>rfl
   |[y]=>
    dsimp only;cases gL y<;>rfl
   |y::z::l=>rfl
def lift(i:Nat)(r:Except Nat HV):Except Fault HV:=match r with
 |.error k=>.error (i,k)
 |.ok v=>.ok v
def jT(L:List Bytes)(i:Nat)(YB:String):Except Fault HV:=match lineAt L i YB isSmall with
 |.error e=>.error e
 |.ok name=>if NAME<name.length then .error (i,2)else .ok (HV.nm name)
def gY(L:List Bytes)(i:Nat)(YB:String):Except Fault HV:=match L[i]? with
 |none=>.error (i,1)
 |some x=>match B4 (ascii YB) x with
  |some [y]=>(match mH y with
   |.error k=>.error (i,k)
   |.ok n=>.ok (HV.nm n))
  |_=>.error (i,1)
theorem Ap(L:List Bytes)(i:Nat)(YB:String)(hw:∀c∈ascii YB,c≠32):jT L i YB=gY L i YB:=by
 unfold jT gY lineAt;cases L[i]? with
 |none=>rfl
 |some x=>
  rw[o4,BW _ _ _ hw (by decide)];dsimp only;cases B4 (ascii YB) x with
  |none=>rfl
  |some r=>
   match r with
   |[]=>rfl
   |[y]=>
    dsimp only;unfold mH;by_cases h1:y=[]\/y.all isSmall=false
    .rw[K0 h1,D0];grind
    .rw[D0 h1,K0]
     .dsimp only;by_cases h2:NAME<y.length
      .rw[K0 h2,K0 (show 15<y.length from h2)]
      .rw[D0 h2,D0 (show ¬15<y.length from h2)]
     all_goals grind
   |y::z::l=>rfl
theorem Fa(L:List Bytes)(i:Nat)(hi:i<6):ND L i=match L[i]? with
  |none=>.error (i,1)
  |some x=>lift i (KF i x):=by
 unfold ND KF
 match i,hi with
 |0,_=>
  show jT L 0 "wall"= _;rw[Ap L 0 "wall" (by decide)];unfold gY;cases L[0]? with
  |none=>rfl
  |some x=>
   dsimp only;show _=lift 0 (match B4 (ascii "wall") x with
    |some [x]=>sF 0 x
    |_=>.error 1)
   cases B4 (ascii "wall") x with
   |none=>rfl
   |some r=>
    match r with
    |[]=>rfl
    |[y]=>
     dsimp only;unfold sF;cases mH y<;>rfl
    |y::z::l=>rfl
 |1,_=>
  rw[D0 (by decide),K0 rfl,DW];cases L[1]? with
  |none=>rfl
  |some x=>
   dsimp only;show _=lift 1 (match B4 (ascii "long") x with
    |some [x]=>sF 1 x
    |_=>.error 1)
   cases B4 (ascii "long") x with
   |none=>rfl
   |some r=>
    match r with
    |[]=>rfl
    |[y]=>
     show Except.map HV.num (match qE y 32 with
      |.error k=>(.error (1,k):Except Fault Nat)
      |.ok n=>.ok n)=lift 1 ((qE y 32).map HV.num)
     cases qE y 32<;>rfl
    |y::z::l=>rfl
 |2,_=>
  rw[D0 (by decide),D0 (by decide),K0 rfl,DW];cases L[2]? with
  |none=>rfl
  |some x=>
   dsimp only;show _=lift 2 (match B4 (ascii "high") x with
    |some [x]=>sF 2 x
    |_=>.error 1)
   cases B4 (ascii "high") x with
   |none=>rfl
   |some r=>
    match r with
    |[]=>rfl
    |[y]=>
     show Except.map HV.num (match qE y 8 with
      |.error k=>(.error (2,k):Except Fault Nat)
      |.ok n=>.ok n)=lift 2 ((qE y 8).map HV.num)
     cases qE y 8<;>rfl
    |y::z::l=>rfl
 |3,_=>
  rw[D0 (by decide),D0 (by decide),D0 (by decide),K0 rfl,iT];cases L[3]? with
  |none=>rfl
  |some x=>
   dsimp only;show _=lift 3 (match B4 (ascii "left") x with
    |some [x]=>sF 3 x
    |_=>.error 1)
   cases B4 (ascii "left") x with
   |none=>rfl
   |some r=>
    match r with
    |[]=>rfl
    |[y]=>
     dsimp only;show _=lift 3 (match gL y with
      |some e=>.ok (HV.num e)
      |none=>.error 1)
     cases gL y<;>rfl
    |y::z::l=>rfl
 |4,_=>
  rw[D0 (by decide),D0 (by decide),D0 (by decide),D0 (by decide),K0 rfl,iT];cases L[4]? with
  |none=>rfl
  |some x=>
   dsimp only;show _=lift 4 (match B4 (ascii "right") x with
    |some [x]=>sF 4 x
    |_=>.error 1)
   cases B4 (ascii "right") x with
   |none=>rfl
   |some r=>
    match r with
    |[]=>rfl
    |[y]=>
     dsimp only;show _=lift 4 (match gL y with
      |some e=>.ok (HV.num e)
      |none=>.error 1)
     cases gL y<;>rfl
    |y::z::l=>rfl
 |5,_=>
  rw[D0 (by decide),D0 (by decide),D0 (by decide),D0 (by decide),D0 (by decide),iT];cases L[5]? with
  |none=>rfl
  |some x=>
   dsimp only;show _=lift 5 (match B4 (ascii "reveal") x with
    |some [x]=>sF 5 x
    |_=>.error 1)
   cases B4 (ascii "reveal") x with
   |none=>rfl
   |some r=>
    match r with
    |[]=>rfl
    |[y]=>
     dsimp only;show _=lift 5 (match gL y with
      |some e=>.ok (HV.num e)
      |none=>.error 1)
     cases gL y<;>rfl
    |y::z::l=>rfl
 |n+6,h=>lia
theorem Bp(i:Nat)(hi:i<6):KF i []=.error 1:=by
 match i,hi with
 |0,_=>rfl
 |1,_=>rfl
 |2,_=>rfl
 |3,_=>rfl
 |4,_=>rfl
 |5,_=>rfl
 |n+6,h=>lia
theorem SN:∀{r:List Bytes}{ns:List Nat},r.mapM readNumber=some ns->ns.length=r.length
 |[],ns,h=>by
  grind
 |x::r,ns,h=>by
  rw[U8]at h;cases e:readNumber x with
  |none=>grind
  |some n=>
   cases e2:r.mapM readNumber with
   |none=>grind
   |some l=>
    rw[e,e2]at h;have h':n::l=ns:=J0 h;rw[<-h'];simp[SN e2]
theorem Xg(L:List Bytes)(long high f i:Nat)(l:List Opening):opensAt L long high (f+1) i l=match L[i]? with
  |none=>.ok l
  |some x=>match vM x long high l with
   |.error k=>.error (i,k)
   |.ok o=>opensAt L long high f (i+1) (l++[o]):=by
 rw[opensAt];cases L[i]? with
 |none=>rfl
 |some x=>
  dsimp only;unfold vM;rw[RN];cases B4 (ascii "open") x with
  |none=>rfl
  |some r=>
   rw[o4,o4];by_cases hr:r.length=4
   .rw[K0 hr];cases hm:r.mapM readNumber with
    |none=>rfl
    |some ns=>
     have hl:=(SN hm).trans hr
     match ns,hl with
     |[a,b,c,d],_=>
      dsimp only;by_cases q1:Opening.within ⟨a,b,c,d⟩ long high=false
      .rw[K0 q1,K0 q1]
      .rw[D0 q1,D0 q1];by_cases q2:(l.getLast?.any λ(p:Opening)=>!p.before ⟨a,b,c,d⟩)=true
       .rw[K0 q2,K0 q2]
       .rw[D0 q2,D0 q2];by_cases q3:(l.any λ(p:Opening)=>p.meets ⟨a,b,c,d⟩)=true
        .rw[K0 q3,K0 q3]
        .rw[D0 q3,D0 q3];by_cases q4:OPENS<=l.length
         .rw[K0 q4,K0 (show 8<=l.length from q4)]
         .rw[D0 q4,D0 (show ¬8<=l.length from q4)]
   .rw[D0 hr];cases hm:r.mapM readNumber with
    |none=>rfl
    |some ns=>
     have hl:=SN hm
     match ns,hl with
     |[],_=>rfl
     |[_],_=>rfl
     |[_,_],_=>rfl
     |[_,_,_],_=>rfl
     |[_,_,_,_],hl=>exact absurd hl.symm hr
     |_::_::_::_::_::_,_=>rfl
theorem wJ{z:List Bytes×Bytes}{i:Nat}{x:Bytes}(h:z.1[i]?=some x):(iE z)[i]?=some x:=by
 unfold iE;have hi:=(N0.mp h).1;rw[j8 hi];exact h
theorem kT(z:List Bytes×Bytes):(iE z)[z.1.length]?=if z.2=[]then none else some []:=by
 unfold iE;rw[Q7 (j1 _),TN];by_cases h:z.2=[]
 .rw[K0 h,K0 h];rfl
 .rw[D0 h,D0 h];rfl
theorem lT(z:List Bytes×Bytes):z.1.length<=(iE z).length:=by
 grind [iE]
def fin(z:List Bytes×Bytes):Except Fault (List HV×List Opening)->Except Fault Wall
 |.error e=>.error e
 |.ok x=>if x.1.length<6\/z.2≠[]then .error (z.1.length,1)else .ok (NF x.1 x.2)
theorem Cp(z:List Bytes×Bytes)(h:List HV)(h6:h.length=6):∀(f i:Nat)(o:List Opening),i<=z.1.length->(iE z).length+1<=f+i->
  (match opensAt (iE z) (HC h 1) (HC h 2) f i o with
  |.error e=>.error e
  |.ok l=>.ok (NF h l))=fin z (yI (z.1.drop i) i h o):=by
 intro f
 induction f with
 |zero=>
  have:=lT z
  lia
 |succ f ih=>
  intro i o hi hf;rw[Xg];by_cases hl:i<z.1.length
  .have ex:z.1[i]?=some z.1[i]:=O0 hl;rw[wJ ex,O6 hl];dsimp only;rw[yI];unfold oH;rw[D0 (by lia)];cases vM z.1[i] (HC h 1) (HC h 2) o with
   |error k=>rfl
   |ok p=>
    exact ih (i+1) _ hl (by lia)
  .have e:i=z.1.length:=by lia
   subst e;rw[kT,iC];show _=if h.length<6\/z.2≠[]then Except.error (z.1.length,1)else Except.ok (NF h o)
   by_cases h2:z.2=[]
   .grind
   .rw[D0 h2,K0 (.inr h2)];rfl
theorem Iu(z:List Bytes×Bytes):∀(n:Nat)(h:List HV),h.length+n=6->h.length<=z.1.length->zI (iE z) n h=fin z (yI (z.1.drop h.length) h.length h []):=by
 intro n
 induction n with
 |zero=>
  intro h h6 hl;have h6':h.length=6:=h6;rw[h6']at hl ⊢;exact Cp z h h6' _ 6 [] hl (by lia)
 |succ n ih=>
  intro h h6 hl;rw[zI,Fa _ _ (by lia)];by_cases UC:h.length<z.1.length
  .have ex:z.1[h.length]?=some z.1[h.length]:=O0 UC;rw[wJ ex,O6 UC];dsimp only;rw[yI];unfold oH;rw[K0 (by lia)];cases KF h.length z.1[h.length]with
   |error k=>rfl
   |ok v=>
    have q:=ih (h++[v]) (by simp;lia) (by simp;lia);show zI (iE z) n (h++[v])=_;rw[q];simp
  .have e:h.length=z.1.length:=by lia
   have ea:=kT z;rw[<-e]at ea;have er:fin z (yI (z.1.drop h.length) h.length h [])=.error (z.1.length,1):=by
    rw[e,iC];show(if h.length<6\/z.2≠[]then Except.error (z.1.length,1)else Except.ok (NF h []))=_;rw[K0 (Or.inl (show h.length<6 by lia))]
   rw[er,ea];by_cases h2:z.2=[]
   .grind
   .rw[D0 h2];dsimp only;rw[Bp _ (by lia)];show Except.error (h.length,1)=_;rw[e]
theorem Ga(t:Bytes):judgeWall t=match MF (fl 10 t)with
  |.error e=>.error e
  |.ok x=>.ok (NF x.1 x.2):=by
 rw[Vg,Iu _ 6 [] rfl (E1 _),<-Ca];show fin (fl 10 t) (yI (fl 10 t).1 0 [] [])=_;unfold MF fin;cases yI (fl 10 t).1 0 [] []with
 |error e=>rfl
 |ok x=>
  dsimp only;by_cases q:x.1.length<6\/(fl 10 t).2≠[]
  .rw[K0 q,K0 q]
  .rw[D0 q,D0 q]
abbrev WS:=List HV×List Opening×List Bytes
def wQ(s:WS)(line:Bytes):Except Nat WS:=match oH s.1 s.2.1 line with
 |.error k=>.error k
 |.ok z=>.ok (z.1,z.2,s.2.2++[line])
def Ju(s:WS)(N7:Bytes):Option Nat:=if s.1.length<6\/N7≠[]then some 1 else none
def mR{S:Type}(step:S->Bytes->Except Nat S):List Bytes->Nat->S->Except Fault S
 |[],_,s=>.ok s
 |l::r,i,s=>match step s l with
  |.error k=>.error (i,k)
  |.ok s'=>mR step r (i+1) s'
def vG{S:Type}(step:S->Bytes->Except Nat S) (fin:S->Bytes->Option Nat) (s0:S) (z:List Bytes×Bytes):Except Fault S:=match mR step z.1 0 s0 with
 |.error e=>.error e
 |.ok s=>match fin s z.2 with
  |some k=>.error (z.1.length,k)
  |none=>.ok s
theorem Ku:∀(vE:List Bytes)(i:Nat)(h:List HV)(o:List Opening)(ls:List Bytes),mR wQ vE i (h,o,ls)=match yI vE i h o with
  |.error e=>.error e
  |.ok x=>.ok (x.1,x.2,ls++vE)
 |[],i,h,o,ls=>by
  rw[mR,yI,d3]
 |l::r,i,h,o,ls=>by
  rw[mR,yI];have e:wQ (h,o,ls) l=match oH h o l with
   |.error k=>.error k
   |.ok z=>.ok (z.1,z.2,ls++[l]):=rfl
  rw[e];cases oH h o l with
  |error k=>rfl
  |ok z=>
   dsimp only;rw[Ku r (i+1) z.1 z.2 (ls++[l]),R7];rfl
theorem Wz(z:List Bytes×Bytes):vG wQ Ju ([],[],[]) z=match MF z with
  |.error e=>.error e
  |.ok x=>.ok (x.1,x.2,z.1):=by
 unfold vG MF;rw[Ku];cases yI z.1 0 [] []with
 |error e=>rfl
 |ok x=>
  dsimp only;unfold Ju;dsimp only;by_cases q:x.1.length<6\/z.2≠[]
  .rw[K0 q,K0 q]
  .rw[D0 q,D0 q];rfl
def tK(wd line:Bytes):Option Bytes:=match B4 wd line with
 |some [x]=>some x
 |_=>none
def xJ(x:Bytes)(jF most:Nat):Except Nat Nat:=match readNumber x with
 |none=>.error 1
 |some n=>if n<jF\/most<n then .error 2 else .ok n
end Wm
section
set_option maxHeartbeats 1000000
namespace Wm
open Bd
variable {z:List Bytes×Bytes}{i:Nat}
abbrev BS:=Nat×Bond
variable {s:BS}
def lM(x:Bytes)(lo hi:Nat):Except Nat Nat:=if x.length≠1 then .error 1 else xJ x lo hi
def sV(x:Bytes):Except Nat Bytes:=if x=[]\/x.all isBig=false then .error 1 else .ok x
def RM(x:Bytes):Except Nat Row:=match sV x with
 |.error k=>.error k
 |.ok x=>match lettersOf inOrder x with
  |none=>.error 3
  |some r=>.ok r
def Ha(x:Bytes):Except Nat Row:=match sV x with
 |.error k=>.error k
 |.ok x=>if 8<x.length then .error 2 else match lettersOf (λ(r:Row)=>r.all λ(p:Piece)=>!p.isCut) x with
  |none=>.error 3
  |some r=>.ok r
def rN{α:Type}(w:String) (line:Bytes) (f:Bytes->Except Nat α):Except Nat α:=match tK (ascii w) line with
 |none=>.error 1
 |some x=>f x
def vA(s:BS)(line:Bytes):Except Nat BS:=
 if s.1=0 then(rN "bond" line mH).map λn=>(1,{s.2 with name:=n})
 else if s.1=1 then(rN "lap" line λx=>lM x 1 3).map λn=>(2,{s.2 with lap:=n})
 else if s.1=2 then(rN "most" line λx=>lM x 0 2).map λn=>(3,{s.2 with most:=n})
 else if s.1=3/\0<s.2.most then(rN "makes" line RM).map λr=>(4,{s.2 with makes:=r})
 else match rN "course" line Ha with
  |.error k=>.error k
  |.ok r=>if 8<=s.2.courses.length then .error 4 else .ok (s.1+1,{s.2 with courses:=s.2.courses++[r]})
def UN(s:BS)(N7:Bytes):Option Nat:=if N7≠[]\/s.2.courses=[]then some 1 else none
def rE:Bond:=⟨[],0,0,[],[]⟩
def Xz(z:List Bytes×Bytes):Except Fault BS->Except Fault Bond
 |.error e=>.error e
 |.ok s=>match UN s z.2 with
  |some k=>.error (z.1.length,k)
  |none=>.ok s.2
def PD(z:List Bytes×Bytes)(i:Nat)(s:BS):Except Fault Bond:=Xz z (mR vA (z.1.drop i) i s)
theorem Ia(h:i<z.1.length):PD z i s=match vA s z.1[i]with
  |.error k=>.error (i,k)
  |.ok s'=>PD z (i+1) s':=by
 unfold PD;rw[O6 h,mR];cases vA s z.1[i]with
 |error k=>rfl
 |ok s'=>rfl
theorem Lu(z:List Bytes×Bytes)(s:BS):PD z z.1.length s=match UN s z.2 with
  |some k=>.error (z.1.length,k)
  |none=>.ok s.2:=by
 unfold PD;rw[iC];rfl
theorem AI(L:List Bytes)(i:Nat)(w:String)(ok:UInt8->Bool)(hw:∀c∈ascii w,c≠32)(h32:ok 32=false):lineAt L i w ok=match L[i]? with
  |none=>.error (i,1)
  |some x=>match rN w x (λy=>if y=[]\/y.all ok=false then .error 1 else .ok y)with
   |.error k=>.error (i,k)
   |.ok y=>.ok y:=by
 unfold lineAt;cases L[i]? with
 |none=>rfl
 |some x=>
  rw[o4,BW w ok x hw h32];unfold rN tK;dsimp only;generalize B4 (ascii w) x=r
  match r with
  |none=>rfl
  |some []=>rfl
  |some (_::_::_)=>rfl
  |some [y]=>
   dsimp only;by_cases h:y=[]\/y.all ok=false
   .rw[K0 h,D0];rintro⟨a,b⟩;rcases h with h|h
    .exact a h
    .rw[h]at b;cases b
   .rw[D0 h,K0];refine⟨λq=>h (.inl q),?_⟩;cases q:y.all ok with
    |true=>rfl
    |false=>exact absurd (.inr q) h
theorem xQ(L:List Bytes)(i:Nat)(w:String)(lo hi:Nat)(hw:∀c∈ascii w,c≠32):numberAt L i w lo hi=match L[i]? with
  |none=>.error (i,1)
  |some x=>match rN w x (λy=>lM y lo hi)with
   |.error k=>.error (i,k)
   |.ok n=>.ok n:=by
 unfold numberAt;rw[AI L i w isDigit hw (by decide)];cases L[i]? with
 |none=>rfl
 |some x=>
  unfold rN;dsimp only;cases tK (ascii w) x with
  |none=>rfl
  |some y=>
   dsimp only;unfold lM xJ;by_cases h1:y.length≠1
   .rw[K0 h1];by_cases h:y=[]\/y.all isDigit=false
    .rw[K0 h]
    .rw[D0 h]
     match y,h1 with
     |[],_=>rfl
     |[_],h1=>exact absurd rfl h1
     |_::_::_,_=>rfl
   .rw[D0 h1]
    match y,h1 with
    |[],h1=>exact absurd (by decide) h1
    |_::_::_,h1=>exact absurd (by simp) h1
    |[c],_=>
     rw[uM];by_cases hd:isDigit c=true
     .have ok1:xI [c]=true:=by
       unfold xI uG;simp[hd]
      rw[D0 (by simp[hd]),K0 ok1];have ev:valueOf [c]=c.toNat-48:=by
       unfold valueOf;simp
      rw[ev];show(if c.toNat-48<lo\/hi<c.toNat-48 then(.error (i,2):Except Fault Nat)else .ok (c.toNat-48))=_;dsimp only;by_cases h:c.toNat-48<lo\/hi<c.toNat-48
      .rw[K0 h,K0 h]
      .rw[D0 h,D0 h]
     .have hd':isDigit c=false:=Q4.mpr hd;have ok1:¬xI [c]=true:=by
       unfold xI;simp[hd']
      rw[K0 (.inr (by simp[hd'])),D0 ok1]
theorem mT{α:Type}(w:String) (f:Bytes->Except Nat α):rN w [] f=.error 1:=by
 have e:tK (ascii w) []=none:=by
  unfold tK B4;show(match (if []=ascii w then some ([]:List Bytes)else none)with
   |some [x]=>some x
   |_=>none)=none
  by_cases h:[]=ascii w
  .rw[K0 h]
  .rw[D0 h]
 unfold rN;rw[e]
theorem EW(z:List Bytes×Bytes):(iE z).length=z.1.length+if z.2=[]then 0 else 1:=by
 unfold iE;rw[Y1];by_cases h:z.2=[]
 .rw[K0 h,K0 h];rfl
 .rw[D0 h,D0 h];rfl
theorem VN{x:Bytes}(h:3<=s.1) (h2:¬(s.1=3/\0<s.2.most)):vA s x=match rN "course" x Ha with
  |.error k=>.error k
  |.ok r=>if 8<=s.2.courses.length then .error 4 else .ok (s.1+1,{s.2 with courses:=s.2.courses++[r]}):=by
 unfold vA;rw[D0 (by lia),D0 (by lia),D0 (by lia),D0 h2]
theorem Ja(z:List Bytes×Bytes):∀(f i:Nat)(b:Bond),i<=z.1.length->(iE z).length+1<=f+i->(3<=i/\¬(i=3/\0<b.most))->(b.courses≠[]\/i<(iE z).length)->
  (match coursesAt (iE z) f i b.courses with
  |.error e=>.error e
  |.ok l=>.ok {b with courses:=l})=PD z i (i,b):=by
 intro f
 induction f with
 |zero=>
  intro i b hi hf;have:=lT z
  lia
 |succ f ih=>
  intro i b hi hf hs JK;rw[coursesAt];have ll:=EW z;by_cases hl:i<z.1.length
  .rw[D0 (by lia),AI _ _ _ _ (by decide) (by decide),wJ (O0 hl),Ia hl,VN hs.1 hs.2];dsimp only;unfold rN;dsimp only;cases tK (ascii "course") z.1[i]with
   |none=>rfl
   |some y=>
    dsimp only;unfold Ha sV;by_cases h:y=[]\/y.all isBig=false
    .rw[K0 h]
    .rw[D0 h];dsimp only;by_cases h8:8<y.length
     .rw[K0 h8,K0 (show PATTERN<y.length from h8)]
     .rw[D0 h8,D0 (show ¬PATTERN<y.length from h8)];cases lettersOf (λ(r:Row)=>r.all λ(p:Piece)=>!p.isCut) y with
      |none=>rfl
      |some r=>
       dsimp only;by_cases hc:8<=b.courses.length
       .rw[K0 hc,K0 (show COURSES<=b.courses.length from hc)]
       .rw[D0 hc,D0 (show ¬COURSES<=b.courses.length from hc)];exact ih (i+1) {b with courses:=b.courses++[r]} hl (by lia) ⟨by lia,λq=>by lia⟩ (.inl (by simp))
  .have e:i=z.1.length:=by lia
   subst e;rw[Lu];unfold UN;by_cases h2:z.2=[]
   .rw[K0 h2]at ll;rw[K0 (by lia),D0];rintro(q|q)
    .exact q h2
    .exact JK.elim (λw=>w q) λw=>by lia
   .rw[D0 h2]at ll;rw[D0 (by lia),K0 (.inl h2),AI _ _ _ _ (by decide) (by decide),kT,D0 h2];dsimp only;rw[mT]
theorem iL(h:¬i<z.1.length)(hi:i<=z.1.length)(hc:s.2.courses=[]):PD z i s=.error (i,1):=by
 have e:i=z.1.length:=by lia
 subst e;rw[Lu];unfold UN;rw[K0 (.inr hc)]
theorem Xk(t:Bytes):judge t=match vG vA UN (0,rE) (fl 10 t)with
  |.error e=>.error e
  |.ok s=>.ok s.2:=by
 have ep:∀z,PD z 0 (0,rE)=match vG vA UN (0,rE) z with
   |.error e=>.error e
   |.ok s=>.ok s.2:=λz=>by
  unfold PD vG;rw[jL];cases mR vA z.1 0 (0,rE)with
  |error e=>rfl
  |ok s=>
   show(match UN s z.2 with
    |some k=>(.error (z.1.length,k):Except Fault Bond)
    |none=>.ok s.2)=_
   cases h:UN s z.2 with
   |none=>
    dsimp only;rw[h]
   |some k=>
    dsimp only;rw[h]
 rw[<-ep,Ca];unfold judge;generalize hz:linesOf t=z;have hL:z.1++(if z.2=[]then[]else[[]])=iE z:=rfl;simp only[hL];have zaS:∀{i:Nat},¬i<z.1.length->(iE z)[i]?=none\/(iE z)[i]?=some []:=λ{i} h=>by
  unfold iE;rw[Q7 (by lia)];by_cases h2:z.2=[]
  .rw[K0 h2];exact .inl rfl
  .rw[D0 h2];cases i-z.1.length with
   |zero=>exact .inr rfl
   |succ n=>exact .inl rfl
 rw[AI _ 0 _ _ (by decide) (by decide)];by_cases l0:0<z.1.length
 rotate_left
 .rw[iL l0 (E1 _) rfl];rcases zaS l0 with e|e
  .rw[e]
  .rw[e];dsimp only;rw[mT]
 rw[wJ (O0 l0),Ia l0];have st0:vA (0,rE) z.1[0]=(rN "bond" z.1[0] mH).map λn=>(1,{rE with name:=n}):=rfl;rw[st0];dsimp only;unfold rN;dsimp only;cases tK (ascii "bond") z.1[0]with
 |none=>rfl
 |some x=>
  dsimp only;unfold mH;by_cases h:x=[]\/x.all isSmall=false
  .rw[K0 h,K0 h];rfl
  rw[D0 h,D0 h];dsimp only;by_cases hn:15<x.length
  .rw[K0 hn,K0 (show NAME<x.length from hn)];rfl
  rw[D0 hn,D0 (show ¬NAME<x.length from hn)];dsimp only[Except.map];rw[xQ _ 1 _ _ _ (by decide)];by_cases l1:1<z.1.length
  rotate_left
  .rw[iL l1 l0 rfl];rcases zaS l1 with e|e
   .rw[e]
   .rw[e];dsimp only;rw[mT]
  rw[wJ (O0 l1),Ia l1];have Bf:vA (1,{rE with name:=x}) z.1[1]=(rN "lap" z.1[1] λx=>lM x 1 3).map λn=>(2,{rE with name:=x,lap:=n}):=rfl;rw[Bf];dsimp only;cases rN "lap" z.1[1] λx=>lM x 1 3 with
  |error k=>rfl
  |ok lap=>
   dsimp only[Except.map];rw[xQ _ 2 _ _ _ (by decide)];by_cases l2:2<z.1.length
   rotate_left
   .rw[iL l2 l1 rfl];rcases zaS l2 with e|e
    .rw[e]
    .rw[e];dsimp only;rw[mT]
   rw[wJ (O0 l2),Ia l2];have Ij:vA (2,{rE with name:=x,lap:=lap}) z.1[2]=(rN "most" z.1[2] λx=>lM x 0 2).map λn=>(3,{rE with name:=x,lap:=lap,most:=n}):=rfl;rw[Ij];dsimp only;cases rN "most" z.1[2] λx=>lM x 0 2 with
   |error k=>rfl
   |ok most=>
    dsimp only[Except.map];have ll:=EW z;have fin:∀(i:Nat)(b:Bond),3<=i->¬(i=3/\0<b.most)->i<=z.1.length->b.courses=[]->
      (if (iE z).length<=i then(.error (i,1):Except Fault Bond)else match coursesAt (iE z) ((iE z).length+1) i []with
        |.error e=>.error e
        |.ok l=>.ok {b with courses:=l})=PD z i (i,b):=λi b h3 hm hi hb=>by
     by_cases q:(iE z).length<=i
     .rw[K0 q,iL (by have:=lT z;lia) hi hb]
     .rw[D0 q,<-Ja z ((iE z).length+1) i b hi (by lia) ⟨h3,hm⟩ (.inr (by lia)),hb]
    by_cases m0:most=0
    .rw[K0 m0];dsimp only;rw[K0 m0];exact fin 3 {rE with name:=x,lap:=lap,most:=most} (j1 _) (λq=>by have:=q.2;dsimp only at this;lia) l2 rfl
    .rw[D0 m0,AI _ 3 _ _ (by decide) (by decide)];by_cases l3:3<z.1.length
     rotate_left
     .rw[iL l3 l2 rfl];rcases zaS l3 with e|e
      .rw[e]
      .rw[e];dsimp only;rw[mT]
     rw[wJ (O0 l3),Ia l3];have Ex:vA (3,{rE with name:=x,lap:=lap,most:=most}) z.1[3]=(rN "makes" z.1[3] RM).map λr=>(4,{rE with name:=x,lap:=lap,most:=most,makes:=r}):=by
      unfold vA;dsimp only;rw[D0 (by decide),D0 (by decide),D0 (by decide),K0 ⟨rfl,by lia⟩]
     rw[Ex];dsimp only;unfold rN;dsimp only;cases tK (ascii "makes") z.1[3]with
     |none=>rfl
     |some y=>
      dsimp only;unfold RM sV;by_cases h:y=[]\/y.all isBig=false
      .rw[K0 h];rfl
      rw[D0 h];dsimp only;cases lettersOf inOrder y with
      |none=>rfl
      |some r=>
       dsimp only[Except.map];rw[D0 m0];exact fin 4 {rE with name:=x,lap:=lap,most:=most,makes:=r} (by decide) (λq=>by have:=q.1;lia) l3 rfl
end Wm
end
namespace Wf
open Bd
variable {b:Bond}{SG VA:List Nat}{a l:List Row}{L n lap left right:Nat}{p:Panel}{r:Row}{w:Way}
theorem Ep(l:List Nat):∀(n i:Nat),(l.foldl (λ(n x:Nat)=>n|||2^x) n).testBit i=(n.testBit i||decide (i∈l)):=by
 induction l<;>grind
theorem BA(l:List Nat)(i:Nat):(bitsOf l).testBit i=decide (i∈l):=by
 grind [bitsOf,Ep]
theorem Fp(n:Nat)(ds:List Nat):∀(m i:Nat),(ds.foldl (λ(m d:Nat)=>m|||(n*2^d|||n/2^d)) m).testBit i=(m.testBit i||ds.any λd=>(decide (d<=i)&&n.testBit (i-d))||n.testBit (i+d)):=by
 induction ds with
 |nil=>intro m i;simp
 |cons d ds ih=>
  intro m i;rw[OC,ih,wG,wG,Nat.testBit_mul_two_pow,Nat.testBit_div_two_pow,Bool.or_assoc,P8]
theorem Yk(lap n i:Nat):(near lap n).testBit i=(List.range lap).any λd=>(decide (d<=i)&&n.testBit (i-d))||n.testBit (i+d):=by
 unfold near;rw[Fp,Nat.zero_testBit,BH]
theorem Ka{x y:Nat}:x&&&y=0↔∀i,x.testBit i=true->y.testBit i=false:=by
 constructor
 .intro h i hx;have z:=tF x y i;grind
 .intro h;apply V8;grind
def FW(lap:Nat)(above zbH:List Nat):Prop:=∀a∈above,∀b∈zbH,¬gap a b<lap
theorem cD(lap:Nat)(SG Px:List Nat):(near lap (bitsOf SG)&&&bitsOf Px==0)=true↔FW lap Px SG:=by
 rw[L4,Ka];constructor
 .intro h a ha b hb hg;have z:(near lap (bitsOf SG)).testBit a=true:=by
   rw[Yk,zE];unfold gap at hg;by_cases c:a<b
   .rw[K0 c]at hg;refine⟨b-a,j6.mpr hg,?_⟩;rw[BA,BA,W3];right;rw[show a+(b-a)=b by lia];exact F1 hb
   .rw[D0 c]at hg;refine⟨a-b,j6.mpr hg,?_⟩;rw[BA,BA,W3];left;rw[show a-(a-b)=b by lia,F1 (show a-b<=a by lia),IC];exact F1 hb
  grind [BA]
 .intro h i hi;rw[BA];refine Y0 λhj=>?_;rw[Yk,zE]at hi;obtain⟨d,hd,hi⟩:=hi;have hd:=j6.mp hd;rw[BA,BA,W3,D1,P0,P0,P0]at hi;rcases hi with⟨h1,h2⟩|h2
  .refine h i hj _ h2 ?_;unfold gap;by_cases c:i<i-d
   .lia
   .rw[D0 c]
    lia
  .refine h i hj _ h2 ?_;unfold gap
   all_goals grind
theorem IA(p:Piece):1<=p.length:=by cases p<;>decide
theorem WN{p q:Piece}(h:p.rank=q.rank):p=q:=by cases p<;>cases q<;>first|rfl|(exact absurd h (by decide))
theorem F3(p:Piece)(r:Row):lengthOf (p::r)=p.length+lengthOf r:=rfl
theorem GH(h:lengthOf r=0):r=[]:=by
 cases r with
 |nil=>rfl
 |cons p r=>
  rw[F3]at h;have:=IA p
  lia
theorem XN(x y:Piece)(r s:Row):rowBefore (x::r) (y::s)=(decide (x.rank<y.rank)||(x==y&&rowBefore r s)):=rfl
theorem cM:∀r:Row,rowBefore r r=false
 |[]=>rfl
 |x::r=>by
  rw[XN,cM r];simp
theorem oT:∀{r s t:Row},rowBefore r s=true->rowBefore s t=true->rowBefore r t=true
 |[],_,_,h,_=>by cases h
 |_::_,[],_,h,_=>by cases h
 |_::_,_::_,[],_,h=>by cases h
 |x::r,y::s,z::t,h1,h2=>by
  rw[XN,W3,D1,P0,L4]at h1 h2 ⊢;rcases h1 with h1|⟨rfl,h1⟩
  .grind
  .rcases h2 with h2|⟨rfl,h2⟩
   .lia
   .exact .inr ⟨rfl,oT h1 h2⟩
theorem pT:∀{r s:Row},lengthOf r=lengthOf s->r=s\/rowBefore r s=true\/rowBefore s r=true
 |[],s,h=>.inl (GH h.symm).symm
 |x::r,[],h=>by
  rw[F3]at h;have:=IA x;have z:lengthOf ([]:Row)=0:=rfl
  lia
 |x::r,y::s,h=>by
  rw[XN,XN];by_cases c:x.rank<y.rank
  .grind
  .by_cases d:y.rank<x.rank
   .grind
   .obtain rfl:x=y:=WN (by lia);rw[F3,F3]at h;rcases pT (r:=r) (s:=s) (by lia)with e|e|e
    all_goals grind
def tV(L n:Nat)(l:List Row):Prop:=l.length=n/\∀r∈l,lengthOf r=L
theorem yJ(r s:Row)(l m:List Row):rowsBefore (r::l) (s::m)=(rowBefore r s||(r==s&&rowsBefore l m)):=rfl
theorem GW:∀l:List Row,rowsBefore l l=false
 |[]=>rfl
 |r::l=>by
  rw[yJ,cM,GW l];simp
theorem La:∀{a b c:List Row},rowsBefore a b=true->rowsBefore b c=true->rowsBefore a c=true
 |[],_,_,h,_=>by cases h
 |_::_,[],_,h,_=>by cases h
 |_::_,_::_,[],_,h=>by cases h
 |x::r,y::s,z::t,h1,h2=>by
  rw[yJ,W3,D1,L4]at h1 h2 ⊢;rcases h1 with h1|⟨rfl,h1⟩
  .grind [oT]
  .rcases h2 with h2|⟨rfl,h2⟩
   .grind
   .exact .inr ⟨rfl,La h1 h2⟩
theorem Ma{L:Nat}:∀{n:Nat}{a b:List Row},tV L n a->tV L n b->a=b\/rowsBefore a b=true\/rowsBefore b a=true
 |0,a,b,ha,hb=>.inl (by rw[X3.mp ha.1,X3.mp hb.1])
 |n+1,[],_,ha,_=>absurd ha.1 (by simp)
 |n+1,_::_,[],_,hb=>absurd hb.1 (by simp)
 |n+1,r::a,s::b,ha,hb=>by
  rw[yJ,yJ];rcases pT (r:=r) (s:=s) ((ha.2 r (by simp)).trans (hb.2 s (by simp)).symm)with rfl|e|e
  .have Yr:tV L n a:=⟨by simpa using ha.1,λx hx=>ha.2 x (by simp[hx])⟩
   have cP:tV L n b:=⟨by simpa using hb.1,λx hx=>hb.2 x (by simp[hx])⟩
   rcases Ma Yr cP with e|e|e
   all_goals grind
  all_goals grind
theorem HH(l m:List Row):sooner l m=true↔cutsIn l<cutsIn m\/(cutsIn l=cutsIn m/\(piecesIn l<piecesIn m\/(piecesIn l=piecesIn m/\rowsBefore l m=true))):=by
 unfold sooner;simp only[W3,D1,P0,L4]
theorem qP(l:List Row):¬sooner l l=true:=by
 rw[HH];rintro(h|⟨_,h|⟨_,h⟩⟩)
 .lia
 .lia
 .rw[GW]at h;cases h
theorem BI{b c:List Row}(h1:sooner a b=true) (h2:sooner b c=true):sooner a c=true:=by
 grind [HH,La]
theorem Na{b:List Row}(h1:sooner a b=true):¬sooner b a=true:=λh2=>qP a (BI h1 h2)
theorem qT{b:List Row}(ha:tV L n a) (hb:tV L n b):a=b\/sooner a b=true\/sooner b a=true:=by
 grind [HH,Ma]
theorem JB(r:Row)(l:List Row):cutsIn (r::l)=cutsOf r+cutsIn l:=rfl
theorem qB(r:Row)(l:List Row):piecesIn (r::l)=r.length+piecesIn l:=rfl
theorem Zk(r:Row)(l m:List Row):sooner (r::l) (r::m)=sooner l m:=by
 rw[Z2,HH,HH,JB,JB,qB,qB,yJ,cM];simp only[gC,IC,BH];constructor
 .rintro(h|⟨e,h|⟨f,h⟩⟩)
  .exact .inl (by lia)
  .exact .inr ⟨by lia,.inl (by lia)⟩
  .exact .inr ⟨by lia,.inr ⟨by lia,h⟩⟩
 .rintro(h|⟨e,h|⟨f,h⟩⟩)
  .exact .inl (by lia)
  .exact .inr ⟨by lia,.inl (by lia)⟩
  .exact .inr ⟨by lia,.inr ⟨by lia,h⟩⟩
def YN(w:Way):Prop:=w.cuts=cutsIn w.rows/\w.pieces=piecesIn w.rows/\∀r,w.rows.head?=some r->w.bits=bitsOf (jointsOf r)
theorem Oa(h:YN w):YN (wayOn r w):=by
 obtain⟨h1,h2,_⟩:=h;refine⟨?_,?_,λs hs=>?_⟩
 .show cutsOf r+w.cuts=cutsIn (r::w.rows);rw[h1,JB]
 .show r.length+w.pieces=piecesIn (r::w.rows);rw[h2,qB]
 .obtain rfl:r=s:=J0 hs;rfl
theorem Gp:YN ⟨[],0,0,0⟩:=⟨rfl,rfl,λr h=>nomatch h⟩
theorem BE{v:Way}(hv:YN v) (hw:YN w):v.sooner w=sooner v.rows w.rows:=by
 unfold Way.sooner sooner;rw[hv.1,hw.1,hv.2.1,hw.2.1]
theorem Ip{α:Type}(le:α->α->Bool) (G:α->Prop) (tr:∀a b c,G a->G b->G c->le a b=true->le b c=true->le a c=true) (to:∀a b,G a->G b->(le a b||le b a)=true) (l:List α) (hl:∀a∈l,G a) :
  (l.mergeSort le).Pairwise λa b=>le a b=true:=by
 classical
 let le2:α->α->Bool:=λa b=>if G a then(if G b then le a b else true)else(if G b then false else true)
 have e:l.mergeSort le=l.mergeSort le2:=by
  have z:=List.map_mergeSort (r:=le) (s:=le2) (f:=id) (l:=l) λa ha b hb=>by
   grind
  simpa using z
 have p:=List.pairwise_mergeSort (le:=le2) (λa b c h1 h2=>by
  show(if G a then(if G c then le a c else true)else(if G c then false else true))=true;have h1:(if G a then(if G b then le a b else true)else(if G b then false else true))=true:=h1;have h2:(if G b then(if G c then le b c else true)else(if G c then false else true))=true:=h2;by_cases ga:G a
  .rw[K0 ga]at h1 ⊢;by_cases gc:G c
   .rw[K0 gc]at h2 ⊢;by_cases gb:G b
    .rw[K0 gb]at h1 h2;exact tr a b c ga gb gc h1 h2
    grind
   .rw[D0 gc]
  .rw[D0 ga]at h1 ⊢;by_cases gb:G b
   .grind
   .rw[D0 gb]at h2;exact h2) (λa b=>by
  show((if G a then(if G b then le a b else true)else(if G b then false else true))||(if G b then(if G a then le b a else true)else(if G a then false else true)))=true;by_cases ga:G a
  .by_cases gb:G b
   all_goals grind
  .by_cases gb:G b
   .grind
   .rw[D0 ga,D0 gb];rfl) l
 rw[<-e]at p;refine List.Pairwise.imp_of_mem ?_ p;intro a b ha hb h;have h:(if G a then(if G b then le a b else true)else(if G b then false else true))=true:=h
 simp_all
theorem yQ{l:List Way}(hl:∀w∈l,YN w/\tV L n w.rows) (h:firstOn lap SG (inWayOrder l)=some w) :
  w∈l/\(near lap (bitsOf SG)&&&w.bits==0)=true/\∀v∈l,(near lap (bitsOf SG)&&&v.bits==0)=true->v.rows=w.rows\/sooner w.rows v.rows=true:=by
 have h':(inWayOrder l).find? (λ(w:Way)=>near lap (bitsOf SG)&&&w.bits==0)=some w:=h;obtain⟨h1,as,bs,e,h2⟩:=RA.mp h';have ml:w∈l:=dD.mp (show w∈inWayOrder l by rw[e];simp);refine⟨ml,h1,λv hv pv=>?_⟩;have p:=Ip (λ(v w:Way)=>!w.sooner v) (λw=>YN w/\tV L n w.rows) (λa b c ga gb gc h1 h2=>?_) (λa b ga gb=>?_) l hl
 .have p:(inWayOrder l).Pairwise λa b=>(!b.sooner a)=true:=p;rw[e]at p;have mv:v∈as++w::bs:=by
   rw[<-e];exact dD.mpr hv
  rcases N2.mp mv with m|m
  .grind
  .rcases S1.mp m with rfl|m
   .grind
   .have z:=(xG.mp (List.pairwise_append.mp p).2.1).1 v m;rw[BE (hl v hv).1 (hl w ml).1]at z;rcases qT (hl v hv).2 (hl w ml).2 with q|q|q
    all_goals grind
 .rw[BE gc.1 ga.1,O3];rw[BE gb.1 ga.1,O3]at h1;rw[BE gc.1 gb.1,O3]at h2;rw[Q4]at h1 h2 ⊢;intro q;rcases qT ga.2 gb.2 with z|z|z
  .grind
  .exact h2 (BI q z)
  .exact h1 z
 .rw[BE gb.1 ga.1,BE ga.1 gb.1,W3,O3,O3,Q4,Q4];by_cases z:sooner b.rows a.rows=true
  .exact .inr (Na z)
  .exact .inl z
theorem rT{l:List Way}(h:firstOn lap SG (inWayOrder l)=none):∀v∈l,¬(near lap (bitsOf SG)&&&v.bits==0)=true:=by
 intro v hv;have h':(inWayOrder l).find? (λ(w:Way)=>near lap (bitsOf SG)&&&w.bits==0)=none:=h;exact yG.mp h' v (dD.mpr hv)
theorem Pa(r:Row):∀l:List Row,r∈once l↔r∈l
 |[]=>jC
 |[x]=>jC
 |x::y::l=>by
  have ih:=Pa r (y::l);unfold once
  all_goals grind
theorem Jp(r:Row)(l:List Row):r∈inRowOrder l↔r∈l:=by
 unfold inRowOrder;rw[Pa,dD]
theorem D4(r s:Row):lengthOf (r++s)=lengthOf r+lengthOf s:=by
 induction r with
 |nil=>simp[lengthOf,sum]
 |cons p r ih=>
  grind [F3]
theorem sT(w:Row):∀(f i left:Nat)(m:Row),middle w f i left=some m->lengthOf m=left
 |0,i,left,m,h=>by
  unfold middle at h;by_cases c:left=0
  .rw[K0 c]at h;obtain rfl:=J0 h;exact c.symm
  grind
 |f+1,i,left,m,h=>by
  unfold middle at h;by_cases c:left=0
  .rw[K0 c]at h;obtain rfl:=J0 h;exact c.symm
  .rw[D0 c]at h;by_cases d:left<(w.getD (i%w.length) .S).length
   .rw[K0 d]at h;cases h
   .rw[D0 d]at h;cases q:middle w f (i+1) (left-(w.getD (i%w.length) .S).length)with
    |none=>grind
    |some r=>
     rw[q]at h;obtain rfl:=J0 h;have z:=sT w f (i+1) _ r q;rw[F3,z]
     lia
theorem Qa{k length:Nat}:r∈rowsOf b k length left right↔
  (endIs left k r.head?&&endIs right k r.getLast?)=true/\∃p∈endsOf b.makes b.most,∃q∈endsOf b.makes b.most,lengthOf p+lengthOf q<=length/\∃i<(b.course k).length,∃m,middle (b.course k) length i (length-lengthOf p-lengthOf q)=some m/\r=p++(m++q):=by
 unfold rowsOf;dsimp only;rw[Jp,O4];constructor
 .rintro⟨h1,h2⟩;refine⟨h2,?_⟩;obtain⟨p,hp,h1⟩:=u7.mp h1;obtain⟨q,hq,h1⟩:=u7.mp h1;by_cases c:length<lengthOf p+lengthOf q
  .rw[K0 c]at h1;cases h1
  .rw[D0 c]at h1;obtain⟨i,hi,h1⟩:=o6.mp h1;cases e:middle (b.course k) length i (length-lengthOf p-lengthOf q)with
   |none=>rw[e]at h1;cases h1
   |some m=>
    rw[e]at h1;exact⟨p,hp,q,hq,by lia,i,j6.mp hi,m,e,(J0 h1).symm⟩
 .rintro⟨h2,p,hp,q,hq,c,i,hi,m,e,rfl⟩;refine⟨u7.mpr ⟨p,hp,u7.mpr ⟨q,hq,?_⟩⟩,h2⟩;rw[D0 (by lia)];exact o6.mpr ⟨i,j6.mpr hi,by rw[e];rfl⟩
theorem Mu{k length:Nat}(h:r∈rowsOf b k length left right):lengthOf r=length:=by
 grind [Qa,D4,sT]
def kL(b:Bond)(p:Panel):Nat->List Row->Prop
 |_,[]=>True
 |k,r::l=>r∈rowsOf b k p.length p.left p.right/\(∀s,l.head?=some s->FW b.lap (jointsOf s) (jointsOf r))/\kL b p (k+1) l
theorem dM{b:Bond}{p:Panel}:∀{k:Nat}{l:List Row},kL b p k l->∀r∈l,lengthOf r=p.length
 |_,[],_,r,hr=>by cases hr
 |k,s::l,h,r,hr=>by
  rcases S1.mp hr with rfl|m
  .exact Mu h.1
  .exact dM h.2.2 r m
theorem zJ{k:Nat}(h:kL b p k l) (hn:l.length=n):tV p.length n l:=⟨hn,dM h⟩
structure Up(b:Bond)(p:Panel)(n k:Nat)(l:List Way):Prop where
 good:∀w∈l,YN w/\kL b p k w.rows/\w.rows.length=n+1/\∀m,kL b p k m->m.length=n+1->m.head?=w.rows.head?->m=w.rows\/sooner w.rows m=true
 all:∀m,kL b p k m->m.length=n+1->∃w∈l,w.rows.head?=m.head?
theorem iY(b:Bond)(p:Panel):∀(n k:Nat),Up b p n k (upFrom b p n k)
 |0,k=>by
  refine⟨λw hw=>?_,λm hm hl=>?_⟩
  .obtain⟨r,hr,rfl⟩:=S2.mp hw;refine⟨Oa Gp,⟨hr,(λs h=>nomatch h),trivial⟩,rfl,λm hm hl hh=>.inl ?_⟩
   match m,hl,hh with
   |[s],_,hh=>
    obtain rfl:s=r:=J0 hh;rfl
  .match m,hl,hm with
   |[s],_,hm=>exact⟨_,S2.mpr ⟨s,hm.1,rfl⟩,rfl⟩
 |n+1,k=>by
  have ih:=iY b p n (k+1);have hl:∀w∈upFrom b p n (k+1),YN w/\tV p.length (n+1) w.rows:=λw hw=>⟨(ih.good w hw).1,zJ (ih.good w hw).2.1 (ih.good w hw).2.2.1⟩
  have zds:∀(r s:Row)(w:Way),w∈upFrom b p n (k+1)->w.rows.head?=some s->((near b.lap (bitsOf (jointsOf r))&&&w.bits==0)=true↔FW b.lap (jointsOf s) (jointsOf r)):=λr s w hw hs=>by
   rw[(ih.good w hw).1.2.2 s hs];exact cD _ _ _
  refine⟨λw hw=>?_,λm hm hml=>?_⟩
  .obtain⟨r,hr,hw⟩:=o6.mp hw;cases hf:firstOn b.lap (jointsOf r) (inWayOrder (upFrom b p n (k+1)))with
   |none=>grind
   |some a=>
    rw[hf]at hw;obtain rfl:=J0 hw;obtain⟨ma,pa,jF⟩:=yQ hl hf;obtain⟨ga,sa,la,_⟩:=ih.good a ma;refine⟨Oa ga,⟨hr,λs hs=>(zds r s a ma hs).mp pa,sa⟩,by show a.rows.length+1=_;rw[la],λm hm hml hh=>?_⟩
    match m,hml,hh,hm with
    |s::m',hml,hh,hm=>
     obtain rfl:s=r:=J0 hh;have Fn:m'.length=n+1:=by simpa using hml
     obtain⟨a',ma',Yr⟩:=ih.all m' hm.2.2 Fn;obtain⟨_,_,_,lst⟩:=ih.good a' ma';obtain⟨t,ht⟩:∃t,m'.head?=some t:=by
      cases m' with
      |nil=>simp at Fn
      |cons t _=>grind
     have pa':=(zds s t a' ma' (Yr.trans ht)).mpr (hm.2.1 t ht);show s::m'=s::a.rows\/sooner (s::a.rows) (s::m')=true;rw[Zk];rcases jF a' ma' pa' with q1|q1
     .rcases lst m' hm.2.2 Fn Yr.symm with q2|q2
      all_goals grind
     .rcases lst m' hm.2.2 Fn Yr.symm with q2|q2
      .grind
      .exact .inr (BI q1 q2)
  .match m,hml,hm with
   |r::m',hml,hm=>
    have Fn:m'.length=n+1:=by simpa using hml
    obtain⟨a',ma',Yr⟩:=ih.all m' hm.2.2 Fn;obtain⟨t,ht⟩:∃t,m'.head?=some t:=by
     cases m' with
     |nil=>simp at Fn
     |cons t _=>grind
    have pa':=(zds r t a' ma' (Yr.trans ht)).mpr (hm.2.1 t ht);cases hf:firstOn b.lap (jointsOf r) (inWayOrder (upFrom b p n (k+1)))with
    |none=>exact absurd pa' (rT hf a' ma')
    |some a=>exact⟨wayOn r a,o6.mpr ⟨r,hm.1,by rw[hf];rfl⟩,rfl⟩
def ZN(b:Bond)(p:Panel)(VA:List Nat)(l:List Row):Prop:=kL b p p.first l/\l.length=p.courses/\∀s,l.head?=some s->FW b.lap (jointsOf s) VA
theorem rP(hc:1<=p.courses)(h:fillOf b p VA=some l):ZN b p VA l/\∀m,ZN b p VA m->m=l\/sooner l m=true:=by
 have U:=iY b p (p.courses-1) p.first;unfold fillOf at h;cases hf:firstOn b.lap VA (inWayOrder (upFrom b p (p.courses-1) p.first))with
 |none=>grind
 |some w=>
  rw[hf]at h;obtain rfl:w.rows=l:=J0 h;obtain⟨mw,pw,jF⟩:=yQ (λw hw=>⟨(U.good w hw).1,zJ (U.good w hw).2.1 (U.good w hw).2.2.1⟩) hf;obtain⟨gw,sw,lw,lst⟩:=U.good w mw;refine⟨⟨sw,by lia,λs hs=>?_⟩,λm ⟨sm,lm,am⟩=>?_⟩
  .rw[gw.2.2 s hs]at pw;exact(cD _ _ _).mp pw
  .obtain⟨v,mv,hv⟩:=U.all m sm (by lia);obtain⟨gv,sv,lv,zib⟩:=U.good v mv;obtain⟨t,ht⟩:∃t,m.head?=some t:=by
    cases m with
    |nil=>simp at lm;lia
    |cons t _=>grind
   have pv:(near b.lap (bitsOf VA)&&&v.bits==0)=true:=by
    rw[gv.2.2 t (hv.trans ht)];exact(cD _ _ _).mpr (am t ht)
   rcases jF v mv pv with q1|q1
   .grind
   .rcases zib m sm (by lia) hv.symm with q2|q2
    .grind
    .exact .inr (BI q1 q2)
theorem Kp(hc:1<=p.courses)(h:fillOf b p VA=none):∀m,¬ZN b p VA m:=by
 have U:=iY b p (p.courses-1) p.first;intro m ⟨sm,lm,am⟩;unfold fillOf at h;cases hf:firstOn b.lap VA (inWayOrder (upFrom b p (p.courses-1) p.first))with
 |some w=>grind
 |none=>
  obtain⟨v,mv,hv⟩:=U.all m sm (by lia);obtain⟨t,ht⟩:∃t,m.head?=some t:=by
   cases m with
   |nil=>simp at lm;lia
   |cons t _=>grind
  refine rT hf v mv ?_;rw[(U.good v mv).1.2.2 t (hv.trans ht)];exact(cD _ _ _).mpr (am t ht)
theorem Yz(hc:1<=p.courses)(hl:ZN b p VA l)(h:∀m,ZN b p VA m->m=l\/sooner l m=true):fillOf b p VA=some l:=by
 cases hf:fillOf b p VA with
 |none=>exact absurd hl (Kp hc hf l)
 |some m=>
  obtain⟨fm,lm⟩:=rP hc hf;rcases h m fm with q|q
  .rw[q]
  .rcases lm l hl with q'|q'
   .rw[q']
   .exact absurd q (Na q')
theorem CI(makes:List Piece):∀(n:Nat)(r:Row),r∈endsOf makes n↔r.length<=n/\∀p∈r,p∈makes
 |0,r=>by
  unfold endsOf;grind
 |n+1,r=>by
  unfold endsOf;rw[S1,u7];constructor
  .rintro(rfl|⟨s,hs,h⟩)
   .grind
   .obtain⟨p,hp,rfl⟩:=S2.mp h;obtain⟨h1,h2⟩:=(CI makes n s).mp hs
    all_goals grind
  .rintro⟨h1,h2⟩;cases r with
   |nil=>grind
   |cons p s=>exact .inr ⟨s,(CI makes n s).mpr ⟨by simpa using h1,λq hq=>h2 q (by simp[hq])⟩,S2.mpr ⟨p,h2 p (by simp),rfl⟩⟩
theorem tT(w:Row)(i n:Nat):repeated w i (n+1)=w.getD (i%w.length) .S::repeated w (i+1) n:=by
 unfold repeated;rw[aB,C3,B3];congr 1;refine Y5 λj _=>?_;show w.getD ((i+(j+1))%w.length) .S=w.getD ((i+1+j)%w.length) .S;rw[show i+(j+1)=i+1+j by lia]
theorem Al(w:Row)(i n:Nat):(repeated w i n).length=n:=by
 unfold repeated;rw[B0,T7]
theorem zG:∀r:Row,r.length<=lengthOf r
 |[]=>j1 _
 |p::r=>by
  rw[F3,M1];have h1:=zG r;have h2:=IA p
  lia
theorem AJ(w:Row):∀(f i left:Nat)(m:Row),left<=f->(middle w f i left=some m↔m=repeated w i m.length/\lengthOf m=left)
 |0,i,left,m,h=>by
  have h0:left=0:=by lia
  subst h0;unfold middle;rw[K0 rfl];constructor
  .intro e;obtain rfl:=J0 e;exact⟨rfl,rfl⟩
  .rintro⟨_,e⟩;rw[GH e]
 |f+1,i,left,m,h=>by
  unfold middle;by_cases c:left=0
  .rw[K0 c];subst c;constructor
   .intro e;obtain rfl:=J0 e;exact⟨rfl,rfl⟩
   .rintro⟨_,e⟩;rw[GH e]
  .rw[D0 c];have pp:=IA (w.getD (i%w.length) .S);by_cases d:left<(w.getD (i%w.length) .S).length
   .rw[K0 d];constructor
    .grind
    .rintro⟨e1,e2⟩;cases m with
     |nil=>exact absurd e2.symm c
     |cons p m=>
      rw[M1,tT]at e1;obtain⟨rfl,_⟩:=pB e1;rw[F3]at e2
      lia
   .rw[D0 d];constructor
    .intro e;cases q:middle w f (i+1) (left-(w.getD (i%w.length) .S).length)with
     |none=>grind
     |some r=>
      rw[q]at e;obtain rfl:=J0 e;obtain⟨h1,h2⟩:=(AJ w f (i+1) _ r (by lia)).mp q;refine⟨?_,?_⟩
      .rw[M1,tT,<-h1]
      .rw[F3,h2]
       lia
    .rintro⟨e1,e2⟩;cases m with
     |nil=>exact absurd e2.symm c
     |cons p m=>
      rw[M1,tT]at e1;obtain⟨rfl,e1'⟩:=pB e1;rw[F3]at e2;rw[(AJ w f (i+1) (left-(w.getD (i%w.length) .S).length) m (by lia)).mpr ⟨e1',by lia⟩];rfl
def Yg(b:Bond)(k:Nat)(r:Row):Prop:=∃p m q:Row,r=p++(m++q)/\p.length<=b.most/\q.length<=b.most/\(∀x∈p,x∈b.makes)/\(∀x∈q,x∈b.makes)/\∃i<(b.course k).length,m=repeated (b.course k) i m.length
theorem aO{k length:Nat}:r∈rowsOf b k length left right↔lengthOf r=length/\(endIs left k r.head?&&endIs right k r.getLast?)=true/\Yg b k r:=by
 rw[Qa];constructor
 .rintro⟨h,p,hp,q,hq,c,i,hi,m,e,rfl⟩;obtain⟨p1,p2⟩:=(CI _ _ _).mp hp;obtain⟨q1,q2⟩:=(CI _ _ _).mp hq;obtain⟨m1,m2⟩:=(AJ _ _ _ _ _ (by lia)).mp e;refine⟨?_,h,p,m,q,rfl,p1,q1,p2,q2,i,hi,m1⟩;rw[D4,D4,m2]
  lia
 .rintro⟨hl,h,p,m,q,rfl,p1,q1,p2,q2,i,hi,m1⟩;rw[D4,D4]at hl;exact⟨h,p,(CI _ _ _).mpr ⟨p1,p2⟩,q,(CI _ _ _).mpr ⟨q1,q2⟩,by lia,i,hi,m,(AJ _ _ _ _ _ (by lia)).mpr ⟨m1,by lia⟩,rfl⟩
end Wf
namespace Wm
open Bd
variable {y n x i f:Nat}{s:Option Nat}{α:Type}{w:Wall}
def Nu(f i:Nat):Option Nat:=if f<i then some f else none
theorem uT:stretchesFrom w y (n+1) x s=if w.isOpen x y=true then(match s with
  |some a=>[(a,x-a)]
  |none=>[])++stretchesFrom w y n (x+1) none else stretchesFrom w y n (x+1) (s.orElse λ(_:Unit)=>some x):=by
 cases s<;>rfl
theorem Ra:stretchesFrom w y 0 x s=match s with
  |some a=>[(a,x-a)]
  |none=>[]:=by
 cases s<;>rfl
theorem Sa(ho:w.isOpen i y=true):stretchesFrom w y (n+1) i (Nu f i)=(if f<i then[(f,i-f)]else[])++stretchesFrom w y n (i+1) (Nu (i+1) (i+1)):=by
 grind [uT,Nu]
theorem Ta(hf:f<=i)(ho:w.isOpen i y=false):stretchesFrom w y (n+1) i (Nu f i)=stretchesFrom w y n (i+1) (Nu f (i+1)):=by
 grind [uT,Nu]
theorem Bl:stretchesFrom w y 0 i (Nu f i)=if f<i then[(f,i-f)]else[]:=by
 grind [Ra,Nu]
theorem jY(w:Wall)(y:Nat):∀(n i:Nat)(s:Option Nat),(stretchesFrom w y n i s).length<=n+1
 |0,i,s=>by
  rw[Ra];cases s<;>simp
 |n+1,i,s=>by
  rw[uT];by_cases h:w.isOpen i y=true
  .rw[K0 h,Y1];have z:=jY w y n (i+1) none;cases s with
   |none=>simp;lia
   |some a=>simp;lia
  .rw[D0 h];have z:=jY w y n (i+1) (s.orElse λ(_:Unit)=>some i)
   lia
theorem wM(w:Wall)(y:Nat):(w.stretches y).length<=w.long+1:=jY w y _ _ _
def UF(w:Wall)(y:Nat)(l:List (Nat×Nat)):List Part:=(l.filter λ(s:Nat×Nat)=>!(decide (0<y)&&(w.stretches (y-1)).contains s)).map λ(s:Nat×Nat)=>⟨s.1,y,s.2,w.runOf s y⟩
theorem vT(n:Nat):List.range (n+1)=List.range n++[n]:=SC
def pH(w:Wall)(n:Nat):List Part:=(List.range n).flatMap λy=>UF w y (w.stretches y)
theorem bO(w:Wall)(n:Nat):pH w (n+1)=pH w n++UF w n (w.stretches n):=by
 unfold pH;rw[vT,xC];simp
theorem kY(w:Wall)(y:Nat)(l:List (Nat×Nat))(s:Nat×Nat):UF w y (l++[s])=UF w y l++if (decide (0<y)&&(w.stretches (y-1)).contains s)=true then[]else[⟨s.1,y,s.2,w.runOf s y⟩]:=by
 unfold UF;rw[j7,V0];rw[i5,uF];cases (decide (0<y)&&(w.stretches (y-1)).contains s)<;>rfl
theorem zQ(w:Wall)(y:Nat)(l:List (Nat×Nat)):(UF w y l).length<=l.length:=by
 grind [UF]
theorem lL(w:Wall):∀n,(pH w n).length<=n*(w.long+1)
 |0=>by simp[pH]
 |n+1=>by
  rw[bO,Y1];have h1:=lL w n;have h2:=zQ w n (w.stretches n);have h3:=wM w n;rw[Nat.succ_mul]
  lia
def AQ(w:Wall):List (List (Nat×Nat)):=(List.range w.high).map w.stretches
theorem HW(h:y<w.high):(AQ w)[y]?=some (w.stretches y):=by
 unfold AQ;rw[P1,d8 h];rfl
theorem zcG(w:Wall)(s:Nat×Nat)(y:Nat)(hy:y<=w.high):(((AQ w).drop y).takeWhile λl=>l.contains s).length=w.runOf s y:=by
 unfold Wall.runOf AQ;have e:((List.range w.high).map w.stretches).drop y=(List.range (w.high-y)).map λk=>w.stretches (y+k):=by
  apply List.ext_getElem?;grind
 rw[e,List.takeWhile_map,B0];rfl
theorem El{α:Type}{p:α->Bool}:∀{l:List α}{k:Nat}{x:α},l[k]?=some x->(∀j y,j<k->l[j]?=some y->p y=true)->(l.takeWhile p).length=if p x=true then k+1+((l.drop (k+1)).takeWhile p).length else k
 |[],k,x,h,_=>by simp at h
 |a::l,0,x,h,_=>by
  have e:a=x:=J0 h;subst e;rw[yC];cases q:p a with
  |true=>simp;lia
  |false=>simp
 |a::l,k+1,x,h,hp=>by
  have pa:p a=true:=hp 0 a (by lia) rfl;have ih:=El (l:=l) (k:=k) (x:=x) (p:=p) h λj y hj hy=>hp (j+1) y (by lia) hy;rw[yC,K0 pa,M1,ih,List.drop_succ_cons];by_cases q:p x=true
  .rw[K0 q,K0 q]
   lia
  .rw[D0 q,D0 q]
theorem Ou{α:Type}{p:α->Bool}:∀{l:List α},(∀j y,j<l.length->l[j]?=some y->p y=true)->(l.takeWhile p).length=l.length
 |[],_=>rfl
 |a::l,h=>by
  have pa:p a=true:=h 0 a (by simp) rfl;rw[yC,K0 pa,M1,M1,Ou (l:=l) λj y hj hy=>h (j+1) y (by simp;lia) hy]
def pI(s:Nat×Nat):List Int:=[(s.1:Int),(s.2:Int)]
theorem zcH{a b:Nat×Nat}:pI a=pI b↔a=b:=by
 grind [pI]
theorem BQ(s:Nat×Nat):∀l:List (Nat×Nat),(l.map pI).contains (pI s)=l.contains s
 |[]=>rfl
 |a::l=>by
  grind [zcH]
theorem Zg(w:Wall)(x y:Nat):w.isOpen x y=(w.opens.map λo=>o.has x y).any id:=by
 rw[EN];rfl
end Wm
namespace Wc
open Bd
variable {t:Bytes}{L:List Bytes}{y a m i n:Nat}{p:Part}{YB:String}{α:Type}{w:Wall}
def endAt(w:Wall)(d:Bytes)(y:Nat):Nat->Nat
 |0=>0
 |x+1=>match pieceOf (shown w d x y)with
  |some p=>x+p.length
  |none=>endAt w d y x
def Pu(w:Wall)(y L a m:Nat):Prop:=1<=m/\a+m<=L/\(∀k<m,w.isOpen (a+k) y=false)/\(a=0\/w.isOpen (a-1) y=true)/\(a+m=L\/w.isOpen (a+m) y=true)
theorem lY{w:Wall}{y a m:Nat}:∀(n i f:Nat),f<=i->(∀k,f<=k->k<i->w.isOpen k y=false)->(f=0\/w.isOpen (f-1) y=true)->((a,m)∈stretchesFrom w y n i (Nu f i)↔Pu w y (i+n) a m/\f<=a)
 |0,i,f,fi,no,st=>by
  rw[Bl];by_cases c:f<i
  .rw[K0 c,Q1];constructor
   .intro e;obtain⟨rfl,rfl⟩:=KB e;exact⟨⟨by lia,by lia,λk hk=>no _ (by lia) (by lia),st,.inl (by lia)⟩,j1 _⟩
   .rintro⟨⟨h1,h2,h3,h4,h5⟩,h6⟩;have ea:a=f:=by
     rcases h4 with h|h
     .lia
     .by_cases q:a=f
      .exact q
      .rw[no (a-1) (by lia) (by lia)]at h;cases h
    subst ea;have em:a+m=i:=by
     rcases h5 with h|h
     .lia
     .by_cases q:a+m=i
      .exact q
      .rw[no (a+m) (by lia) (by lia)]at h;cases h
    rw[show m=i-a by lia]
  .rw[D0 c];constructor
   .grind
   .rintro⟨⟨h1,h2,_⟩,h6⟩
    lia
 |n+1,i,f,fi,no,st=>by
  by_cases ho:w.isOpen i y=true
  .rw[Sa ho,N2,lY n (i+1) (i+1) (j1 _) (λk h1 h2=>by lia) (.inr (by rw[show i+1-1=i by lia];exact ho))];constructor
   .rintro(h|⟨h,h6⟩)
    .by_cases c:f<i
     .rw[K0 c,Q1]at h;obtain⟨rfl,rfl⟩:=KB h;exact⟨⟨by lia,by lia,λk hk=>no _ (by lia) (by lia),st,.inr (by rw[show a+(i-a)=i by lia];exact ho)⟩,j1 _⟩
     grind
    grind
   .rintro⟨h,h6⟩;by_cases c:i+1<=a
    .right;grind
    .left;obtain⟨h1,h2,h3,h4,h5⟩:=h;have ai:a≠i:=λe=>by
      grind
     have ea:a=f:=by
      rcases h4 with h|h
      .lia
      .by_cases q:a=f
       .exact q
       .rw[no (a-1) (by lia) (by lia)]at h;cases h
     subst ea;have em:a+m=i:=by
      by_cases q:a+m<=i
      .rcases h5 with h|h
       .lia
       .by_cases q2:a+m=i
        .exact q2
        .rw[no (a+m) (by lia) (by lia)]at h;cases h
      .have:=h3 (i-a) (by lia);grind
     rw[K0 (by lia),Q1,show m=i-a by lia]
  .have En:w.isOpen i y=false:=by simpa using ho
   rw[Ta fi En,lY n (i+1) f (by lia) (λk h1 h2=>by
    by_cases q:k=i
    .grind
    .exact no k h1 (by lia)) st,show i+1+n=i+(n+1) by lia]
theorem Ua:(a,m)∈w.stretches y↔Pu w y w.long a m:=by
 have z:=lY (w:=w) (y:=y) (a:=a) (m:=m) w.long 0 0 (j1 _) (λk h1 h2=>by lia) (.inl rfl);rw[bB]at z;constructor
 .intro h;exact(z.mp h).1
 .intro h;exact z.mpr ⟨h,E1 _⟩
theorem Va(w:Wall)(s:Nat×Nat)(y:Nat):(∀k<w.runOf s y,y+k<w.high/\s∈w.stretches (y+k))/\(y+w.runOf s y<w.high->s∉w.stretches (y+w.runOf s y)):=by
 unfold Wall.runOf;have gen:∀(p:Nat->Bool)(l:List Nat),(∀k<(l.takeWhile p).length,∃x,l[k]?=some x/\p x=true)/\∀x,l[(l.takeWhile p).length]?=some x->p x=false:=by
  intro p l
  induction l with
  |nil=>exact⟨λk hk=>by simp at hk,λx h=>by simp at h⟩
  |cons z l ih=>
   rw[yC];by_cases c:p z=true
   .rw[K0 c];refine⟨λk hk=>?_,λx h=>ih.2 x (by simpa using h)⟩;cases k with
    |zero=>exact⟨z,rfl,c⟩
    |succ k=>exact ih.1 k (by simpa using hk)
   .rw[D0 c];refine⟨λk hk=>by simp at hk,λx h=>?_⟩;obtain rfl:=J0 h;simpa using c
 obtain⟨g1,g2⟩:=gen (λk=>(w.stretches (y+k)).contains s) (List.range (w.high-y));generalize ((List.range (w.high-y)).takeWhile λk=>(w.stretches (y+k)).contains s).length=n at g1 g2;refine⟨λk hk=>?_,λh=>?_⟩
 .obtain⟨x,hx,hp⟩:=g1 k hk;have l:=(N0.mp hx).1;rw[T7]at l;rw[d8 l]at hx;obtain rfl:=J0 hx;exact⟨by lia,wB.mp hp⟩
 .have z:=g2 n (d8 (by lia));intro q;rw[wB.mpr q]at z;cases z
theorem Wa:p∈w.parts↔p.y<w.high/\(p.x,p.long)∈w.stretches p.y/\¬(0<p.y/\(p.x,p.long)∈w.stretches (p.y-1))/\p.high=w.runOf (p.x,p.long) p.y:=by
 unfold Wall.parts;rw[u7];constructor
 .rintro⟨y,hy,h⟩;grind
 .rintro⟨h1,h2,h3,h4⟩;refine⟨p.y,j6.mpr h1,S2.mpr ⟨(p.x,p.long),O4.mpr ⟨h2,?_⟩,?_⟩⟩
  .rw[O3,Q4];grind
  .obtain⟨x,y,l,h⟩:=p;grind
theorem mY(h:p∈w.parts)(h1:p.y<=y)(h2:y<p.y+p.high):y<w.high/\Pu w y w.long p.x p.long:=by
 obtain⟨_,_,_,e⟩:=Wa.mp h;have z:=(Va w (p.x,p.long) p.y).1 (y-p.y) (by lia);rw[show p.y+(y-p.y)=y by lia]at z;exact⟨z.1,Ua.mp z.2⟩
theorem wT(h:p∈w.parts):1<=p.high/\p.y+p.high<=w.high:=by
 obtain⟨h1,h2,_,e⟩:=Wa.mp h;obtain⟨g1,g2⟩:=Va w (p.x,p.long) p.y;have a:1<=p.high:=by
  by_cases c:p.high=0
  .rw[<-e,c,Nat.add_zero]at g2;exact absurd h2 (g2 h1)
  .lia
 refine⟨a,?_⟩;have:=(g1 (p.high-1) (by lia)).1
 lia
def SA(g:Nat->Nat):Nat->Nat
 |0=>0
 |n+1=>SA g n+g n
theorem qH{g h:Nat->Nat}:∀{n:Nat},(∀k<n,g k=h k)->SA g n=SA h n
 |0,_=>rfl
 |n+1,e=>by
  show SA g n+g n=SA h n+h n;rw[qH λk hk=>e k (by lia),e n (by lia)]
theorem CQ(g:Nat->Nat):∀n,SA g (n+1)=g 0+SA (λk=>g (k+1)) n
 |0=>by show 0+g 0=g 0+0;lia
 |n+1=>by
  show SA g (n+1)+g (n+1)=g 0+(SA (λk=>g (k+1)) n+g (n+1));rw[CQ g n]
  lia
theorem sP(g:Nat->Nat)(n:Nat):∀m,SA g (n+m)=SA g n+SA (λk=>g (n+k)) m
 |0=>rfl
 |m+1=>by
  show SA g (n+m)+g (n+m)=SA g n+(SA (λk=>g (n+k)) m+g (n+m));rw[sP g n m]
  lia
def vF{α:Type}(h:α->Nat):List α->Nat
 |[]=>0
 |a::l=>h a+vF h l
theorem xT{α:Type}{g h:α->Nat}:∀{l:List α},(∀a∈l,g a=h a)->vF g l=vF h l
 |[],_=>rfl
 |a::l,e=>by
  show g a+vF g l=h a+vF h l;rw[e a (by simp),xT λb hb=>e b (by simp[hb])]
theorem Xa{α:Type}(g h:α->Nat):∀l:List α,vF (λa=>g a+h a) l=vF g l+vF h l
 |[]=>rfl
 |a::l=>by
  show g a+h a+vF (λa=>g a+h a) l=g a+vF g l+(h a+vF h l);rw[Xa g h l]
  lia
theorem IW{α:Type}{h:α->Nat}:∀{l:List α},(∀a∈l,h a=0)->vF h l=0
 |[],_=>rfl
 |a::l,e=>by
  show h a+vF h l=0;rw[e a (by simp),IW λb hb=>e b (by simp[hb])]
section
variable (w:Wall)(G:Nat->Nat×Nat->Nat)
end
theorem readRow_len:∀{x:Bytes}{r:Row},readRow x=some r->r.length=x.length:=by
 intro x
 induction x with
 |nil=>
  intro r h;have:r=[]:=by
   grind [readRow]
  rw[this];rfl
 |cons c x ih=>
  intro r h;unfold readRow at h;rw[U8]at h;cases hp:pieceOf c with
  |none=>grind
  |some p=>
   rw[hp]at h;cases hx:List.mapM pieceOf x with
   |none=>grind
   |some s=>
    rw[hx]at h;have e:p::s=r:=J0 h;rw[<-e,M1,M1,ih hx]
theorem yT(L:List Bytes):∀(f i:Nat)(l r:List Row),coursesAt L f i l=.ok r->(∀c∈l,c.length<=8)->(∀c∈r,c.length<=8)/\l.length<=r.length/\(0<f->i<L.length->r≠[])
 |0,i,l,r,h,hl=>by
  obtain rfl:=b3 h;grind
 |f+1,i,l,r,h,hl=>by
  unfold coursesAt at h;by_cases c:L.length<=i
  .rw[K0 c]at h;obtain rfl:=b3 h;exact⟨hl,j1 _,λ_ z=>absurd z (by lia)⟩
  .rw[D0 c]at h;cases hx:lineAt L i "course" isBig with
   |error e=>grind
   |ok x=>
    rw[hx]at h;dsimp only at h;by_cases c2:PATTERN<x.length
    .grind
    .rw[D0 c2]at h;cases hy:lettersOf (λr=>r.all λp=>!p.isCut) x with
     |none=>grind
     |some s=>
      rw[hy]at h;dsimp only at h;by_cases c3:COURSES<=l.length
      .grind
      .rw[D0 c3]at h;have sl:s.length<=8:=by
        unfold lettersOf at hy;cases hz:readRow x with
        |none=>grind
        |some u=>
         rw[hz,o4]at hy;by_cases c4:(u.all λp=>!p.isCut)=true
         .rw[K0 c4]at hy;obtain rfl:=J0 hy;rw[readRow_len hz];unfold PATTERN at c2
          lia
         all_goals grind
       obtain⟨g1,g2,g3⟩:=yT L f (i+1) (l++[s]) r h (λz hz=>by
        rcases N2.mp hz with q|q
        .exact hl z q
        .rw[Q1.mp q];exact sl)
       rw[Y1,m8]at g2;exact⟨g1,by lia,λ_ _ q=>by rw[q]at g2;simp at g2⟩
theorem uP{lo hi:Nat}(h:numberAt L i YB lo hi=.ok n):lo<=n/\n<=hi:=by
 grind [numberAt]
theorem Zz{b:Bond}(h:judge t=.ok b):1<=b.lap/\b.courses≠[]/\∀c∈b.courses,c.length<=8:=by
 unfold judge at h;dsimp only at h;generalize (linesOf t).1++(if (linesOf t).2=[]then[]else[[]])=L at h;cases h0:lineAt L 0 "bond" isSmall with
 |error e=>rw[h0]at h;cases h
 |ok name=>
  rw[h0]at h;dsimp only at h;by_cases c0:NAME<name.length
  .rw[K0 c0]at h;cases h
  rw[D0 c0]at h;cases h1:numberAt L 1 "lap" 1 3 with
  |error e=>rw[h1]at h;cases h
  |ok lap=>
   rw[h1]at h;dsimp only at h;cases h2:numberAt L 2 "most" 0 2 with
   |error e=>rw[h2]at h;cases h
   |ok most=>
    rw[h2]at h;dsimp only at h;generalize (if most=0 then(.ok []:Except Fault Row)else match lineAt L 3 "makes" isBig with
     |.error e=>.error e
     |.ok x=>match lettersOf inOrder x with
      |none=>.error (3,3)
      |some r=>.ok r)=mk at h
    cases mk with
    |error e=>cases h
    |ok makes=>
     dsimp only at h;by_cases c1:L.length<=(if most=0 then 3 else 4)
     .rw[K0 c1]at h;cases h
     rw[D0 c1]at h;cases h3:coursesAt L (L.length+1) (if most=0 then 3 else 4) []with
     |error e=>rw[h3]at h;cases h
     |ok l=>
      rw[h3]at h;obtain rfl:=b3 h;obtain⟨g1,g2,g3⟩:=yT L _ _ _ _ h3 (λc hc=>by cases hc);exact⟨(uP h1).1,g3 (by lia) (by lia),g1⟩
theorem Ah(h:Bd.endAt L i YB=.ok n):n<=2:=by
 grind [Bd.endAt,endIn]
theorem Fl{most:Nat}(h:sizeAt L i YB most=.ok n):1<=n/\n<=most:=by
 grind [sizeAt]
theorem zaa(h:judgeWall t=.ok w):w.left<=2/\w.right<=2/\w.reveal<=2/\1<=w.high/\1<=w.long:=by
 unfold judgeWall at h;dsimp only at h;generalize (linesOf t).1++(if (linesOf t).2=[]then[]else[[]])=L at h;cases h0:lineAt L 0 "wall" isSmall with
 |error e=>grind
 |ok name=>
 rw[h0]at h;dsimp only at h;by_cases c0:NAME<name.length
 .grind
 rw[D0 c0]at h;cases h1:sizeAt L 1 "long" LENGTH with
 |error e=>grind
 |ok long=>
 rw[h1]at h;cases h2:sizeAt L 2 "high" HIGH with
 |error e=>grind
 |ok high=>
 rw[h2]at h;dsimp only at h;cases h3:Bd.endAt L 3 "left" with
 |error e=>grind
 |ok left=>
 rw[h3]at h;cases h4:Bd.endAt L 4 "right" with
 |error e=>grind
 |ok right=>
 rw[h4]at h;cases h5:Bd.endAt L 5 "reveal" with
 |error e=>grind
 |ok reveal=>
 rw[h5]at h;cases h6:opensAt L long high (L.length+1) 6 []with
 |error e=>grind
 |ok l=>
  rw[h6]at h;obtain rfl:=b3 h;exact⟨Ah h3,Ah h4,Ah h5,(Fl h2).1,(Fl h1).1⟩
end Wc
namespace Wg
open Bd Wf
variable {b:Bond}{x:Bytes}{F:Filled}{O P:List (List Row)}{D:List (Nat×Row)}{VA:List Nat}{l m:List Row}{n i y:Nat}{p:Panel}{r s:Row}{α:Type}{w:Wall}
def G6(r:Row):Nat:=bitsOf (jointsOf r)
theorem vP:∀(x:Nat)(r:Row),(jointsFrom x r).Pairwise (·<·)/\∀j∈jointsFrom x r,x<j
 |x,[]=>⟨.nil,λj h=>nomatch h⟩
 |x,[p]=>⟨.nil,λj h=>nomatch h⟩
 |x,p::q::r=>by
  obtain⟨h1,h2⟩:=vP (x+p.length) (q::r);have pp:=IA p;refine⟨xG.mpr ⟨h2,h1⟩,λj hj=>?_⟩;rcases S1.mp hj with rfl|m
  .lia
  .have:=h2 j m
   lia
theorem SM:∀(x:Nat)(r:Row),(jointsFrom x r).length=r.length-1
 |x,[]=>rfl
 |x,[p]=>rfl
 |x,p::q::r=>by
  show(jointsFrom (x+p.length) (q::r)).length+1=_;rw[SM];simp
theorem wP:∀(x:Nat)(r:Row),∀j∈jointsFrom x r,j<x+lengthOf r
 |x,[],j,h=>nomatch h
 |x,[p],j,h=>nomatch h
 |x,p::q::r,j,h=>by
  have pq:=IA q;rw[F3,F3];rcases S1.mp h with rfl|m
  .lia
  .have:=wP _ _ j m;rw[F3]at this
   lia
theorem Qu(h:lengthOf r<=n):G6 r<2^n:=WG _ λi hi=>by
 unfold G6;rw[BA];refine Y0 λq=>?_;have:=wP 0 r i q
 lia
theorem DQ(h:G6 r=G6 s)(hr:r≠[])(hs:s≠[]):r.length=s.length:=by
 have m:∀j,j∈jointsOf r↔j∈jointsOf s:=λj=>by
  have z:(G6 r).testBit j=(G6 s).testBit j:=by rw[h]
  unfold G6 at z;rw[BA,BA,P3]at z;exact z
 have nr:(jointsOf r).Nodup:=(vP 0 r).1.imp λh=>j3 h;have ns:(jointsOf s).Nodup:=(vP 0 s).1.imp λh=>j3 h;have e:=((List.perm_ext_iff_of_nodup nr ns).mpr m).length_eq;unfold jointsOf at e;rw[SM,SM]at e;have:=c5.mpr hr;have:=c5.mpr hs
 lia
def DE(r s:Row):Prop:=cutsOf r<cutsOf s\/(cutsOf r=cutsOf s/\(r=s\/rowBefore r s=true))
theorem DE.refl(r:Row):DE r r:=.inr ⟨rfl,.inl rfl⟩
theorem DE.trans{t:Row}(h1:DE r s) (h2:DE s t):DE r t:=by
 rcases h1 with h1|⟨e1,h1⟩
 .rcases h2 with h2|⟨e2,h2⟩
  .exact .inl (by lia)
  .exact .inl (by lia)
 .rcases h2 with h2|⟨e2,h2⟩
  .exact .inl (by lia)
  .refine .inr ⟨by lia,?_⟩;rcases h1 with rfl|h1
   .exact h2
   .rcases h2 with rfl|h2
    .exact .inr h1
    .exact .inr (oT h1 h2)
structure nY(b:Bond)(p:Panel)(k:Nat)(D:List (Nat×Row)):Prop where
 good:∀z∈D,z.1=G6 z.2/\z.2∈rowsOf b k p.length p.left p.right
 nd:(D.map Prod.fst).Nodup
 all:∀r∈rowsOf b k p.length p.left p.right,∃z∈D,z.1=G6 r/\DE z.2 r
def P6(l:List Row):Nat:=G6 (l.headD [])
structure BJ(b:Bond)(p:Panel)(n k:Nat)(P:List (List Row)):Prop where
 good:∀l∈P,kL b p k l/\l.length=n+1
 nd:(P.map P6).Nodup
 all:∀m,kL b p k m->m.length=n+1->∃l∈P,P6 l=P6 m/\(l=m\/sooner l m=true)
theorem oY{k:Nat}(hp:1<=p.length) (h:r∈rowsOf b k p.length p.left p.right):r≠[]:=by
 rintro rfl;have z:=(aO.mp h).1;have e:lengthOf ([]:Row)=0:=rfl
 lia
theorem EQ(h1:DE r s)(hp:r.length=s.length)(h2:l=m\/sooner l m=true):r::l=s::m\/sooner (r::l) (s::m)=true:=by
 have c2:cutsIn l<=cutsIn m:=by
  grind [HH]
 rcases h1 with h1|⟨e1,h1⟩
 .right;grind [HH,JB]
 .rcases h1 with rfl|h1
  .rcases h2 with rfl|h2
   .grind
   .exact .inr (by rw[Zk];exact h2)
  .right;rw[HH,JB,JB,qB,qB,yJ,h1];rcases h2 with rfl|h2
   .grind
   .rcases(HH l m).mp h2 with q|⟨q1,q⟩
    .lia
    .rcases q with q|⟨q2,q⟩
     all_goals grind
theorem Lp{k:Nat}(hp:1<=p.length) (h:nY b p k D):BJ b p 0 k (D.map λz=>[z.2]):=by
 refine⟨λl hl=>?_,?_,λm hm hl=>?_⟩
 .obtain⟨z,hz,rfl⟩:=S2.mp hl;exact⟨⟨(h.good z hz).2,(λs hs=>by cases hs),trivial⟩,rfl⟩
 .rw[B3];rw[show D.map (P6 ∘ λz=>[z.2])=D.map Prod.fst from Y5 λz hz=>(h.good z hz).1.symm];exact h.nd
 .match m,hl,hm with
  |[r],_,hm=>
   obtain⟨z,hz,e,be⟩:=h.all r hm.1;refine⟨[z.2],S2.mpr ⟨z,hz,rfl⟩,?_,?_⟩
   .show G6 z.2=G6 r;rw[<-(h.good z hz).1,e]
   .refine EQ be ?_ (.inl rfl);exact DQ (by rw[<-(h.good z hz).1,e]) (oY hp (h.good z hz).2) (oY hp hm.1)
def TM(lap j:Nat)(O:List (List Row)):Option (List Row):=O.find? λl=>near lap j&&&P6 l==0
theorem zT(lap:Nat)(r s:Row):(near lap (G6 r)&&&G6 s==0)=true↔FW lap (jointsOf s) (jointsOf r):=cD lap (jointsOf r) (jointsOf s)
theorem AT(ord:O.Pairwise λl m=>¬sooner m l=true){q:List Row->Bool}(h:O.find? q=some l):l∈O/\q l=true/\∀m∈O,q m=true->¬sooner m l=true:=by
 obtain⟨h1,as,bs,rfl,h2⟩:=RA.mp h;refine⟨by simp,h1,λm hm qm=>?_⟩;rcases N2.mp hm with i|i
 .grind
 .rcases S1.mp i with rfl|i
  .exact qP _
  .exact(xG.mp (List.pairwise_append.mp ord).2.1).1 m i
theorem JW{k:Nat}(hl:kL b p k l) (hm:kL b p k m) (ll:l.length=n) (lm:m.length=n) (h:¬sooner m l=true):l=m\/sooner l m=true:=by
 rcases qT (zJ hl ll) (zJ hm lm)with e|e|e
 all_goals grind
theorem yP{α β:Type}{f:α->Nat}{g:α->Option β}{h:β->Nat}:∀{l:List α},(∀a∈l,∀b,g a=some b->h b=f a)->(l.map f).Nodup->((l.filterMap g).map h).Nodup
 |[],_,_=>by simp
 |a::l,hg,nd=>by
  rw[C3,N5]at nd;have hg':∀a∈l,∀b,g a=some b->h b=f a:=λc hc=>hg c (by simp[hc]);cases e:g a with
  |none=>
   rw[List.filterMap_cons_none e];exact yP hg' nd.2
  |some b=>
   rw[List.filterMap_cons_some e,C3,N5];refine⟨λq=>?_,yP hg' nd.2⟩;obtain⟨c,hc,ec⟩:=S2.mp q;obtain⟨a',Yr,ea'⟩:=o6.mp hc;exact nd.1 (S2.mpr ⟨a',Yr,by rw[<-hg' a' Yr c ea',ec,hg a (by simp) b e]⟩)
def EE(lap:Nat)(D:List (Nat×Row))(O:List (List Row)):List (List Row):=D.filterMap λz=>(TM lap z.1 O).map λl=>z.2::l
theorem Bh{k:Nat}(hp:1<=p.length) (h:nY b p k D) (hP:BJ b p n (k+1) P) (pm:O.Perm P) (ord:O.Pairwise λl m=>¬sooner m l=true) :
  BJ b p (n+1) k (EE b.lap D O):=by
 have hd:∀l∈P,∃s t,l=s::t:=λl hl=>by
  have:=(hP.good l hl).2;cases l with
  |nil=>simp at this
  |cons s t=>grind
 refine⟨λl hl=>?_,?_,λm hm hl=>?_⟩
 .obtain⟨z,hz,e⟩:=o6.mp hl;cases hf:TM b.lap z.1 O with
  |none=>grind
  |some a=>
   rw[hf]at e;obtain rfl:z.2::a=l:=J0 e;obtain⟨ma,qa,_⟩:=AT ord hf;have ma:=pm.mem_iff.mp ma;obtain⟨s,t,rfl⟩:=hd a ma;refine⟨⟨(h.good z hz).2,λs' hs=>?_,(hP.good _ ma).1⟩,by rw[M1,(hP.good _ ma).2]⟩;obtain rfl:s=s':=J0 hs;refine(zT b.lap z.2 s).mp ?_;rw[<-(h.good z hz).1];exact qa
 .refine yP (f:=Prod.fst) (λz hz l e=>?_) h.nd;cases hf:TM b.lap z.1 O with
  |none=>grind
  |some a=>
   rw[hf]at e;obtain rfl:z.2::a=l:=J0 e;exact(h.good z hz).1.symm
 .match m,hl,hm with
  |r::m',hl,hm=>
   have Fn:m'.length=n+1:=by simpa using hl
   obtain⟨v,mv,hv,bv⟩:=hP.all m' hm.2.2 Fn;obtain⟨z,hz,e,be⟩:=h.all r hm.1;obtain⟨s,t,rfl⟩:=hd v mv;obtain⟨s',t',rfl⟩:∃s' t',m'=s'::t':=by
    cases m' with
    |nil=>simp at Fn
    |cons s' t'=>grind
   have pv:(near b.lap z.1&&&P6 (s::t)==0)=true:=by
    rw[hv,e];exact(zT b.lap r s').mpr (hm.2.1 s' rfl)
   have hO:(s::t)∈O:=pm.mem_iff.mpr mv;cases hf:TM b.lap z.1 O with
   |none=>exact absurd pv (yG.mp hf _ hO)
   |some a=>
    obtain⟨ma,qa,jF⟩:=AT ord hf;have ma':=pm.mem_iff.mp ma;have le:=JW (hP.good _ ma').1 (hP.good _ mv).1 (hP.good _ ma').2 (hP.good _ mv).2 (jF _ hO pv);refine⟨z.2::a,o6.mpr ⟨z,hz,by rw[hf];rfl⟩,?_,?_⟩
    .show G6 z.2=G6 r;rw[<-(h.good z hz).1,e]
    .refine EQ be (DQ (by rw[<-(h.good z hz).1,e]) (oY hp (h.good z hz).2) (oY hp hm.1)) ?_;rcases le with rfl|le
     .exact bv
     .rcases bv with q|q
      .grind
      .exact .inr (BI le q)
theorem zab(hc:1<=p.courses)(h:BJ b p (p.courses-1) p.first P)(ml:l∈P)(pl:P6 l&&&near b.lap (bitsOf VA)=0)(jF:∀m∈P,P6 m&&&near b.lap (bitsOf VA)=0->¬sooner m l=true):fillOf b p VA=some l:=by
 obtain⟨sl,ll⟩:=h.good l ml;have ap:∀m:List Row,m≠[]->(P6 m&&&near b.lap (bitsOf VA)=0↔∀s,m.head?=some s->FW b.lap (jointsOf s) VA):=λm hm=>by
  cases m with
  |nil=>grind
  |cons s t=>
   rw[CJ,<-L4];show(near b.lap (bitsOf VA)&&&bitsOf (jointsOf s)==0)=true↔_;rw[cD];grind
 have ne:∀m:List Row,m.length=p.courses-1+1->m≠[]:=λm hm e=>by rw[e]at hm;simp at hm
 refine Yz hc ⟨sl,by lia,(ap l (ne l ll)).mp pl⟩ λm ⟨sm,lm,am⟩=>?_;obtain⟨v,mv,hv,bv⟩:=h.all m sm (by lia);have pv:P6 v&&&near b.lap (bitsOf VA)=0:=by
  grind
 have le:=JW sl (h.good v mv).1 ll (h.good v mv).2 (jF v mv pv);rcases le with rfl|le
 .rcases bv with q|q
  all_goals grind
 .rcases bv with q|q
  .grind
  .exact .inr (BI le q)
theorem zac(hc:1<=p.courses)(h:BJ b p (p.courses-1) p.first P)(no:∀m∈P,P6 m&&&near b.lap (bitsOf VA)≠0):fillOf b p VA=none:=by
 cases hf:fillOf b p VA with
 |none=>rfl
 |some m=>
  obtain⟨⟨sm,lm,am⟩,_⟩:=rP hc hf;obtain⟨v,mv,hv,_⟩:=h.all m sm (by lia);refine absurd ?_ (no v mv);rw[hv];cases m with
  |nil=>simp at lm;lia
  |cons s t=>
   rw[CJ,<-L4];exact(cD b.lap VA (jointsOf s)).mpr (am s rfl)
structure OD(b:Bond):Prop where
 lap1:1<=b.lap
 lap3:b.lap<=3
 most:b.most<=2
 makes:b.makes.length<=5
 some:0<b.most->b.makes≠[]
 ne:b.courses≠[]
 one:∀c∈b.courses,c≠[]
 len:∀c∈b.courses,c.length<=8
theorem Hl{L:List Bytes}{w:String}{ok:UInt8->Bool}(h:lineAt L i w ok=.ok x):x≠[]:=by
 unfold lineAt at h;cases e:(L[i]?).bind (formed w ok)with
 |none=>grind
 |some y=>
  obtain⟨l,_,hl⟩:=uD.mp e;obtain⟨z,_,hz⟩:=uD.mp hl;grind
theorem mL{ok:Row->Bool}(h:lettersOf ok x=some r):r.length=x.length/\ok r=true:=by
 obtain⟨u,hu,h⟩:=uD.mp h;by_cases c:ok u=true
 .rw[K0 c]at h;obtain rfl:=J0 h;exact⟨Wc.readRow_len hu,c⟩
 grind
theorem mS(p:Piece):p.rank<5:=by cases p<;>decide
theorem KW:∀(p:Piece)(r:Row),inOrder (p::r)=true->r.length+p.rank<5
 |p,[],_=>by
  have:=mS p;simpa using this
 |p,q::r,h=>by
  have h:(decide (p.rank<q.rank)&&inOrder (q::r))=true:=h;rw[D1,P0]at h;have:=KW q r h.2;rw[M1]
  lia
theorem Ch(h:inOrder r=true):r.length<=5:=by
 cases r with
 |nil=>simp
 |cons p r=>
  have:=KW p r h;rw[M1]
  lia
theorem FQ(L:List Bytes):∀(f i:Nat)(l r:List Row),coursesAt L f i l=.ok r->(∀c∈l,c≠[])->∀c∈r,c≠[]
 |0,i,l,r,h,hl=>by
  obtain rfl:=b3 h;exact hl
 |f+1,i,l,r,h,hl=>by
  unfold coursesAt at h;by_cases c:L.length<=i
  .grind
  .rw[D0 c]at h;cases hx:lineAt L i "course" isBig with
   |error e=>grind
   |ok x=>
    rw[hx]at h;dsimp only at h;by_cases c2:PATTERN<x.length
    .grind
    .rw[D0 c2]at h;cases hy:lettersOf (λr=>r.all λp=>!p.isCut) x with
     |none=>grind
     |some s=>
      rw[hy]at h;dsimp only at h;by_cases c3:COURSES<=l.length
      .grind
      .rw[D0 c3]at h;refine FQ L f (i+1) (l++[s]) r h λz hz=>?_;rcases N2.mp hz with q|q
       .exact hl z q
       .rw[Q1.mp q];rintro rfl;have e:=(mL hy).1;exact Hl hx (X3.mp e.symm)
theorem Mp{t:Bytes}(h:judge t=.ok b):OD b:=by
 obtain⟨g1,g2,g3⟩:=Zz h;unfold judge at h;dsimp only at h;generalize (linesOf t).1++(if (linesOf t).2=[]then[]else[[]])=L at h;cases h0:lineAt L 0 "bond" isSmall with
 |error e=>grind
 |ok name=>
  rw[h0]at h;dsimp only at h;by_cases c0:NAME<name.length
  .grind
  rw[D0 c0]at h;cases h1:numberAt L 1 "lap" 1 3 with
  |error e=>grind
  |ok lap=>
   rw[h1]at h;cases h2:numberAt L 2 "most" 0 2 with
   |error e=>grind
   |ok most=>
    rw[h2]at h;dsimp only at h;generalize hk:(if most=0 then(.ok []:Except Fault Row)else match lineAt L 3 "makes" isBig with
     |.error e=>.error e
     |.ok x=>match lettersOf inOrder x with
      |none=>.error (3,3)
      |some r=>.ok r)=mk at h
    cases mk with
    |error e=>cases h
    |ok makes=>
     dsimp only at h;have mk:makes.length<=5/\(0<most->makes≠[]):=by
      by_cases c1:most=0
      .grind
      .rw[D0 c1]at hk;cases hx:lineAt L 3 "makes" isBig with
       |error e=>grind
       |ok x=>
        rw[hx]at hk;dsimp only at hk;cases hy:lettersOf inOrder x with
        |none=>grind
        |some r=>
         rw[hy]at hk;obtain rfl:=b3 hk;refine⟨Ch (mL hy).2,λ_=>?_⟩;rintro rfl;exact Hl hx (X3.mp (mL hy).1.symm)
     by_cases ci:L.length<=(if most=0 then 3 else 4)
     .grind
     .rw[D0 ci]at h;cases hl:coursesAt L (L.length+1) (if most=0 then 3 else 4) []with
      |error e=>grind
      |ok l=>
       rw[hl]at h;obtain rfl:=b3 h;exact⟨g1,(uP h1).2,(uP h2).2,mk.1,mk.2,g2,FQ L _ _ _ _ hl (λc hc=>nomatch hc),g3⟩
theorem Np(h:OD b)(k:Nat):b.course k∈b.courses:=by
 unfold Bond.course;have hp:=c5.mpr h.ne;have hl:=PM k hp;grind
def zcI(b:Bond)(r:Row):Prop:=r.length<=b.most/\∀p∈r,p∈b.makes
theorem Ya{k:Nat}:(∃left,zcI b left/\∃i<(b.course k).length,∃m right,zcI b right/\r=(left++repeated (b.course k) i m)++right/\lengthOf r=n)↔lengthOf r=n/\Yg b k r:=by
 constructor
 .rintro⟨left,h1,i,hi,m,right,h2,rfl,hl⟩;exact⟨hl,left,repeated (b.course k) i m,right,by rw[R7],h1.1,h2.1,h1.2,h2.2,i,hi,by rw[Al]⟩
 .rintro⟨hl,p,m,q,rfl,p1,q1,p2,q2,i,hi,m1⟩;exact⟨p,⟨p1,p2⟩,i,hi,m.length,q,⟨q1,q2⟩,by rw[<-m1,R7],hl⟩
structure Rr(w:Wall)(F:Filled):Prop where
 part:∀z∈F,z.1∈w.parts
 high:∀z∈F,z.2.length=z.1.high
 long:∀z∈F,∀r∈z.2,lengthOf r=z.1.long
theorem UM:∀{x:Nat}{r:Row}{z:Nat×Piece},z∈placed x r↔∃i,r[i]?=some z.2/\z.1=x+lengthOf (r.take i)
 |x,[],z=>by
  constructor
  .intro h;cases h
  .rintro⟨i,h,_⟩;simp at h
 |x,p::r,z=>by
  show z∈(x,p)::placed (x+p.length) r↔_;rw[S1,UM];constructor
  .rintro(rfl|⟨i,h1,h2⟩)
   .exact⟨0,rfl,rfl⟩
   .refine⟨i+1,by simpa using h1,?_⟩;rw[h2,CA,F3]
    lia
  .rintro⟨i,h1,h2⟩;cases i with
   |zero=>
    left;have e:p=z.2:=by simpa using h1
    have e2:z.1=x:=by rw[h2];rfl
    rw[e,<-e2]
   |succ i=>
    right;refine⟨i,by simpa using h1,?_⟩;rw[h2,CA,F3]
    lia
theorem VM:∀{x j:Nat}{r:Row},j∈jointsFrom x r↔∃i,1<=i/\i<r.length/\j=x+lengthOf (r.take i)
 |x,j,[]=>by
  constructor
  .intro h;cases h
  .rintro⟨i,h1,h2,_⟩;simp at h2
 |x,j,[p]=>by
  constructor
  .intro h;cases h
  .rintro⟨i,h1,h2,_⟩;simp at h2
   lia
 |x,j,p::q::r=>by
  show j∈(x+p.length)::jointsFrom (x+p.length) (q::r)↔_;rw[S1,VM];constructor
  .rintro(rfl|⟨i,h1,h2,h3⟩)
   .refine⟨1,j1 _,by simp,?_⟩;rfl
   .refine⟨i+1,by lia,by simpa using h2,?_⟩;rw[h3,CA,F3]
    lia
  .rintro⟨i,h1,h2,h3⟩;cases i with
   |zero=>lia
   |succ i=>
    by_cases c:i=0
    .left;subst c;rw[h3];rfl
    .right;refine⟨i,by lia,by simpa using h2,?_⟩;rw[h3,CA,F3]
     lia
theorem Ru(h1:1<=i)(h2:i<=r.length):1<=lengthOf (r.take i):=by
 grind [zG,Z1]
def zcJ(z:Part×List Row)(y:Nat):Prop:=z.1.y<=y/\y<z.1.y+z.1.high
theorem DT{q:Nat×Piece}:q∈piecesAt F y↔∃z∈F,zcJ z y/\q∈placed z.1.x (z.2.getD (y-z.1.y) []):=by
 unfold piecesAt;rw[u7];constructor
 .rintro⟨z,hz,h⟩;obtain⟨h1,h2⟩:=O4.mp hz;rw[D1,P0,P0]at h2;exact⟨z,h1,h2,h⟩
 .rintro⟨z,hz,h1,h⟩;exact⟨z,O4.mpr ⟨hz,by rw[D1,P0,P0];exact h1⟩,h⟩
theorem zcK(f:Rr w F){z:Part×List Row}(hz:z∈F) (h:zcJ z y):lengthOf (z.2.getD (y-z.1.y) [])=z.1.long:=by
 have hl:=f.high z hz;have hi:y-z.1.y<z.2.length:=by
  have:=h.1;have:=h.2
  lia
 rw[U2,O0 hi];exact f.long z hz _ (FE hi)
theorem Op{x:Nat}:x∈jointsIn F y↔∃z∈F,zcJ z y/\∃j∈jointsOf (z.2.getD (y-z.1.y) []),x=z.1.x+j:=by
 unfold jointsIn;rw[u7];constructor
 .rintro⟨z,hz,h⟩;by_cases c:z.1.y<=y/\y<z.1.y+z.1.high
  .rw[K0 c]at h;obtain⟨j,hj,e⟩:=S2.mp h;exact⟨z,hz,c,j,hj,e.symm⟩
  .rw[D0 c]at h;cases h
 .rintro⟨z,hz,c,j,hj,e⟩;refine⟨z,hz,?_⟩;rw[K0 (show z.1.y<=y/\y<z.1.y+z.1.high from c)];exact S2.mpr ⟨j,hj,e.symm⟩
theorem Za(f:Rr w F){x:Nat}:x∈jointsIn F y↔∃q∈piecesAt F y,q.1=x/\¬(x=0\/w.isOpen (x-1) y=true):=by
 rw[Op];constructor
 .rintro⟨z,hz,c,j,hj,e⟩;obtain⟨hy,h1,h2,h3,h4,h5⟩:=mY (f.part z hz) c.1 c.2;obtain⟨i,i1,i2,ej⟩:=VM.mp hj;have rl:=zcK f hz c;have jl:=wP 0 _ j hj;have jp:=Ru i1 (eJ i2);refine⟨(x,(z.2.getD (y-z.1.y) [])[i]),DT.mpr ⟨z,hz,c,UM.mpr ⟨i,O0 i2,?_⟩⟩,rfl,?_⟩
  .lia
  .rintro(q|q)
   .lia
   .have o:=h3 (j-1) (by lia);rw[show z.1.x+(j-1)=x-1 by lia,q]at o;cases o
 .rintro⟨q,hq,rfl,nb⟩;obtain⟨z,hz,c,h⟩:=DT.mp hq;obtain⟨hy,h1,h2,h3,h4,h5⟩:=mY (f.part z hz) c.1 c.2;obtain⟨i,e1,e2⟩:=UM.mp h;have i2:=(N0.mp e1).1;refine⟨z,hz,c,lengthOf ((z.2.getD (y-z.1.y) []).take i),VM.mpr ⟨i,?_,i2,by lia⟩,e2⟩;rcases Nat.eq_zero_or_pos i with rfl|ip
  .exfalso;have e3:q.1=z.1.x:=by rw[e2];rfl
   grind
  .exact ip
theorem LW(f:Rr w F){p:Part}(h0:p.y≠0) (j:Nat):j∈floorOf F p↔j<=p.long/\∃q∈piecesAt F (p.y-1),q.1=p.x+j/\¬(p.x+j=0\/w.isOpen (p.x+j-1) (p.y-1)=true):=by
 unfold floorOf;rw[D0 h0,O4,j6,wB,Za f];constructor
 .rintro⟨h1,h2⟩;exact⟨by lia,h2⟩
 .rintro⟨h1,h2⟩;exact⟨by lia,h2⟩
open Wc in
theorem Ab{α:Type}(g:Nat->α->Nat) (l:List α):∀n,SA (λy=>vF (g y) l) n=vF (λa=>SA (λy=>g y a) n) l
 |0=>(IW λa _=>rfl).symm
 |n+1=>by
  show SA (λy=>vF (g y) l) n+vF (g n) l=vF (λa=>SA (λy=>g y a) n+g n a) l;rw[Ab g l n,<-Xa]
open Wc in
theorem ET{g:Nat->Nat}:∀{n:Nat},(∀k<n,g k=0)->SA g n=0
 |0,_=>rfl
 |n+1,h=>by
  show SA g n+g n=0;rw[ET (λk hk=>h k (by lia)),h n (by lia)]
open Wc in
theorem GT{α:Type}(h:α->Nat) (d:α):∀l:List α,SA (λk=>h (l.getD k d)) l.length=vF h l
 |[]=>rfl
 |a::l=>by
  rw[M1,CQ];show h a+SA (λk=>h ((a::l).getD (k+1) d)) l.length=h a+vF h l;rw[<-GT h d l];rfl
def fV(p:Piece)(l:List Piece):Nat:=(l.filter λq=>q==p).length
theorem Il(p:Piece)(l m:List Piece):fV p (l++m)=fV p l+fV p m:=by
 unfold fV;rw[j7,Y1]
open Wc in
theorem pL{α:Type}(p:Piece) (f:α->List Piece):∀l:List α,fV p (l.flatMap f)=vF (λa=>fV p (f a)) l
 |[]=>rfl
 |a::l=>by
  rw[List.flatMap_cons,Il,pL p f l];rfl
theorem DJ:∀(x:Nat)(r:Row),(placed x r).map Prod.snd=r
 |_,[]=>rfl
 |x,p::r=>by
  show p::(placed (x+p.length) r).map Prod.snd=p::r;rw[DJ]
open Wc in
theorem Pp(f:Rr w F)(p:Piece):SA (λy=>fV p ((piecesAt F y).map Prod.snd)) w.high=fV p (allPieces F):=by
 have e:∀y,fV p ((piecesAt F y).map Prod.snd)=vF (λz:Part×List Row=>if z.1.y<=y/\y<z.1.y+z.1.high then fV p (z.2.getD (y-z.1.y) [])else 0) F:=λy=>by
  unfold piecesAt;rw[List.map_flatMap,pL];clear f
  induction F with
  |nil=>rfl
  |cons z F ih=>
   rw[i5];by_cases c:z.1.y<=y/\y<z.1.y+z.1.high
   .rw[K0 (by rw[D1,P0,P0];exact c)];show fV p ((placed z.1.x (z.2.getD (y-z.1.y) [])).map Prod.snd)+vF _ _=(if z.1.y<=y/\y<z.1.y+z.1.high then fV p (z.2.getD (y-z.1.y) [])else 0)+vF _ F;rw[K0 c,DJ,ih]
   .rw[D0 (by rw[D1,P0,P0];exact c)];show _=(if z.1.y<=y/\y<z.1.y+z.1.high then fV p (z.2.getD (y-z.1.y) [])else 0)+vF _ F;rw[D0 c,ih,bB]
 rw[qH λk _=>e k,Ab];unfold allPieces;rw[pL];refine xT λz hz=>?_;have Q9:=(wT (f.part z hz)).2;have hl:=f.high z hz;have eh:w.high=z.1.y+(z.1.high+(w.high-z.1.y-z.1.high)):=by lia
 rw[eh,sP,ET (λk hk=>by rw[D0 (by lia)]),bB,sP,Nat.add_comm,
  ET (λk hk=>by rw[D0 (by lia)]),bB]
 rw[show SA (λk=>if z.1.y<=z.1.y+k/\z.1.y+k<z.1.y+z.1.high then fV p (z.2.getD (z.1.y+k-z.1.y) [])else 0) z.1.high=SA (λk=>fV p (z.2.getD k [])) z.1.high from qH λk hk=>by
  rw[K0 (by lia),show z.1.y+k-z.1.y=k by lia]]
 rw[<-hl,GT (fV p) []];show _=fV p z.2.flatten;rw[show z.2.flatten=z.2.flatMap id by simp,pL];rfl
end Wg
namespace L2
open PySem PySem.Spec PyProof.Rows
theorem IT{K:Frag}{H:Hp}:∀ns:List Int,vQ K H (ns.map V.int) (ns.map PyData.int)
 |[]=>.nil
 |n::r=>.cons (.int n) (IT r)
theorem MW:∀ns ms:List Int,PyData.eqvAll (ns.map PyData.int) (ms.map PyData.int)=decide (ns=ms)
 |[],[]=>rfl
 |[],_::_=>rfl
 |_::_,[]=>rfl
 |n::r,m::q=>by
  have ih:=MW r q;show(PyData.eqv (.int n) (.int m)&&PyData.eqvAll (r.map PyData.int) (q.map PyData.int))=_;rw[ih,Z2];simp[PyData.eqv]
theorem NW:∀ns:List Int,PyData.canLayAll0 (ns.map PyData.int)=true
 |[]=>by simp[PyData.canLayAll0]
 |n::r=>by simp[PyData.canLayAll0,PyData.canLay0,NW r]
theorem OW:∀ns:List Int,PyData.depthAll (ns.map PyData.int)<=1
 |[]=>by simp[PyData.depthAll]
 |n::r=>by
  have ih:=OW r;simp[PyData.depthAll,PyData.depth]
  lia
abbrev LB(H:Hp):List Addr->List (List Int)->Prop:=Paired λa ms=>H a=some (.tup (ms.map V.int))
inductive zcL(K:Frag)(neg:Bool)(x:V)(y:V)(H:Hp)(Q:VK):Prop
 |mk (s p:Addr) (ns:List Int) (as:List Addr) (As:List (List Int)):x=.ref s->y=.ref p->H s=some (.tup (ns.map V.int))->SqL K H p (as.map V.ref)->LB H as As->Q (.bl (if neg then !As.contains ns else As.contains ns)) H->zcL K neg x y H Q
def eqT(H:Hp)(ns:List Int)(u:Value):Bool:=match u with
 |.ref a=>(match H a with
  |some (.tup ys)=>decide (ys=ns.map V.int)
  |_=>false)
 |_=>false
theorem GQ{ns ms:List Int}:ms.map V.int=ns.map V.int↔ms=ns:=eD λ_ _ e=>V.int.inj e
theorem pY{H:Hp}{ns:List Int}:∀{as:List Addr}{As:List (List Int)}{us:List Value},LB H as As->k4 (as.map V.ref) us->us.any (eqT H ns)=As.contains ns
 |_,_,_,.nil,r=>by
  cases r;rfl
 |_,_,_,.cons (a:=a) (b:=ms) h t,r=>by
  cases r with
  |cons r1 r2=>
   cases r1;rw[P8,pY t r2,aD];congr 1;show(match H a with
    |some (.tup ys)=>decide (ys=ns.map V.int)
    |_=>false)=_
   rw[h];show decide (ms.map V.int=ns.map V.int)=(ns==ms);rw[Z2,P0,L4,GQ];exact eq_comm
section
variable {X:Cx}
theorem zcM{pins:List (Addr×Obj)}{σ:St}{H:Hp}{s:Shared}{a b:Addr}{ms ns:List Int}{A:Around}(I:V2 X pins σ H s) (ha:H a=some (.tup (ms.map V.int))) (hb:H b=some (.tup (ns.map V.int))) (hu:A.units+2<cLine):SeqAt.EqAt A s (.ref a) (.ref b) (decide (ms=ns)):=by
 obtain⟨as,r1⟩:=Dp.reads I (.tuple (ms.map PyData.int)) (.ref a) (.ref a) (.tup (.inl (.inl ha)) (IT ms)) rfl;obtain⟨bs,r2⟩:=Dp.reads I (.tuple (ns.map PyData.int)) (.ref b) (.ref b) (.tup (.inl (.inl hb)) (IT ns)) rfl;have l:∀l:List Int,PyData.canLay0 (.tuple (l.map PyData.int))=true:=λl=>by
  have:=NW l;simpa[PyData.canLay0]using this
 have d:PyData.depth (.tuple (ms.map PyData.int))<=2:=by
  have:=OW ms;simp[PyData.depth]
  lia
 have e:=SeqAt.eqAt_reads _ _ A s _ _ as bs r1 r2 (l ms) (l ns) (F9 (Nat.add_le_add_left (d4 (Nat.min_le_left _ _) d) _) hu);rw[show PyData.eqv (.tuple (ms.map PyData.int)) (.tuple (ns.map PyData.int))=decide (ms=ns)from MW ms ns]at e;exact e
theorem Su{pins:List (Addr×Obj)}{σ:St}{H:Hp}{s:Shared}{b:Addr}{ns:List Int}{A:Around}(I:V2 X pins σ H s) (hb:H b=some (.tup (ns.map V.int))) (hu:A.units+2<cLine) :
  ∀{as:List Addr}{As:List (List Int)}{us:List Value},LB H as As->k4 (as.map V.ref) us->∀u∈us,SeqAt.EqAt A s u (.ref b) (eqT H ns u)
 |_,_,_,.nil,r=>λu hu=>by
  cases r;cases hu
 |_,_,_,.cons (a:=a) (b:=ms) h t,r=>λu hu'=>by
  cases r with
  |cons r1 r2=>
   cases r1;rcases S1.mp hu' with rfl|m
   .have e:eqT H ns (.ref a)=decide (ms=ns):=by
     show(match H a with
      |some (.tup ys)=>decide (ys=ns.map V.int)
      |_=>false)=_
     rw[h];exact P3.mpr GQ
    rw[e];exact zcM I h hb hu
   .exact Su I hb hu t r2 u m
theorem Bb{A:Around}(hu:A.units+64<cLine):A.in1.units+2<cLine:=by
 have:A.in1.units<=A.units+1:=by first|exact j1 _|(simp[Around.in1,Around.units])
 lia
theorem Dh(hu:X.A.units+64<cLine):kJ X (compareOp .In) (zcL X.K false):=by
 intro pins s σ H x y v u Q I rx ry h;obtain⟨a,p,ns,as,As,rfl,rfl,hs,hq,ht,q⟩:=h;cases rx;cases ry;obtain⟨its,r,pl,hz⟩:=I.list hq;refine SeqAt.in_listAt (eqT H ns) pl.isList (λw hw=>Su I hs (Bb hu) ht r w (by simpa using hw)) ⟨.bl _,H,I,rfl,?_⟩;rw[show its.toArray.any (eqT H ns)=its.any (eqT H ns) by simp,pY ht r];exact q
theorem uV(hu:X.A.units+64<cLine):kJ X (compareOp .NotIn) (zcL X.K true):=by
 intro pins s σ H x y v u Q I rx ry h;obtain⟨a,p,ns,as,As,rfl,rfl,hs,hq,ht,q⟩:=h;cases rx;cases ry;obtain⟨its,r,pl,hz⟩:=I.list hq;refine SeqAt.notIn_listAt (eqT H ns) pl.isList (λw hw=>Su I hs (Bb hu) ht r w (by simpa using hw)) ⟨.bl _,H,I,rfl,?_⟩;rw[show its.toArray.any (eqT H ns)=its.any (eqT H ns) by simp,pY ht r];exact q
end
end L2
namespace HT
open PySem PyProof.Rows
section
open PySem.SeqAt
open PySem.AutoSeq1 (wpAny_loadPart')
open PySem.MeetsSeq PySem.MeetsSeq2 PySem.MeetsSeq3
end
end HT
namespace L2
open PySem PySem.Spec PyProof.Rows
open PySem.AutoSeq1 (wpAny_loadPart')
inductive zeX(K:Frag)(x:V)(y:V)(H:Hp)(Q:VK):Prop
 |mk (p q xs:_):x=.ref p->y=.ref q->SqL K H p xs->SqL K H q []->Q (.bl xs.isEmpty) H->zeX K x y H Q
theorem Tu{X:Cx}(hu:X.A.units<cLine):kJ X (compareOp .Eq) (zeX X.K):=by
 intro pins s σ H x y v u Q I rx ry h;obtain⟨p,q,xs,rfl,rfl,hp,hq,k⟩:=h;cases rx;cases ry;obtain⟨its,r1,p1,_⟩:=I.list hp;obtain⟨IK,r2,p2,_⟩:=I.list hq;cases r2;have l1:=r1.length;have fin:∀b:Bool,b=xs.isEmpty->EP X pins σ Q (.bool b) s:=λb e=>⟨.bl b,H,I,rfl,by rw[e];exact k⟩
 cases xs with
 |nil=>
  cases r1;exact(SeqAt.RcAt.lists (e:=λ_=>true) p1.isList p2.isList rfl hu (λj h1 _=>absurd h1 (by simp)) X.prog X.w X.xe _ (fin _ rfl):wpAny (model X.prog X.w) X.A (compareOp .Eq (.ref p) (.ref q)) _ X.xe s)
 |cons x xs=>
  exact(SeqAt.RcAt.lists_lengths p1.isList p2.isList (by simp[<-l1]) hu X.prog X.w X.xe _ (fin _ rfl):wpAny (model X.prog X.w) X.A (compareOp .Eq (.ref p) (.ref q)) _ X.xe s)
section
variable {X:Cx}
end
end L2
namespace HT
open PySem PyProof.Rows
variable {t:Addr}{A:Around}{prog:Program}{s:Shared}{E Q:Value->Shared->Prop}{w:World}
theorem getItem_tuple_whole{sl:Addr}{items:Array Value}{vl vu:Value}{lo hi:Option Int}(ht:IsTup s.heap t items) (hs:s.heap.IsSliceOf sl vl vu .none) (pl:IsPart vl lo) (pu:IsPart vu hi)
 (hw:sIx items.size 0 lo=0/\sIx items.size items.size hi=items.size)
 (h:Q (.ref t) s):wpAny (model prog w) A (getItem (.ref t) (.ref sl)) Q E s:=by
  obtain⟨os,hos,hcs,gZ⟩:=id hs;have hTs:s.TypeIs (.ref sl) "slice":= ⟨os,hos,hcs⟩;unfold getItem
  try with_reducible refine T5 ?_
  first|refine z0 (S0 ?_)|skip
  refine z0 (wpAny_sequenceKey ht.typeIs (by decide) ?_);refine z0 (o7 (name:=Str.ofString "__getitem__") ht.typeIs b5
   (w9 b5 ht.typeIs entry_tuple_getitem ?_ (args_tuple_getitem _ _)))
  show wpAny _ _ (Builtin.Tuple.tupleItemsOf (.ref t)>>=_) _ _ s;refine z0 (tupleItemsOf_ ht ?_);refine z0 (yN hTs ?_);rw[K0 (by decide)];refine z0 (kI hs pl pu ?_);have zid:((((sIx items.size 0 lo:Nat):Int)==0&&(1:Int)==1&&(sIx items.size items.size hi-sIx items.size 0 lo)==items.size)=true):=by
   rw[hw.1,hw.2];simp
  show wpAny _ _ (if (((sIx items.size 0 lo:Nat):Int)==0&&(1:Int)==1&&(sIx items.size items.size hi-sIx items.size 0 lo)==items.size)=true then _ else _) _ _ s;rw[K0 zid];refine z0 (z0 (yN ht.typeIs (S0 ?_)));rw[K0 (by decide)];refine z0 (MM ?_)
  first
   |exact S0 ⟨_,rfl,S0 h⟩
   |exact z0 (S0 ⟨_,rfl,S0 h⟩)
theorem cat_tupA{b:Addr}{vs ws:List Value}(ht:IsTup s.heap t vs.toArray) (hb:IsTup s.heap b ws.toArray)
 (h0:vs=[]->Q (.ref b) s) (h1:vs≠[]->ws=[]->Q (.ref t) s)
 (h2:vs≠[]->ws≠[]->Q (.ref s.heap.objs.size) {s with heap:=s.heap.push {cls:=.type "tuple",data:=.seq (vs++ws).toArray}})
 (hsz:vs.length+ws.length<=sizeLine):wpAny (model prog w) A (binaryOp .Add (.ref t) (.ref b)) Q E s:=by
  by_cases hv:vs=[]
  .obtain⟨⟨cls,dd,data,sl⟩,ho,hc,n,hd⟩:=id ht;obtain⟨⟨zaN,Jf,data2,Kf⟩,EX,qZ,n2,bW⟩:=id hb;simp only at hc hd qZ bW;subst hc hd qZ bW;exact xN ⟨_,ho,rfl⟩ ⟨_,EX,rfl⟩ jI sM ED rD (FC _ _)
    (tuple_addW0 t b vs.toArray ws.toArray n n2 dd Jf sl Kf (by simp[hv])) ⟨ho,EX,h0 hv⟩
  .exact Zy ht hb hv (h1 hv) (h2 hv) hsz
end HT
namespace L2
open PySem PySem.Spec PyProof.Rows
section
variable {X:Cx}
theorem Db{H:Hp}{p:Addr}{o:HO}(n:H p=none):Same H (upd H p o):=λb ob e=>by
 rw[M0 (λz=>by rw[z,n]at e;cases e)];exact e
inductive zbj(K:Frag)(x:V)(lo:Option Int)(hi:Option Int)(H:Hp)(Q:VK):Prop
 |mk (a xs:_):x=.ref a->S9 K H a xs->(∀(H':Hp)(p:Addr),Same H H'->S9 K H' p (kM xs lo hi)->Q (.ref p) H')->zbj K x lo hi H Q
theorem zae:SlR X (zbj X.K):=by
 intro pins s σ H x v vl vu lo hi sl Q I rx hs pl pu h;obtain⟨a,xs,rfl,hx,q⟩:=h;by_cases hw:HT.sIx xs.length 0 lo=0/\HT.sIx xs.length xs.length hi=xs.length
 .cases rx;obtain⟨its,r,ht,hz⟩:=I.tuple hx;have CC:its.toArray.size=xs.length:=by rw[J1];exact r.length.symm
  refine⟨"tuple",_,b5.lookup,ht.typeIs,?_⟩;refine HT.getItem_tuple_whole ht hs pl pu (by rw[CC];exact hw) ?_;have e:kM xs lo hi=xs:=by
   unfold kM;rw[hw.1,hw.2];simp
  exact⟨.ref a,H,I,rfl,q H a (Same.refl _) (by rw[e];exact hx)⟩
 .exact zcj pins s σ H (.ref a) v vl vu lo hi sl Q I rx hs pl pu ⟨a,xs,rfl,hx,hw,λp np=>q _ p (Db np) (.inl (.inl C0))⟩
inductive Eh(K:Frag)(x:V)(y:V)(H:Hp)(Q:VK):Prop
 |mk (a b xs ys:_):x=.ref a->y=.ref b->S9 K H a xs->S9 K H b ys->xs.length+ys.length<=sizeLine->(∀(H':Hp)(p:Addr),Same H H'->S9 K H' p (xs++ys)->Q (.ref p) H')->Eh K x y H Q
theorem Eb:kJ X (binaryOp .Add) (Eh X.K):=by
 intro pins s σ H x y v u Q I rx ry h;obtain⟨a,b,xs,ys,rfl,rfl,ha,hb,hz,q⟩:=h;cases rx;cases ry;obtain⟨its,r1,p1,_⟩:=I.tuple ha;obtain⟨IK,r2,p2,_⟩:=I.tuple hb;refine HT.cat_tupA p1 p2 (λz=>⟨.ref b,H,I,rfl,q H b (Same.refl _) ?_⟩) (λ_ z=>⟨.ref a,H,I,rfl,q H a (Same.refl _) ?_⟩) (λ_ _=>?_) (by rw[<-r1.length,<-r2.length];exact hz)
 .rw[r1.nil_iff.mp z];exact hb
 .rw[r2.nil_iff.mp z,d3];exact ha
 .have np:H s.heap.objs.size=none:=I.hok.fresh (j1 _);refine⟨.ref s.heap.objs.size,_,I.laid (t':=s.toks) (o:=.tup (xs++ys)) (λb ob q=>U0 _ q) (j1 _) ?_,rfl,q _ _ (Db np) (.inl (.inl C0))⟩;exact⟨by rw[Y1];exact hz,_,r1.append r2,IsTup.new _ _⟩
theorem QW{K:Frag}(hK:X.K=K):kJ X (binaryOp .Add) (Eh K):=by
 subst hK;exact Eb
end
theorem JT(n m:Nat):Builtin.bitAnd (n:Int) (m:Int)=((n&&&m:Nat):Int):=by
 unfold Builtin.bitAnd;rw[F1 (show(0:Int)<=(n:Int) by lia),F1 (show(0:Int)<=(m:Int) by lia)];simp
theorem DI(n m:Nat):Builtin.bitOr (n:Int) (m:Int)=((n|||m:Nat):Int):=by
 unfold Builtin.bitOr Builtin.bitAnd;have e:∀k:Nat,Builtin.bitNot (Builtin.bitNot (k:Int))=(k:Int):=λk=>by unfold Builtin.bitNot;lia
 have l:∀k:Nat,decide (0<=Builtin.bitNot (k:Int))=false:=λk=>Y0 (by unfold Builtin.bitNot;lia);rw[l n,l m];dsimp only;rw[e,e,e];simp
theorem cO(n d:Nat):(n:Int)*2^((d:Int)).toNat=((n <<< d:Nat):Int):=by
 rw[P4,EI]
 push_cast
 rfl
theorem Jl(n d:Nat):(n:Int)/2^((d:Int)).toNat=((n >>> d:Nat):Int):=by
 rw[P4,rC]
 push_cast
 rfl
end L2
namespace Srt
open PySem PyProof.Rows
variable {a a' b b' FB i6:Array Keyed}{Γ:Ctx}{x x' iV zaU:Keyed}{f:Keyed->Keyed}{less:Keyed->Keyed->Bool}{G:Keyed->Prop}{M:Model}{c:Prop}{s s':Shared}{t:String}{α β γ:Type}
structure Sr(M:Model)(Γ:Ctx)(s s':Shared)(kd wA:SortKind)(G:Keyed->Prop)(f:Keyed->Keyed)(less:Keyed->Keyed->Bool):Prop where
 real:∀x y,G x->G y->∀(Q:Bool->Shared->Prop)(E:Value->Pos->Shared->Prop)(p:Pos),Q (less x y) s->Sem.wp M Γ (keyLt' kd x.1 y.1) (λa _ s1=>Q a s1) E p s
 fake:∀x y,G x->G y->∀(Q:Bool->Pos->Shared->Prop)(E:Value->Pos->Shared->Prop)(p:Pos),Sem.wp M Γ (keyLt' wA (f x).1 (f y).1) Q E p s'->∃p1,Q (less x y) p1 s'
section
variable {kd wA:SortKind}
def AR(G:Keyed->Prop)(f:Keyed->Keyed)(a a':Array Keyed):Prop:=(∀x∈a,G x)/\a'=a.map f
def KR(G:Keyed->Prop)(f:Keyed->Keyed)(x x':Keyed):Prop:=G x/\x'=f x
structure SR(kd wA:SortKind)(G:Keyed->Prop)(f:Keyed->Keyed)(st jA:SortSt):Prop where
 k:kindOf st=kd
 k':kindOf jA=wA
 arr:AR G f (arrOf st) (arrOf jA)
 pend:pendingOf jA=pendingOf st
 gal:gallopOf jA=gallopOf st
 fl:failedOf st=none
 fl':failedOf jA=none
def QD(M:Model)(Γ:Ctx)(s s':Shared)(kd wA:SortKind)(G:Keyed->Prop)(f:Keyed->Keyed){α:Type}(R:α->α->Prop) (m m':StateT SortSt Sem α):Prop:=
 ∀st jA,SR kd wA G f st jA->∀(Q':α×SortSt->Pos->Shared->Prop)(E':Value->Pos->Shared->Prop)(p':Pos),Sem.wp M Γ (m'.run jA) Q' E' p' s'->
  ∀(E:Value->Pos->Shared->Prop)(p:Pos),Sem.wp M Γ (m.run st) (λr _ s1=>s1=s/\∃r' p1,R r.1 r'.1/\SR kd wA G f r.2 r'.2/\Q' r' p1 s') E p s
theorem b4{R:α->α->Prop}{a a':α}(h:R a a'):QD M Γ s s' kd wA G f R (pure a) (pure a'):=by
 intro st jA hs Q' E' p' w E p;exact⟨rfl,(a',jA),p',h,hs,w⟩
theorem Y2{R:α->α->Prop}{R2:β->β->Prop}{m m':StateT SortSt Sem α}{g g':α->StateT SortSt Sem β}(h1:QD M Γ s s' kd wA G f R m m') (h2:∀a a',R a a'->QD M Γ s s' kd wA G f R2 (g a) (g' a')) :
  QD M Γ s s' kd wA G f R2 (m>>=g) (m'>>=g'):=by
 intro st jA hs Q' E' p' w E p;rw[wF,M6]at w ⊢;refine qL M Γ _ ?_ (λe p1 s1 q=>q) p s (h1 st jA hs _ _ _ w E p);rintro⟨a,Bf⟩ p1 s1 ⟨rfl,⟨a',Hr⟩,p2,ra,rs,w2⟩;exact h2 a a' ra Bf Hr rs _ _ _ w2 E p1
theorem rH:QD M Γ s s' kd wA G f (SR kd wA G f) (get:StateT SortSt Sem SortSt) get:=by
 intro st jA hs Q' E' p' w E p;exact⟨rfl,(jA,jA),p',hs,hs,w⟩
theorem GE{g g':SortSt->SortSt}(h:∀st jA,SR kd wA G f st jA->SR kd wA G f (g st) (g' jA)):QD M Γ s s' kd wA G f (λ_ _=>True) (modify g:StateT SortSt Sem PUnit) (modify g'):=by
 intro st jA hs Q' E' p' w E p;exact⟨rfl,(⟨⟩,g' jA),p',trivial,h _ _ hs,w⟩
theorem zaf{a a':SortSt}(h:SR kd wA G f a a'):QD M Γ s s' kd wA G f (λ_ _=>True) (set a:StateT SortSt Sem PUnit) (set a'):=by
 intro st jA hs Q' E' p' w E p;exact⟨rfl,(⟨⟩,a'),p',trivial,h,w⟩
theorem FI:QD M Γ s s' kd wA G f (λ_ _=>True) (liftM (rule t):StateT SortSt Sem Unit) (liftM (rule t)):=by
 intro st jA hs Q' E' p' w E p;exact⟨rfl,((),jA),p',trivial,hs,w⟩
theorem zP{R:α->α->Prop}{m:StateT SortSt Sem α}:QD M Γ s s' kd wA G f R m (liftM (unsupported t:Sem α)):=by
 intro st jA hs Q' E' p' w E p;exact False.elim w
theorem RD{R:α->α->Prop}{c':Prop}[Decidable c] [Decidable c'] {m n m' n':StateT SortSt Sem α}(hc:c↔c') (h1:c->QD M Γ s s' kd wA G f R m m') (h2:¬c->QD M Γ s s' kd wA G f R n n') :
  QD M Γ s s' kd wA G f R (if c then m else n) (if c' then m' else n'):=by
 all_goals grind
theorem AR.size(h:AR G f a a'):a'.size=a.size:=by rw[h.2,AG]
theorem AR.at(h:AR G f a a')(i:Nat):a'[i]?=(a[i]?).map f:=by rw[h.2,Array.getElem?_map]
theorem SD(h:AR G f a a')(i:Nat):QD M Γ s s' kd wA G f (KR G f) (elem' a i) (elem' a' i):=by
 rw[elem'_eq,elem'_eq,h.at i];cases e:a[i]? with
 |none=>
  intro st jA hs Q' E' p' w E p;exact False.elim w
 |some x=>exact b4 ⟨h.1 x (Array.mem_of_getElem? e),rfl⟩
theorem NT(T:Sr M Γ s s' kd wA G f less){y y':Keyed}(hx:KR G f x x') (hy:KR G f y y'):QD M Γ s s' kd wA G f Eq (lt' x y) (lt' x' y'):=by
 obtain⟨gx,rfl⟩:=hx;obtain⟨gy,rfl⟩:=hy;rw[lt'_eq,lt'_eq];intro st jA hs Q' E' p' w E p;rw[wF,StateT.run_get]at w ⊢;rw[M6,eO]at w ⊢;rw[wF,hs.k']at w;rw[wF,hs.k];rw[M6]at w ⊢;have w1:Sem.wp M Γ ((StateT.lift (keyLt' wA (f x).1 (f y).1).attempt:StateT SortSt Sem _).run jA) _ E' p' s':=w;show Sem.wp M Γ ((StateT.lift (keyLt' kd x.1 y.1).attempt:StateT SortSt Sem _).run st) _ E p s;rw[StateT.run_lift]at w1 ⊢;unfold Sem.attempt at w1 ⊢;rw[M6,Sem.wp_tryCatch]at w1 ⊢;have w2:Sem.wp M Γ ((keyLt' wA (f x).1 (f y).1)>>=λa=>pure (Except.ok a)) _ _ p' s':=w1;rw[M6]at w2;obtain⟨p1,w3⟩:=T.fake x y gx gy _ _ _ w2;show Sem.wp M Γ ((keyLt' kd x.1 y.1)>>=λa=>pure (Except.ok a)) _ _ p s;rw[M6];refine qL M Γ _ ?_ (λe p1 s1 q=>q) p s (T.real x y gx gy (λa s1=>a=less x y/\s1=s) _ p ⟨rfl,rfl⟩);rintro a p2 s1 ⟨rfl,rfl⟩;exact⟨rfl,(some (less x y),jA),p1,rfl,hs,w3⟩
theorem OT(T:Sr M Γ s s' kd wA G f less)(i j:Nat):QD M Γ s s' kd wA G f Eq (ltAt' i j) (ltAt' i j):=by
 refine Y2 rH λst jA hs=>?_;refine Y2 (SD hs.arr i) λx x' hx=>?_;exact Y2 (SD hs.arr j) λy y' hy=>NT T hx hy
theorem AR.push(h:AR G f a a')(hx:KR G f x x'):AR G f (a.push x) (a'.push x'):=by
 obtain⟨h1,rfl⟩:=h;obtain⟨gx,rfl⟩:=hx;refine⟨λz hz=>?_,by rw[Array.map_push]⟩
 all_goals grind
theorem AR.append(h:AR G f a a')(hb:AR G f b b'):AR G f (a++b) (a'++b'):=by
 obtain⟨h1,rfl⟩:=h;obtain⟨h2,rfl⟩:=hb;refine⟨λz hz=>?_,by rw[Array.map_append]⟩
 all_goals grind
theorem AR.extract(h:AR G f a a')(i j:Nat):AR G f (a.extract i j) (a'.extract i j):=by
 obtain⟨h1,rfl⟩:=h;refine⟨λz hz=>h1 z ?_,by rw[Array.map_extract]⟩;obtain⟨k,hk,rfl⟩:=Array.mem_iff_getElem.mp hz;grind
theorem AR.reverse(h:AR G f a a'):AR G f a.reverse a'.reverse:=by
 obtain⟨h1,rfl⟩:=h;exact⟨λz hz=>h1 z (Array.mem_reverse.mp hz),by rw[Array.map_reverse]⟩
theorem AR.swap(h:AR G f a a')(i j:Nat):AR G f (a.swapIfInBounds i j) (a'.swapIfInBounds i j):=by
 obtain⟨h1,rfl⟩:=h;refine⟨λz hz=>?_,?_⟩
 .unfold Array.swapIfInBounds at hz;split at hz
  .split at hz
   .exact h1 z ((Array.swap_perm _ _).mem_iff.mp hz)
   .exact h1 z hz
  .exact h1 z hz
 .apply Array.ext
  .simp
  .intro k hk hk2;unfold Array.swapIfInBounds;by_cases c1:i<a.size
   .by_cases c2:j<a.size
    .simp[c1,c2,Array.getElem_swap];split
     .rfl
     .split<;>rfl
    .simp[c1,c2]
   .simp[c1]
theorem AR.foldl{g g':Array Keyed->γ->Array Keyed}(hg:∀a a' c,AR G f a a'->AR G f (g a c) (g' a' c)):∀(l:List γ){a a':Array Keyed},AR G f a a'->AR G f (l.foldl g a) (l.foldl g' a')
 |[],_,_,h=>h
 |c::l,_,_,h=>AR.foldl hg l (hg _ _ c h)
theorem SR.setArr{st jA:SortSt}{a a':Array Keyed}(h:SR kd wA G f st jA) (ha:AR G f a a'):SR kd wA G f (setArr st a) (setArr jA a'):=⟨h.k,h.k',ha,h.pend,h.gal,h.fl,h.fl'⟩
theorem Fb(i j:Nat):QD M Γ s s' kd wA G f (λ_ _=>True) (reverseSlice' i j) (reverseSlice' i j):=by
 refine GE λst jA hs=>hs.setArr ?_;exact AR.foldl (g:=λa k=>a.swapIfInBounds (i+k) (j-1-k)) (λa a' c h=>h.swap _ _) _ hs.arr
theorem Uu(i j:Nat):QD M Γ s s' kd wA G f (λ_ _=>True) (moveDown' i j) (moveDown' i j):=by
 refine GE λst jA hs=>hs.setArr ?_;exact AR.foldl (g:=λa k=>a.swapIfInBounds (i-k) (i-k-1)) (λa a' c h=>h.swap _ _) _ hs.arr
def Ef{β:Type}(R:β->β->Prop):ForInStep β->ForInStep β->Prop
 |.done a,.done a'=>R a a'
 |.yield a,.yield a'=>R a a'
 |_,_=>False
theorem Gb{β:Type}{R:β->β->Prop}{g g':Nat->β->StateT SortSt Sem (ForInStep β)}(h:∀i c c',R c c'->QD M Γ s s' kd wA G f (Ef R) (g i c) (g' i c')) :
  ∀(l:List Nat){c c':β},R c c'->QD M Γ s s' kd wA G f R (forIn l c g) (forIn l c' g')
 |[],c,c',hc=>by
  exact b4 hc
 |x::l,c,c',hc=>by
  rw[fB,fB];refine Y2 (h x c c' hc) λr r' hr=>?_;cases r with
  |done b=>
   cases r' with
   |done b'=>exact b4 hr
   |yield b'=>exact hr.elim
  |yield b=>
   cases r' with
   |done b'=>exact hr.elim
   |yield b'=>exact Gb h l hr
theorem HE{R:β->β->Prop}{g g':Nat->β->StateT SortSt Sem (ForInStep β)}{a b:Nat}{c c':β}(hc:R c c') (h:∀i c c',R c c'->QD M Γ s s' kd wA G f (Ef R) (g i c) (g' i c')) :
  QD M Γ s s' kd wA G f R (forIn [a:b] c g) (forIn [a:b] c' g'):=by
 rw[MB,MB];exact Gb h _ hc
end
section
variable {kd wA:SortKind}
theorem TD{R:β->β->Prop}{a a':β}(h:R a a'):Ef R (.done a) (.done a'):=h
theorem IE{R:β->β->Prop}{a a':β}(h:R a a'):Ef R (.yield a) (.yield a'):=h
theorem Qp(T:Sr M Γ s s' kd wA G f less)(lo n:Nat):QD M Γ s s' kd wA G f Eq (countRun' lo n) (countRun' lo n):=by
 rw[countRun'_eq];refine Y2 (R:=Eq) (HE (R:=Eq) rfl λi c c' hc=>?_) λc c' hc=>?_
 .subst hc
  repeat' first
   |exact b4 (TD rfl)
   |exact b4 (IE rfl)
   |dsimp only
   |(refine Y2 (OT T _ _) λr r' hr=>?_;subst hr)
   |(refine RD jC (λ_=>?_) (λ_=>?_))
   |split
 .subst hc
  repeat' first
   |exact b4 rfl
   |exact b4 (TD rfl)
   |exact b4 (IE rfl)
   |dsimp only
   |(refine Y2 (OT T _ _) λr r' hr=>?_;subst hr)
   |(refine Y2 (Fb _ _) λr r' hr=>?_)
   |(refine Y2 FI λr r' hr=>?_)
   |(refine Y2 (R:=Eq) (HE (R:=Eq) rfl λi c c' hc=>?_) λc c' hc=>?_<;>subst hc)
   |(refine RD jC (λ_=>?_) (λ_=>?_))
   |(refine Y2 (R:=Eq) (RD jC (λ_=>?_) (λ_=>?_)) λc c' hc=>?_)
   |split
theorem Fh(T:Sr M Γ s s' kd wA G f less)(lo n ok:Nat):QD M Γ s s' kd wA G f Eq (binarySort' lo n ok) (binarySort' lo n ok):=by
 repeat' first
   |exact b4 rfl
   |exact b4 (TD rfl)
   |exact b4 (IE rfl)
   |dsimp only
   |(refine Y2 (OT T _ _) λr r' hr=>?_;subst hr)
   |(refine Y2 (Uu _ _) λr r' hr=>?_)
   |(refine Y2 (R:=Eq) (HE (R:=Eq) rfl λi c c' hc=>?_) λc c' hc=>?_<;>subst hc)
   |(refine RD jC (λ_=>?_) (λ_=>?_))
   |split
end
section
variable {kd wA:SortKind}
theorem BP{R:α->α->Prop}[Decidable c] {m n m' n':StateT SortSt Sem α}(h1:QD M Γ s s' kd wA G f R m m') (h2:QD M Γ s s' kd wA G f R n n'):QD M Γ s s' kd wA G f R (if c then m else n) (if c then m' else n'):=RD jC (λ_=>h1) λ_=>h2
theorem qY{R:β->β->Prop}{m m':StateT SortSt Sem (Option α)}{g g':Option α->StateT SortSt Sem β}(h:QD M Γ s s' kd wA G f Eq m m') (h0:QD M Γ s s' kd wA G f R (g none) (g' none)) (h1:∀a,QD M Γ s s' kd wA G f R (g (some a)) (g' (some a))):QD M Γ s s' kd wA G f R (m>>=g) (m'>>=g'):=Y2 h λa a' e=>by
 subst e;cases a
 .exact h0
 .exact h1 _
theorem Gh(T:Sr M Γ s s' kd wA G f less)(left:Bool)(hk:KR G f iV zaU)(ha:AR G f a a')(b i:Nat):QD M Γ s s' kd wA G f Eq (beyond' left iV a b i) (beyond' left zaU a' b i):=by
 unfold beyond';refine Y2 (SD ha _) λx x' hx=>?_;refine RD jC (λ_=>NT T hx hk) λ_=>?_;refine Y2 (NT T hk hx) λr r' hr=>?_;subst hr;exact b4 rfl
theorem EJ(T:Sr M Γ s s' kd wA G f less)(left:Bool)(hk:KR G f iV zaU)(ha:AR G f a a')(b n h:Nat):QD M Γ s s' kd wA G f Eq (gallop' left iV a b n h) (gallop' left zaU a' b n h):=by
 rw[gallop'_eq,gallop'_eq]
 repeat' first
   |exact b4 rfl
   |exact b4 (TD rfl)
   |exact b4 (IE rfl)
   |dsimp only
   |(refine Y2 (Gh T _ hk ha _ _) λr r' hr=>?_;subst hr)
   |(refine Y2 (R:=Eq) (HE (R:=Eq) rfl λi c c' hc=>?_) λc c' hc=>?_<;>subst hc)
   |(refine RD jC (λ_=>?_) (λ_=>?_))
   |split
theorem SR.gallop{st jA:SortSt}(h:SR kd wA G f st jA) (g:Nat):SR kd wA G f (setGallop st g) (setGallop jA g):=⟨h.k,h.k',h.arr,h.pend,rfl,h.fl,h.fl'⟩
theorem Ib(g:Nat):QD M Γ s s' kd wA G f (λ_ _=>True) (setMinGallop' g) (setMinGallop' g):=by
 rw[setMinGallop'_eq];exact GE λst jA hs=>hs.gallop g
def OR(G:Keyed->Prop)(f:Keyed->Keyed):Option (Array Keyed)->Option (Array Keyed)->Prop
 |none,none=>True
 |some a,some a'=>AR G f a a'
 |_,_=>False
def LR(G:Keyed->Prop)(f:Keyed->Keyed){γ:Type}(c c':Option (Array Keyed)×Array Keyed×γ):Prop:=OR G f c.1 c'.1/\AR G f c.2.1 c'.2.1/\c'.2.2=c.2.2
theorem AR.one(h:KR G f x x'):AR G f #[x] #[x']:=by
 obtain⟨g,rfl⟩:=h;exact⟨λz hz=>by rw[Array.mem_singleton.mp hz];exact g,by simp⟩
theorem LR.start{t:γ}(h:AR G f FB i6):LR G f (none,FB,t) (none,i6,t):=⟨trivial,h,rfl⟩
theorem LR.all{P:(Option (Array Keyed)×Array Keyed×γ)->(Option (Array Keyed)×Array Keyed×γ)->Prop}(k0:∀(FB i6:Array Keyed)(t:γ),AR G f FB i6->P (none,FB,t) (none,i6,t)) (k1:∀(o o':Array Keyed)(FB i6:Array Keyed)(t:γ),AR G f o o'->AR G f FB i6->P (some o,FB,t) (some o',i6,t)) {c c':Option (Array Keyed)×Array Keyed×γ}(hc:LR G f c c'):P c c':=by
 rcases c with⟨_|o,FB,t⟩<;>rcases c' with⟨_|o',i6,t'⟩<;>obtain⟨h1,h4,h5⟩:=hc<;>first|exact h1.elim|(cases h5;first|exact k0 _ _ _ h4|exact k1 _ _ _ _ _ h1 h4)
theorem LR.loop{a b:Nat}{t:γ}{S:β->β->Prop}{g g':Nat->(Option (Array Keyed)×Array Keyed×γ)->StateT SortSt Sem (ForInStep (Option (Array Keyed)×Array Keyed×γ))}{k k':(Option (Array Keyed)×Array Keyed×γ)->StateT SortSt Sem β}(h:AR G f FB i6) (b0:∀i (FB i6:Array Keyed) (t:γ),AR G f FB i6->QD M Γ s s' kd wA G f (Ef (LR G f)) (g i (none,FB,t)) (g' i (none,i6,t))) (b1:∀i (o o':Array Keyed) (FB i6:Array Keyed) (t:γ),AR G f o o'->AR G f FB i6->QD M Γ s s' kd wA G f (Ef (LR G f)) (g i (some o,FB,t)) (g' i (some o',i6,t))) (k0:∀(FB i6:Array Keyed)(t:γ),AR G f FB i6->QD M Γ s s' kd wA G f S (k (none,FB,t)) (k' (none,i6,t))) (k1:∀(o o':Array Keyed)(FB i6:Array Keyed)(t:γ),AR G f o o'->AR G f FB i6->QD M Γ s s' kd wA G f S (k (some o,FB,t)) (k' (some o',i6,t))):QD M Γ s s' kd wA G f S (forIn [a:b] (none,FB,t) g>>=k) (forIn [a:b] (none,i6,t) g'>>=k'):=Y2 (R:=LR G f) (HE (R:=LR G f) (LR.start h) λi _ _ hc=>LR.all (P:=λc c'=>QD M Γ s s' kd wA G f (Ef (LR G f)) (g i c) (g' i c')) (b0 i) (b1 i) hc) λ_ _ hc=>LR.all (P:=λc c'=>QD M Γ s s' kd wA G f S (k c) (k' c')) k0 k1 hc
structure Hh where
 (m0:Model) (g0:Ctx) (s0 s1:Shared) (k0 k1:SortKind) (G0:Keyed->Prop) (f0:Keyed->Keyed) (l0:Keyed->Keyed->Bool) (a0 a1 b0 b1:Array Keyed)
abbrev Hh.fit(e:Hh):Prop:=Sr e.m0 e.g0 e.s0 e.s1 e.k0 e.k1 e.G0 e.f0 e.l0/\AR e.G0 e.f0 e.a0 e.a1/\AR e.G0 e.f0 e.b0 e.b1
instance:Nonempty Hh:=⟨⟨model default ⟨λ_ _=>0,{strHash:=λ_=>0,shareClass:=λ_=>0,mergeTok:=id,idOf:=λ_=>0,idOfShared:=λ_ _=>0,followText:=λ_=>false,idOfImm:=λ_=>0}⟩,⟨.call .none ⟨[],[]⟩,none,none,[],none⟩,{},{},oneType',oneType',λ_=>True,id,λ_ _=>true,#[],#[],#[],#[]⟩⟩
def Jb(e:Hh):Prop:=QD e.m0 e.g0 e.s0 e.s1 e.k0 e.k1 e.G0 e.f0 (AR e.G0 e.f0) (mergeLo' e.a0 e.b0) (mergeLo' e.a1 e.b1)
@[irreducible] noncomputable def S6:Hh:=Classical.epsilon λe=>e.fit/\¬Jb e
theorem zag(o:S6.fit):Jb S6:=by
 obtain⟨T,ha,hb⟩:=o;unfold Jb;rw[mergeLo'_eq,mergeLo'_eq];refine Y2 FI λr r' hr=>?_;rw[ha.size,hb.size];dsimp only;refine Y2 (SD hb _) λx x' hx=>?_;refine BP (b4 ?_) ?_
 rotate_left
 refine BP (b4 ?_) ?_
 rotate_left
 refine Y2 rH λst jA FM=>?_;rw[FM.gal];have Qx:∀{γ:Type}{o o':Array Keyed}{FB i6:Array Keyed}{t:γ},AR S6.G0 S6.f0 o o'->AR S6.G0 S6.f0 FB i6->QD S6.m0 S6.g0 S6.s0 S6.s1 S6.k0 S6.k1 S6.G0 S6.f0 (Ef (LR S6.G0 S6.f0)) (pure (.done (some o,FB,t))) (pure (.done (some o',i6,t))):=λh1 h2=>b4 (TD ⟨h1,h2,rfl⟩);have Rx:∀{γ:Type}{FB i6:Array Keyed}{t:γ},AR S6.G0 S6.f0 FB i6->QD S6.m0 S6.g0 S6.s0 S6.s1 S6.k0 S6.k1 S6.G0 S6.f0 (Ef (LR S6.G0 S6.f0)) (pure (.done (none,FB,t))) (pure (.done (none,i6,t))):=λh2=>b4 (TD ⟨trivial,h2,rfl⟩);have Sx:∀{γ:Type}{FB i6:Array Keyed}{t:γ},AR S6.G0 S6.f0 FB i6->QD S6.m0 S6.g0 S6.s0 S6.s1 S6.k0 S6.k1 S6.G0 S6.f0 (Ef (LR S6.G0 S6.f0)) (pure (.yield (none,FB,t))) (pure (.yield (none,i6,t))):=λh2=>b4 (IE ⟨trivial,h2,rfl⟩)
 all_goals repeat' first
   |with_reducible first|assumption|refine AR.append ?_ ?_|refine AR.push ?_ ?_|refine AR.extract ?_ _ _|refine AR.reverse ?_|refine BP ?_ ?_|refine Rx ?_|refine Sx ?_|refine Qx ?_ ?_|refine Y2 (SD (by first|exact ha|exact hb) _) λx x' hx=>?_|refine Y2 (Ib _) λr r' hr=>?_|refine Y2 FI λr r' hr=>?_
   |(with_reducible first|refine qY (NT T (by assumption) (by assumption)) ?_ λb=>?_|refine qY (EJ T _ (by assumption) (by first|exact ha|exact hb) _ _ _) ?_ λb=>?_)<;>dsimp only
   |refine LR.loop ?_ (λi FB i6 t h4=>?_) (λi o o' FB i6 t h1 h4=>?_) (λFB i6 t h4=>?_) (λo o' FB i6 t h1 h4=>?_)<;>try dsimp only
   |with_reducible refine b4 ?_
   |exact AR.one (by assumption)
   |exact zP
theorem zcN(T:Sr M Γ s s' kd wA G f less)(ha:AR G f a a')(hb:AR G f b b'):QD M Γ s s' kd wA G f (AR G f) (mergeLo' a b) (mergeLo' a' b'):=sC λn=>by
 have z:S6.fit/\¬Jb S6:=by
  unfold S6;exact UD (p:=λe=>e.fit/\¬Jb e) ⟨⟨M,Γ,s,s',kd,wA,G,f,less,a,a',b,b'⟩,⟨T,ha,hb⟩,n⟩
 exact z.2 (zag z.1)
end
end Srt
section
set_option maxHeartbeats 8000000
namespace Srt
open PySem PyProof.Rows
variable {FB i6:Array Keyed}{x y:Nat}{γ:Type}
section
variable {M:Model}{Γ:Ctx}{s s':Shared}{kd wA:SortKind}{G:Keyed->Prop}{f:Keyed->Keyed}{less:Keyed->Keyed->Bool}
def HR(G:Keyed->Prop)(f:Keyed->Keyed){γ:Type}(c c':Option (Array Keyed)×Nat×Nat×Array Keyed×γ):Prop:=OR G f c.1 c'.1/\c'.2.1=c.2.1/\c'.2.2.1=c.2.2.1/\AR G f c.2.2.2.1 c'.2.2.2.1/\c'.2.2.2.2=c.2.2.2.2
theorem HR.start{t:γ}(h:AR G f FB i6):HR G f (none,x,y,FB,t) (none,x,y,i6,t):=⟨trivial,rfl,rfl,h,rfl⟩
theorem HR.all{P:(Option (Array Keyed)×Nat×Nat×Array Keyed×γ)->(Option (Array Keyed)×Nat×Nat×Array Keyed×γ)->Prop}(k0:∀(na nb:Nat)(FB i6:Array Keyed)(t:γ),AR G f FB i6->P (none,na,nb,FB,t) (none,na,nb,i6,t)) (k1:∀(o o':Array Keyed)(na nb:Nat)(FB i6:Array Keyed)(t:γ),AR G f o o'->AR G f FB i6->P (some o,na,nb,FB,t) (some o',na,nb,i6,t)) {c c':Option (Array Keyed)×Nat×Nat×Array Keyed×γ}(hc:HR G f c c'):P c c':=by
 rcases c with⟨_|o,na,nb,FB,t⟩<;>rcases c' with⟨_|o',na',nb',i6,t'⟩<;>obtain⟨h1,e0,e1,h4,h5⟩:=hc<;>first|exact h1.elim|(cases e0;cases e1;cases h5;first|exact k0 _ _ _ _ _ h4|exact k1 _ _ _ _ _ _ _ h1 h4)
theorem HR.loop{β:Type}{a b:Nat}{t:γ}{S:β->β->Prop}{g g':Nat->(Option (Array Keyed)×Nat×Nat×Array Keyed×γ)->StateT SortSt Sem (ForInStep (Option (Array Keyed)×Nat×Nat×Array Keyed×γ))}{k k':(Option (Array Keyed)×Nat×Nat×Array Keyed×γ)->StateT SortSt Sem β}(h:AR G f FB i6) (b0:∀i (na nb:Nat) (FB i6:Array Keyed) (t:γ),AR G f FB i6->QD M Γ s s' kd wA G f (Ef (HR G f)) (g i (none,na,nb,FB,t)) (g' i (none,na,nb,i6,t))) (b1:∀i (o o':Array Keyed) (na nb:Nat) (FB i6:Array Keyed) (t:γ),AR G f o o'->AR G f FB i6->QD M Γ s s' kd wA G f (Ef (HR G f)) (g i (some o,na,nb,FB,t)) (g' i (some o',na,nb,i6,t))) (k0:∀(na nb:Nat)(FB i6:Array Keyed)(t:γ),AR G f FB i6->QD M Γ s s' kd wA G f S (k (none,na,nb,FB,t)) (k' (none,na,nb,i6,t))) (k1:∀(o o':Array Keyed)(na nb:Nat)(FB i6:Array Keyed)(t:γ),AR G f o o'->AR G f FB i6->QD M Γ s s' kd wA G f S (k (some o,na,nb,FB,t)) (k' (some o',na,nb,i6,t))):QD M Γ s s' kd wA G f S (forIn [a:b] (none,x,y,FB,t) g>>=k) (forIn [a:b] (none,x,y,i6,t) g'>>=k'):=Y2 (R:=HR G f) (HE (R:=HR G f) (HR.start h) λi _ _ hc=>HR.all (P:=λc c'=>QD M Γ s s' kd wA G f (Ef (HR G f)) (g i c) (g' i c')) (b0 i) (b1 i) hc) λ_ _ hc=>HR.all (P:=λc c'=>QD M Γ s s' kd wA G f S (k c) (k' c')) k0 k1 hc
def Kb(e:Hh):Prop:=QD e.m0 e.g0 e.s0 e.s1 e.k0 e.k1 e.G0 e.f0 (AR e.G0 e.f0) (mergeHi' e.a0 e.b0) (mergeHi' e.a1 e.b1)
@[irreducible] noncomputable def T6:Hh:=Classical.epsilon λe=>e.fit/\¬Kb e
theorem zah(o:T6.fit):Kb T6:=by
 obtain⟨T,ha,hb⟩:=o;unfold Kb;rw[mergeHi'_eq,mergeHi'_eq];refine Y2 FI λr r' hr=>?_;rw[ha.size,hb.size];dsimp only;refine Y2 (SD ha _) λx x' hx=>?_;refine BP (b4 ?_) ?_
 rotate_left
 refine BP (b4 ?_) ?_
 rotate_left
 refine Y2 rH λst jA FM=>?_;rw[FM.gal];have Qx:∀{γ:Type}{o o':Array Keyed}{x:Nat}{FB i6:Array Keyed}{t:γ}{y:Nat},AR T6.G0 T6.f0 o o'->AR T6.G0 T6.f0 FB i6->QD T6.m0 T6.g0 T6.s0 T6.s1 T6.k0 T6.k1 T6.G0 T6.f0 (Ef (HR T6.G0 T6.f0)) (pure (.done (some o,x,y,FB,t))) (pure (.done (some o',x,y,i6,t))):=λh1 h2=>b4 (TD ⟨h1,rfl,rfl,h2,rfl⟩);have Rx:∀{γ:Type}{x y:Nat}{FB i6:Array Keyed}{t:γ},AR T6.G0 T6.f0 FB i6->QD T6.m0 T6.g0 T6.s0 T6.s1 T6.k0 T6.k1 T6.G0 T6.f0 (Ef (HR T6.G0 T6.f0)) (pure (.done (none,x,y,FB,t))) (pure (.done (none,x,y,i6,t))):=λh2=>b4 (TD ⟨trivial,rfl,rfl,h2,rfl⟩);have Sx:∀{γ:Type}{x y:Nat}{FB i6:Array Keyed}{t:γ},AR T6.G0 T6.f0 FB i6->QD T6.m0 T6.g0 T6.s0 T6.s1 T6.k0 T6.k1 T6.G0 T6.f0 (Ef (HR T6.G0 T6.f0)) (pure (.yield (none,x,y,FB,t))) (pure (.yield (none,x,y,i6,t))):=λh2=>b4 (IE ⟨trivial,rfl,rfl,h2,rfl⟩)
 all_goals repeat' first
   |with_reducible first|assumption|refine AR.append ?_ ?_|refine AR.push ?_ ?_|refine AR.extract ?_ _ _|refine AR.reverse ?_|refine BP ?_ ?_|refine Rx ?_|refine Sx ?_|refine Qx ?_ ?_|refine Y2 (SD (by first|exact ha|exact hb) _) λx x' hx=>?_|refine Y2 (Ib _) λr r' hr=>?_|refine Y2 FI λr r' hr=>?_
   |(with_reducible first|refine qY (NT T (by assumption) (by assumption)) ?_ λb=>?_|refine qY (EJ T _ (by assumption) (by first|exact ha|exact hb) _ _ _) ?_ λb=>?_)<;>dsimp only
   |refine HR.loop ?_ (λi na nb FB i6 t h4=>?_) (λi o o' na nb FB i6 t h1 h4=>?_) (λna nb FB i6 t h4=>?_) (λo o' na nb FB i6 t h1 h4=>?_)<;>try dsimp only
   |with_reducible refine b4 ?_
   |exact AR.one (by assumption)
   |exact zP
theorem zcO(T:Sr M Γ s s' kd wA G f less){a a' b b':Array Keyed}(ha:AR G f a a') (hb:AR G f b b'):QD M Γ s s' kd wA G f (AR G f) (mergeHi' a b) (mergeHi' a' b'):=sC λn=>by
 have z:T6.fit/\¬Kb T6:=by
  unfold T6;exact UD (p:=λe=>e.fit/\¬Kb e) ⟨⟨M,Γ,s,s',kd,wA,G,f,less,a,a',b,b'⟩,⟨T,ha,hb⟩,n⟩
 exact z.2 (zah z.1)
end
end Srt
end
section
set_option maxHeartbeats 8000000
namespace Srt
open PySem PyProof.Rows
section
variable {M:Model}{Γ:Ctx}{s s':Shared}{kd wA:SortKind}{G:Keyed->Prop}{f:Keyed->Keyed}{less:Keyed->Keyed->Bool}
theorem AR.setB{a a':Array Keyed}{x x':Keyed}(h:AR G f a a') (hx:KR G f x x') (i:Nat):AR G f (a.setIfInBounds i x) (a'.setIfInBounds i x'):=by
 obtain⟨h1,rfl⟩:=h;obtain⟨gx,rfl⟩:=hx;refine⟨λz hz=>?_,?_⟩
 .rcases Array.mem_or_eq_of_mem_setIfInBounds hz with q|q
  all_goals grind
 .rw[Array.map_setIfInBounds]
theorem AR.put{sa:Nat}:∀(l:List (Keyed×Nat)){a a':Array Keyed},(∀z∈l,G z.1)->AR G f a a'->AR G f (l.foldl (λa p=>a.setIfInBounds (sa+p.2) p.1) a) ((l.map λz=>(f z.1,z.2)).foldl (λa p=>a.setIfInBounds (sa+p.2) p.1) a')
 |[],_,_,_,h=>h
 |z::l,_,_,hl,h=>AR.put l (λy hy=>hl y (by simp[hy])) (h.setB ⟨hl z (by simp),rfl⟩ _)
theorem Kl(g:Keyed->Keyed):∀(l:List Keyed)(n:Nat),(l.map g).zipIdx n=(l.zipIdx n).map λz=>(g z.1,z.2)
 |[],_=>rfl
 |x::l,n=>by
  rw[C3,GI,GI,C3,Kl g l]
theorem AR.merged{m m' a a':Array Keyed}(hm:AR G f m m') (h:AR G f a a') (sa:Nat):AR G f (m.toList.zipIdx.foldl (λa p=>a.setIfInBounds (sa+p.2) p.1) a) (m'.toList.zipIdx.foldl (λa p=>a.setIfInBounds (sa+p.2) p.1) a'):=by
 obtain⟨h1,rfl⟩:=hm;rw[JA,Kl];refine AR.put _ (λz hz=>h1 _ ?_) h;grind
theorem SR.setPending{st jA:SortSt}(h:SR kd wA G f st jA) (p:Array (Nat×Nat×Nat)):SR kd wA G f (setPending st p) (setPending jA p):=⟨h.k,h.k',h.arr,rfl,h.gal,h.fl,h.fl'⟩
theorem Lb(T:Sr M Γ s s' kd wA G f less)(i:Nat):QD M Γ s s' kd wA G f Eq (mergeAt' i) (mergeAt' i):=by
 rw[mergeAt'_eq];refine Y2 rH λst jA hs=>?_;rw[hs.pend];split
 .refine Y2 (zaf (hs.setPending _)) λr r' hr=>?_;refine Y2 (SD hs.arr _) λx x' hx=>?_;refine Y2 (EJ T _ hx hs.arr _ _ _) λr r' hr=>?_;subst hr;split
  .refine RD jC (λ_=>b4 rfl) (λ_=>?_);refine Y2 (SD hs.arr _) λx x' hx=>?_;refine Y2 (EJ T _ hx hs.arr _ _ _) λr r' hr=>?_;subst hr;split
   .refine RD jC (λ_=>b4 rfl) (λ_=>?_);refine RD jC (λ_=>?_) (λ_=>?_)
    .refine Y2 (zcN T (hs.arr.extract _ _) (hs.arr.extract _ _)) λm m' hm=>?_;refine Y2 (GE λst jA hs=>hs.setArr (hm.merged hs.arr _)) λr r' hr=>?_;refine Y2 rH λst jA hs=>?_;refine b4 ?_;rw[hs.fl,hs.fl']
    .refine Y2 (zcO T (hs.arr.extract _ _) (hs.arr.extract _ _)) λm m' hm=>?_;refine Y2 (GE λst jA hs=>hs.setArr (hm.merged hs.arr _)) λr r' hr=>?_;refine Y2 rH λst jA hs=>?_;refine b4 ?_;rw[hs.fl,hs.fl']
   .exact b4 rfl
  .exact b4 rfl
 .exact zP
theorem Vu(T:Sr M Γ s s' kd wA G f less):QD M Γ s s' kd wA G f (λ_ _=>True) sortRuns' sortRuns':=by
 rw[sortRuns'_eq];refine Y2 rH λst jA hs=>?_;rw[hs.arr.size]
 repeat' first
   |exact b4 trivial
   |exact b4 (TD rfl)
   |exact b4 (IE rfl)
   |dsimp only
   |(refine Y2 (Qp T _ _) λr r' hr=>?_;subst hr)
   |(refine Y2 (Fh T _ _ _) λr r' hr=>?_;subst hr)
   |(refine Y2 (Lb T _) λr r' hr=>?_;subst hr)
   |(refine Y2 FI λr r' hr=>?_)
   |(refine Y2 rH λst jA hs=>?_;rw[hs.pend])
   |(refine Y2 (R:=Eq) (HE (R:=Eq) rfl λi c c' hc=>?_) λc c' hc=>?_<;>subst hc)
   |(refine Y2 (GE λst jA hs=>by rw[hs.pend];exact hs.setPending _) λr r' hr=>?_)
   |(refine RD jC (λ_=>?_) (λ_=>?_))
   |split
end
end Srt
end
namespace Srt
open PySem PyProof.Rows
variable {Γ:Ctx}{M:Model}{n:Nat}{s:Shared}
def HQ(i:Nat):Obj:=seqObj "tuple" (List.replicate i Value.none).toArray 0
def Mb(n:Nat):Heap:={objs:=((List.range n).map HQ).toArray}
theorem fO{i:Nat}(h:i<n):(Mb n).get? i=some (HQ i):=by
 unfold Mb Heap.get?;have e:(((List.range n).map HQ).toArray)[i]?=some (HQ i):=by
  rw[sE,P1,d8 h];rfl
 rw[e];rfl
theorem Nb{a:Addr}{xs:Array Value}{o:Obj}(h:s.heap.get? a=some o) (hd:o.data=.seq xs n) (Q:Array Value->Pos->Shared->Prop) (E:Value->Pos->Shared->Prop) (p:Pos) :
  Sem.wp M Γ (Builtin.List.listItems (.ref a)) Q E p s=Q xs p s:=by
 unfold Builtin.List.listItems seqItems?;rw[M6,M6,Sem.wp_load_of _ _ _ _ _ h,hd];rfl
theorem Ll(Q:Bool->Pos->Shared->Prop)(E:Value->Pos->Shared->Prop)(p:Pos):Sem.wp M Γ (eqBool Value.none Value.none) Q E p s=Q true p s:=by
 unfold eqBool;rw[Sem.wp_holding,K0 (by decide),M6];rfl
theorem wp_walk{M:Model}{Γ:Ctx}{s:Shared}{E:Value->Pos->Shared->Prop}{body:(Value×Value)×Nat->Option Bool×Unit->Sem (ForInStep (Option Bool×Unit))}(hb:∀(i:Nat)(R:ForInStep (Option Bool×Unit)->Pos->Shared->Prop)(p:Pos),Sem.wp M Γ (body ((Value.none,Value.none),i) (none,())) R E p s->R (.yield (none,())) p s) :
  ∀(l:List (Value×Value))(i:Nat)(Q:Option Bool×Unit->Pos->Shared->Prop)(p:Pos),(∀z∈l,z=(Value.none,Value.none))->Sem.wp M Γ (forIn (l.zipIdx i) (none,()) body) Q E p s->Q (none,()) p s
 |[],i,Q,p,_,h=>by
  rw[List.zipIdx_nil,UK,eO]at h;exact h
 |z::l,i,Q,p,hz,h=>by
  obtain rfl:=hz z (by simp);rw[GI,fB,M6]at h;have h2:=hb i _ p h;exact wp_walk hb l (i+1) Q p (λy hy=>hz y (by simp[hy])) h2
theorem zai{x y:Nat}{b:Bool}(hs:s.heap=Mb n) (hx:x<n) (hy:y<n) (Q:Bool->Pos->Shared->Prop) (E:Value->Pos->Shared->Prop) (p:Pos)
 (h:Sem.wp M Γ (keyLt' (tuples' b) (.ref x) (.ref y)) Q E p s):Q (decide (x<y)) p s:=by
  have gx:s.heap.get? x=some (HQ x):=by rw[hs];exact fO hx
  have gy:s.heap.get? y=some (HQ y):=by rw[hs];exact fO hy
  rw[kat_lt_eq,M6,Nb gx rfl,M6,Nb gy rfl,M6]at h;have h2:=wp_walk (s:=s) (E:=E) (λi R p h=>?_) _ 0 _ p ?_ h
  .have h3:Sem.wp M Γ (pure (decide ((List.replicate x Value.none).toArray.size<(List.replicate y Value.none).toArray.size))) Q E p s:=h2;rw[eO,J1,J1,n8,n8]at h3;exact h3
  .rw[M6,Ll]at h;exact h
  .intro z hz;have m1:=(U9 hz).1;have m2:=(U9 hz).2;have e1:=nA m1;have e2:=nA m2;exact Prod.ext e1 e2
end Srt
namespace Srt
open PySem PyProof.Rows PySem.W
variable {less:Keyed->Keyed->Bool}{n:Nat}{α:Type}
def rank(less:Keyed->Keyed->Bool)(l:List Keyed)(x:Keyed):Nat:=(l.filter λz=>less z x).length
theorem DP{α:Type}{p q:α->Bool}:∀{l:List α},(∀z∈l,p z=true->q z=true)->(l.filter p).length<=(l.filter q).length
 |[],_=>j1 _
 |a::l,h=>by
  have ih:=DP (l:=l) λz hz=>h z (by simp[hz]);rw[i5,i5];by_cases c:p a=true
  .rw[K0 c,K0 (h a (by simp) c),M1,M1]
   lia
  .rw[D0 c];by_cases d:q a=true
   .rw[K0 d,M1]
    lia
   .rw[D0 d];exact ih
theorem RW{α:Type}{p q:α->Bool}:∀{l:List α},(∀z∈l,p z=true->q z=true)->∀{x:α},x∈l->p x=false->q x=true->(l.filter p).length<(l.filter q).length
 |[],_,_,hx,_,_=>nomatch hx
 |a::l,h,x,hx,px,qx=>by
  have hl:∀z∈l,p z=true->q z=true:=λz hz=>h z (by simp[hz]);rw[i5,i5];by_cases e:x=a
  .subst e;rw[D0 (by rw[px];decide),K0 qx,M1];have:=DP hl
   lia
  .have Bs:x∈l:=by
    rcases S1.mp hx with q|q
    .exact absurd q e
    .exact q
   have ih:=RW hl Bs px qx;by_cases c:p a=true
   .rw[K0 c,K0 (h a (by simp) c),M1,M1]
    lia
   .rw[D0 c];by_cases d:q a=true
    .rw[K0 d,M1]
     lia
    .rw[D0 d];exact ih
structure Ord(less:Keyed->Keyed->Bool)(l:List Keyed):Prop where
 irr:∀x∈l,less x x=false
 tr:∀x∈l,∀y∈l,∀z∈l,less x y=true->less y z=true->less x z=true
 neg:∀x∈l,∀y∈l,∀z∈l,less x z=true->less x y=true\/less y z=true
theorem mS{l:List Keyed}(O:Ord less l) {x y:Keyed}(hx:x∈l) (hy:y∈l):less x y=decide (rank less l x<rank less l y):=by
 cases h:less x y with
 |true=>
  refine(F1 ?_).symm;exact RW (λz hz q=>O.tr z hz x hx y hy q h) hx (O.irr x hx) h
 |false=>
  refine(Y0 ?_).symm;have:=DP (p:=λz=>less z y) (q:=λz=>less z x) (l:=l) λz hz q=>by
   rcases O.neg z hz x hx y hy q with r|r
   .exact r
   .rw[h]at r;cases r
  unfold rank
  lia
theorem rY(less:Keyed->Keyed->Bool)(l:List Keyed)(x:Keyed):rank less l x<l.length+1:=by
 have:=t8 (λz=>less z x) l;unfold rank
 lia
@[reducible] def sH (n:Nat):PyProof.Rows.KeyKind where
 α:=Nat
 blt a b:=decide (a<b)
 irrefl a:=Y0 (B5 a)
 trans a b c h1 h2:=F1 (ID (Y4 h1) (Y4 h2))
 negTrans a b c h:=by
  have:=Y4 h;by_cases q:a<b
  .exact .inl (F1 q)
  .exact .inr (F1 (by lia))
 total a b h1 h2:=by
  have:=w6 h1;have:=w6 h2
  lia
 keyOf v:=match v with
  |.ref r=>if r<n then some r else none
  |_=>none
 dflt:=0
theorem Wu{r:Nat}{v:Value}(h:(sH n).keyOf v=some r):v=.ref r/\r<n:=by
 cases v with
 |ref a=>
  have h:(if a<n then some a else none)=some r:=h;by_cases c:a<n
  .rw[K0 c]at h;obtain rfl:=J0 h;exact⟨rfl,c⟩
  .rw[D0 c]at h;cases h
 |_=>cases h
section
variable {prog:Program}{w:World}{A:Around}{E:Value->Shared->Prop}{s:Shared}
theorem SW{b fin:Bool}{Q:Bool->Shared->Prop}:∀(l:List (Value×Value))(i:Nat),(∀z∈l,z=(Value.none,Value.none))->Q fin s->KatLex prog w A b fin Q l i s
 |[],_,_,h=>kat_nil h
 |z::l,i,hz,h=>by
  obtain rfl:=hz z (by simp);refine kat_cons λΓ p hΓ=>?_;rw[Ll];exact kat_yes (SW l (i+1) (λy hy=>hz y (by simp[hy])) h)
theorem Xu(hs:s.heap=Mb n):G.LtAt prog w s (sH n) (tuples' true):=by
 intro A E x y a b Q hx hy hq;obtain⟨rfl,ha⟩:=Wu hx;obtain⟨rfl,hb⟩:=Wu hy;have gx:s.heap.get? a=some (HQ a):=by rw[hs];exact fO ha
 have gy:s.heap.get? b=some (HQ b):=by rw[hs];exact fO hb
 refine kat_lt gx rfl gy rfl (SW _ 0 (λz hz=>?_) ?_)
 .have m1:=(U9 hz).1;have m2:=(U9 hz).2;exact Prod.ext (nA m1) (nA m2)
 .have e:decide ((List.replicate a Value.none).toArray.size<(List.replicate b Value.none).toArray.size)=decide (a<b):=by
   rw[J1,J1,n8,n8]
  rw[e];exact hq
theorem sort_at{kd:SortKind}{a₀:Array Keyed}{Q:Unit->SortSt->Prop}(O:Ord less a₀.toList)
 (real:∀x∈a₀.toList,∀y∈a₀.toList,∀(E:Value->Shared->Prop)(Q:Bool->Shared->Prop),Q (less x y) s->wpAny (model prog w) A (keyLt' kd x.1 y.1) Q E s) (h2:2<=a₀.size)
 (h:∀jA,((arrOf jA).toList.map (·.2)).Perm (a₀.toList.map (·.2))->(∀x∈(arrOf jA).toList,x∈a₀.toList)->failedOf jA=none->((arrOf jA).toList.Pairwise λx y=>less y x=false)->Q () jA) :
   wpS (model prog w) A E s sortRuns' Q (SortSt.mk' kd a₀ #[] 7 none):=by
  intro Γ p hΓ
  let f:Keyed->Keyed:=λx=>(.ref (rank less a₀.toList x),x.2)
  let n:=a₀.toList.length+1
  let s':Shared:={s with heap:=Mb n}
  have kf:∀x,(sH n).keyOf (f x).1=some (rank less a₀.toList x):=λx=>K0 (rY less a₀.toList x);have T:Sr (model prog w) Γ s s' kd (tuples' true) (λx=>x∈a₀.toList) f less:=by
   refine⟨λx y hx hy Q E p q=>?_,λx y hx hy Q E p q=>?_⟩
   .have z:=real x hx y hy (λ_ _=>False) Q q Γ p hΓ;exact qL _ Γ _ (λ_ _ _ q=>q) (λ_ _ _ q=>q.elim) p s z
   .refine⟨p,?_⟩;rw[mS O hx hy];exact zai (n:=n) rfl (rY less a₀.toList x) (rY less a₀.toList y) Q E p q
  have fk:=G.wpS_sortRunsSt (prog:=prog) (w:=w) (A:=A) (E:=λ_ _=>False) (s:=s') (κ:=sH n) (kd:=tuples' true) (a₀:=a₀.map f) (st:=SortSt.mk' (tuples' true) (a₀.map f) #[] 7 none)
   (Q:=λ_ jA=>(arrOf jA).Perm (a₀.map f)/\SortedToK (sH n) (arrOf jA) (a₀.map f).size) (Xu rfl) (λq hq=>?_) ⟨Array.Perm.refl _,rfl,rfl⟩ rfl (Stable.refl _) (by rw[AG];exact h2) λjA p1 _ p3 _=>⟨p1,p3⟩
  .have w1:=Vu T (SortSt.mk' kd a₀ #[] 7 none) (SortSt.mk' (tuples' true) (a₀.map f) #[] 7 none) ⟨rfl,rfl,⟨λx hx=>Array.mem_def.mp hx,rfl⟩,rfl,rfl,rfl,rfl⟩ _ _ p (fk Γ p hΓ) (λe _ s1=>E e s1) p;refine qL _ Γ _ ?_ (λ_ _ _ q=>q) p s w1;rintro⟨u,Bf⟩ p1 s1 ⟨rfl,⟨u',Hr⟩,p2,_,sr,_,pm,so⟩;obtain⟨g1,g2⟩:=sr.arr;refine⟨rfl,h Bf ?_ (λx hx=>g1 x (Array.mem_def.mpr hx)) sr.fl ?_⟩
   .have z:(arrOf Hr).Perm (a₀.map f):=pm;rw[g2]at z;have z2:=(BG.mp z).map (·.2);rw[JA,JA,B3,B3]at z2;exact z2
   .have so:SortedToK (sH n) (arrOf Hr) (a₀.map f).size:=so;have sz:(arrOf Bf).size=(a₀.map f).size:=by
     have z:(arrOf Hr).Perm (a₀.map f):=pm;rw[<-z.size_eq,g2,AG]
    rw[R9];intro i j hi hj hij;have hi':i<(arrOf Bf).size:=by simpa using hi
    have Ox:j<(arrOf Bf).size:=by simpa using hj
    have z:=so i j (by lia) (by rw[<-sz];exact Ox);have e:∀k (hk:k<(arrOf Bf).size),KK (sH n) (arrOf Hr) k=rank less a₀.toList (arrOf Bf)[k]:=λk hk=>by
     unfold KK;rw[g2,Array.getElem?_map,Array.getElem?_eq_getElem hk];show((sH n).keyOf (f (arrOf Bf)[k]).1).getD _=_;rw[kf];rfl
    rw[e i hi',e j Ox]at z;have z:decide (rank less a₀.toList (arrOf Bf)[j]<rank less a₀.toList (arrOf Bf)[i])=false:=z;rw[<-mS O (g1 _ (Array.getElem_mem Ox)) (g1 _ (Array.getElem_mem hi'))]at z;rw[Array.getElem_toList,Array.getElem_toList];exact z
  .rw[JA]at hq;obtain⟨x,_,rfl⟩:=S2.mp hq;exact⟨_,kf x⟩
end
end Srt
namespace L2
open PySem PySem.Spec PyProof.Rows
section
variable {X:Cx}{pins:List (Addr×Obj)}{σ:St}{H:Hp}{s:Shared}{a:Addr}{d:V}{u r:Value}{kvs:List (MC×V)}{k:MC}{A:Around}{E:Value->Shared->Prop}
theorem Yu{Q:Value->Shared->Prop}(I:V2 X pins σ H s) (e:H a=some (.dK kvs)) (ry:R4 (kV k) u) (rd:R4 d r) (hz:kvs.length<sizeLine)
  (h1:∀v w' s',Y8 kvs k=some v->V2 X pins σ H s'->R4 v w'->Q w' s') (h2:Y8 kvs k=none->∀s',V2 X pins σ (upd H a (.dK (aF kvs k d))) s'->Q r s') :
  wpAny (model X.prog X.w) A (call (.builtin "dict.setdefault") [.ref a,u,r]) Q E s:=by
 obtain⟨z,hd,vs,bS,dd⟩:=zbe I.hok e;refine GN xF dd.typeIs PySem.F.entry_dict_setdefault (PySem.F.args_dict_setdefault_3 _ _ _) (kt_meets_setdefault (O9 X.prog X.w) a (rW ry) hd r)
  ⟨vs,dd,by rw[<-bS.length];exact z,λv hv=>?_,λhn h' dd' hs=>?_⟩
 .cases q:Y8 kvs k with
  |none=>
   have:=eG.none_of (o:=valueAt vs k) (by rw[<-q];exact bS.val k);rw[this]at hv;cases hv
  |some v'=>
   obtain⟨w',hw,GX⟩:=eG.some_of (v:=v') (o:=valueAt vs k) (by rw[<-q];exact bS.val k);rw[hw]at hv;obtain rfl:=J0 hv;exact h1 v' _ _ q (I.tok _) GX
 .have hv:Y8 kvs k=none:=by
   cases q:Y8 kvs k with
   |none=>rfl
   |some v'=>
    obtain⟨w',hw,_⟩:=eG.some_of (v:=v') (o:=valueAt vs k) (by rw[<-q];exact bS.val k);rw[hw]at hn;cases hn
  have he:∃q,h'.get? a=some q:=let ⟨q,_,_,hq,_⟩:=dd';⟨q,hq⟩
  refine h2 hv _ (XX I (by rw[e];exact c9) hs he (Dt ?_ hd (bS.put k rd) dd'));have:=sD kvs k d
  lia
end
def zcP(td ty tx:TE):TE:=λσ H Q=>td σ H λx H1=>∃a,x=.ref a/\IsD H1 a/\ty σ H1 λy H2=>tx σ H2 λz H3=>∃kvs k,H3 a=some (.dK kvs)/\y=kV k/\kvs.length<sizeLine/\
 (∀v,Y8 kvs k=some v->Q v H3)/\(Y8 kvs k=none->Q z (upd H3 a (.dK (aF kvs k z))))
section
variable {X:Cx}{o e f:Expr}{jE EF:Pos}{td ty tx:TE}
theorem Zu(ho:PE X o td)(he:PE X e ty)(hf:PE X f tx)(m:M2 X o "setdefault" jE e f EF):PE X (.Call (.Attribute o "setdefault" jE) [e,f] [] EF) (zcP td ty tx):=by
 intro pins s σ H Q I h;refine wpAny_Call_method m.base m.few m.line tI xF PySem.F.type_dict_setdefault (i8 (ho pins s σ H _ I h) λu s1 ⟨x,H1,I1,rx,a,ex,d,q1⟩=>?_);subst ex;obtain rfl:u=Value.ref a:=rx;obtain⟨t1,t2,_⟩:=Jt I1 d;refine⟨t1,t2,?_⟩;rw[m.trees];refine ZA rfl (ZE (XA (i8 (he pins s1 σ H1 _ I1 q1) λiv s2 ⟨y,H2,I2,ry,q2⟩=>
  XA (i8 (hf pins s2 σ H2 _ I2 q2) λfv s3 ⟨z,H3,I3,rz,kvs,k,e3,ey,hz,q3,q4⟩=>gH ?_))))
 subst ey;exact Yu I3 e3 ry rz hz (λv w' s4 hv I4 GX=>⟨_,H3,I4,GX,q3 v hv⟩) λhn s4 I4=>⟨_,_,I4,rz,q4 hn⟩
end
inductive Av(Q:VK)(x:V)(H1:Hp):Prop
 |mk (i:_):x=.int i->Q (.int (Builtin.Int.intBits i)) H1->Av Q x H1
def zeY(to:TE):TE:=λσ H Q=>to σ H (Av Q)
theorem Ml{X:Cx}{o:Expr}{to:TE}{jE pos:Pos}(ho:PE X o to)
  (Ze:attributeBase o "bit_length" X.env (eval o X.env)=eval o X.env:=by rfl) (GM:(jE.endLine==pos.line)=true:=by rfl):PE X (.Call (.Attribute o "bit_length" jE) [] [] pos) (zeY to):=by
 intro pins s σ H Q I h;refine PySem.Call_method0 Ze GM (i8 (ho pins s σ H _ I h) λv s1 ⟨x,H1,I1,r1,q1⟩=>?_);obtain⟨i,rfl,q1⟩:=q1;obtain⟨t,rfl⟩:=_root_.id r1;exact⟨"int",_,F.plainAttrs_int,F.slot_int_bit_length,F.type_int_bit_length,JM _ _ _,(λ_ e=>nomatch e),ZA rfl (PySem.evalArgs_none (call_int_bit_length ⟨.int _,H1,I1.tok _,⟨_,rfl⟩,q1⟩))⟩
end L2
namespace HT
open PySem PyProof.Rows
def RcLt(A:Around)(s:Shared)(y x:Value)(b:Bool):Prop:=∀(prog:Program)(w:World)(E:Value->Shared->Prop)(Q:Value->Shared->Prop),Q (.bool b) s->wpAny (model prog w) A (richCompare .Lt y x) Q E s
def LtAsk(A:Around)(s:Shared)(fin:Bool):List (Value×Value)->Bool->Prop
 |[],c=>c=fin
 |(y,x)::r,c=>∃e,SeqAt.EqAt A s y x e/\(e=true->LtAsk A s fin r c)/\(e=false->RcLt A s y x c)
section
open PySem.SeqAt
open PySem.AutoSeq1 (wpAny_loadPart')
open PySem.MeetsSeq PySem.MeetsSeq2 PySem.MeetsSeq3
theorem sY(l b:Addr)(items Y6:Array Value)(n n2:Nat)(dd Jf:Option Addr)(sl Kf:Array (Option Value))(c:Bool) :
  Meets (Builtin.«tuple.__lt__» ⟨[.ref l,.ref b],[]⟩)
   (λA R s=>s.heap.get? l=some {cls:=.type "tuple",dict:=dd,data:=.seq items n,slots:=sl}/\s.heap.get? b=some {cls:=.type "tuple",dict:=Jf,data:=.seq Y6 n2,slots:=Kf}/\
     LtAsk A.in1 s (decide (items.size<Y6.size)) (items.toList.zip Y6.toList) c/\R (.ok (.ret (.bool c))) s):=
 .of_wp λprog w A R s h=>by
  obtain⟨hp,g,d,tk,os⟩:=s;obtain⟨hl,hb,ha,h⟩:=h;have f2:=EC
  wp_walk using wpAny_loadPart' hl,wpAny_loadPart' hb,fI _ (λN7 b s'=>b.1=none/\s'=⟨hp,g,d,tk,os⟩/\LtAsk A.in1 ⟨hp,g,d,tk,os⟩ (decide (items.size<Y6.size)) N7 c) _
  case turn=>
   rintro⟨y,x⟩ N7 b s' ⟨cP,rfl,e,he,h1,h2⟩;refine z0 (he prog w _ _ ?_);cases e with
   |true=>
    wp_walk
    exact⟨rfl,rfl,h1 rfl⟩
   |false=>
    have hri:=h2 rfl prog w
    wp_walk using hri
    exact⟨_,rfl,by simpa using h⟩
  case fin=>
   rintro⟨b1,b2⟩ s' ⟨cP,rfl,hc⟩;simp only at cP;subst cP;have hc:c=decide (items.size<Y6.size):=hc;rw[hc]at h
   wp_walk
   exact⟨_,rfl,by simpa[Builtin.Tuple.tupleCompareSizes]using h⟩
  case h=>
   exact⟨rfl,rfl,ha⟩
end
section
variable {prog:Program}{w:World}{A:Around}{E:Value->Shared->Prop}{s:Shared}
theorem lt_tupAsk{l b:Addr}{items Y6:Array Value}{c:Bool}{Q:Value->Shared->Prop}(hl:IsTup s.heap l items) (hb:IsTup s.heap b Y6) (ha:LtAsk A.in1 s (decide (items.size<Y6.size)) (items.toList.zip Y6.toList) c)
  (hu:A.units<cLine) (h:Q (.bool c) s):wpAny (model prog w) A (compareOp .Lt (.ref l) (.ref b)) Q E s:=by
 obtain⟨⟨cls,dd,data,sl⟩,ho,hc,n,hd⟩:=id hl;obtain⟨⟨zaN,Jf,data2,Kf⟩,EX,qZ,n2,bW⟩:=id hb;simp only at hc hd qZ bW;subst hc hd qZ bW;exact DD (op:=.Lt) ⟨_,ho,rfl⟩ ⟨_,EX,rfl⟩ qK mJ (iI _ _) (sY l b items Y6 n n2 dd Jf sl Kf c)
  ⟨ho,EX,ha,show Value.bool c≠Value.notImplemented/\Q (.bool c) s from⟨(λx=>nomatch x),h⟩⟩ hu
end
end HT
namespace L2
open PySem PySem.Spec PyProof.Rows
variable {a:Addr}{A:Around}{X:Cx}{H H':Hp}{ns:List Int}{K:Frag}{v v':V}{u u':Value}
abbrev KI:=Int ⊕ List Int
variable {x y:KI}
def IH:KI->KI->Bool
 |.inl i,.inl j=>decide (i<j)
 |.inr a,.inr b=>HT.lexLt a b
 |_,_=>false
def bG:List KI->List KI->Bool
 |[],[]=>false
 |[],_::_=>true
 |_::_,[]=>false
 |x::xs,y::ys=>if x=y then bG xs ys else IH x y
def JH:List KI->List KI->Prop
 |[],[]=>True
 |.inl _::xs,.inl _::ys=>JH xs ys
 |.inr _::xs,.inr _::ys=>JH xs ys
 |_,_=>False
def rL(K:Frag)(H:Hp):KI->V->Prop
 |.inl i,v=>v=.int i
 |.inr ns,v=>∃r,v=.ref r/\S9 K H r (ns.map V.int)
def zC(K:Frag)(H:Hp)(k:List KI)(v:V):Prop:=∃t xs,v=.ref t/\S9 K H t xs/\Paired (rL K H) k xs
theorem zeZ{xs:List V}(e:Same H H') (h:S9 K H a xs):S9 K H' a xs:=by
 rcases h with h|h
 .rcases h with h|⟨o,h⟩
  .exact .inl (.inl (e _ _ h))
  .exact .inl (.inr ⟨o,e _ _ h⟩)
 .exact .inr h
theorem rL.same{k:KI}(s:Same H H') (h:rL K H k v):rL K H' k v:=by
 cases k with
 |inl i=>exact h
 |inr ns=>obtain⟨r,e,q⟩:=h;exact⟨r,e,zeZ s q⟩
theorem zC.same{k:List KI}(s:Same H H') (h:zC K H k v):zC K H' k v:=by
 obtain⟨t,xs,e,h1,h2⟩:=h;exact⟨t,xs,e,zeZ s h1,Paired.mapP h2 λ_ _ q=>rL.same s q⟩
section
variable {pins:List (Addr×Obj)}{σ:St}{s:Shared}
theorem TW(I:V2 X pins σ H s)(h:S9 X.K H a (ns.map V.int))(prog:Program)(w:World):IsTupleKey (O9 prog w) s.heap (ns.map Sum.inl) a:=by
 obtain⟨its,r,⟨o,h1,h2,n,h3⟩,_⟩:=I.tuple h;refine⟨o,its.toArray,n,h1,h2,h3,?_⟩;have e:ns.map V.int=((ns.map Sum.inl:List MC).map kV):=by
  rw[B3];rfl
 rw[e]at r;simpa using nP r
theorem zaj{ms:List Int}:(ns.map Sum.inl:List MC)=ms.map Sum.inl↔ns=ms:=⟨λh=>eD (λ_ _ q=>fA q) |>.mp h,λh=>by rw[h]⟩
theorem zbk(I:V2 X pins σ H s)(hu:A.units<cLine)(hx:rL X.K H x v)(hy:rL X.K H y v')(r:R4 v u)(r':R4 v' u')(f:JH [x] [y]):SeqAt.EqAt A s u u' (decide (x=y)):=by
 cases x with
 |inl i=>
  cases y with
  |inl j=>
   cases hx;cases hy;obtain⟨t,rfl⟩:=r;obtain⟨t',rfl⟩:=r';have z:=mG (A:=A) (s:=s) i t j t';rw[show decide ((Sum.inl i:KI)=Sum.inl j)=(i==j) by rw[Z2,P0,L4];exact⟨fA,λq=>by rw[q]⟩];exact z
  |inr b=>exact f.elim
 |inr a=>
  cases y with
  |inl j=>exact f.elim
  |inr b=>
   obtain⟨p,rfl,h1⟩:=hx;obtain⟨q,rfl,h2⟩:=hy;cases r;cases r';intro prog w E Q hq;refine wpAny_eqBool_tuple hu (TW I h1 prog w) (TW I h2 prog w) ?_;rw[show decide ((a.map Sum.inl:List MC)=b.map Sum.inl)=decide ((Sum.inr a:KI)=Sum.inr b)from P3.mpr ⟨λz=>by rw[zaj.mp z],λz=>by rw[Sum.inr.inj z]⟩];exact hq
theorem zbl(I:V2 X pins σ H s)(hu:A.units<cLine)(hx:rL X.K H x v)(hy:rL X.K H y v')(r:R4 v u)(r':R4 v' u')(f:JH [x] [y]):HT.RcLt A s u u' (IH x y):=by
 cases x with
 |inl i=>
  cases y with
  |inl j=>
   cases hx;cases hy;obtain⟨t,rfl⟩:=r;obtain⟨t',rfl⟩:=r';exact λprog w E Q h=>HT.rcLt_int A s i t j t' prog w E Q h
  |inr b=>exact f.elim
 |inr a=>
  cases y with
  |inl j=>exact f.elim
  |inr b=>
   obtain⟨p,rfl,h1⟩:=hx;obtain⟨q,rfl,h2⟩:=hy;cases r;cases r';intro prog w E Q hq;obtain⟨its,r1,p1,_⟩:=I.tuple h1;obtain⟨IK,r2,p2,_⟩:=I.tuple h2;have i1:IntsAre its.toArray.toList a:=nJ r1;have i2:IntsAre IK.toArray.toList b:=nJ r2;exact(HT.lt_tupInts p1 p2 i1 i2 hu hq:wpAny (model prog w) A (compareOp .Lt (.ref p) (.ref q)) Q E s)
theorem JH.hd{xs ys:List KI}(h:JH (x::xs) (y::ys)):JH [x] [y]/\JH xs ys:=by
 cases x<;>cases y
 .exact⟨trivial,h⟩
 .exact h.elim
 .exact h.elim
 .exact⟨trivial,h⟩
theorem JH.len:∀{xs ys:List KI},JH xs ys->xs.length=ys.length
 |[],[],_=>rfl
 |[],_::_,h=>by cases h
 |x::xs,[],h=>by cases x<;>cases h
 |x::xs,y::ys,h=>by rw[M1,M1,JH.len h.hd.2]
theorem Bv{A:Around}(I:V2 X pins σ H s) (hu:A.units<cLine):∀{ks ms:List KI}{xs ys:List V}{us ws:List Value},JH ks ms->Paired (rL X.K H) ks xs->Paired (rL X.K H) ms ys->k4 xs us->k4 ys ws->HT.LtAsk A s false (us.zip ws) (bG ks ms)
 |[],[],_,_,_,_,_,.nil,.nil,.nil,.nil=>rfl
 |[],_::_,_,_,_,_,f,_,_,_,_=>by cases f
 |x::_,[],_,_,_,_,f,_,_,_,_=>by cases x<;>cases f
 |x::ks,y::ms,_,_,_,_,f,.cons h1 p1,.cons h2 p2,.cons r1 q1,.cons r2 q2=>by
  refine⟨decide (x=y),zbk I hu h1 h2 r1 r2 f.hd.1,λe=>?_,λe=>?_⟩
  .have e:=Y4 e;show HT.LtAsk A s false _ (if x=y then bG ks ms else IH x y);rw[K0 e];exact Bv I hu f.hd.2 p1 p2 q1 q2
  .have e:=w6 e;show HT.RcLt A s _ _ (if x=y then bG ks ms else IH x y);rw[D0 e];exact zbl I hu h1 h2 r1 r2 f.hd.1
theorem Nl{k m:List KI}{E:Value->Shared->Prop}{Q:Value->Shared->Prop}(I:V2 X pins σ H s) (hu:A.units+1<cLine) (f:JH k m) (h1:zC X.K H k v) (h2:zC X.K H m v') (r:R4 v u) (r':R4 v' u') (h:Q (.bool (bG k m)) s) :
  wpAny (model X.prog X.w) A (compareOp .Lt u u') Q E s:=by
 obtain⟨t,xs,rfl,s1,p1⟩:=h1;obtain⟨t',ys,rfl,s2,p2⟩:=h2;cases r;cases r';obtain⟨its,q1,z1,_⟩:=I.tuple s1;obtain⟨IK,q2,z2,_⟩:=I.tuple s2;have e:decide (its.toArray.size<IK.toArray.size)=false:=by
  rw[J1,J1,<-q1.length,<-q2.length,<-K1 p1,<-K1 p2,f.len];exact Y0 (B5 _)
 refine HT.lt_tupAsk z1 z2 ?_ (by lia) h;rw[e];exact Bv (A:=A.in1) I (by show A.units+1<cLine;exact hu) f p1 p2 q1 q2
inductive ze0(K:Frag)(x:V)(y:V)(H:Hp)(Q:VK):Prop
 |mk (k m:_):JH k m->zC K H k x->zC K H m y->Q (.bl (bG k m)) H->ze0 K x y H Q
end
theorem zcQ(hu:X.A.units+64<cLine):kJ X (compareOp .Lt) (ze0 X.K):=by
 intro pins s σ H x y v u Q I rx ry h;obtain⟨k,m,f,h1,h2,q⟩:=h;exact Nl I (by lia) f h1 h2 rx ry ⟨.bl (bG k m),H,I,rfl,q⟩
end L2
namespace HT
theorem lexLt_irr:∀a:List Int,lexLt a a=false
 |[]=>rfl
 |x::a=>by rw[lexLt_cons,K0 rfl,lexLt_irr a]
theorem lexLt_tr:∀{a b c:List Int},lexLt a b=true->lexLt b c=true->lexLt a c=true
 |[],[],_,h,_=>by cases h
 |[],_::_,[],_,h=>by cases h
 |[],_::_,_::_,_,_=>rfl
 |_::_,[],_,h,_=>by cases h
 |_::_,_::_,[],_,h=>by cases h
 |x::a,y::b,z::c,h1,h2=>by
  rw[lexLt_cons]at h1 h2 ⊢;by_cases e1:x=y
  .subst e1;rw[K0 rfl]at h1;by_cases e2:x=z
   .subst e2;rw[K0 rfl]at h2 ⊢;exact lexLt_tr h1 h2
   .rw[D0 e2]at h2 ⊢;exact h2
  .rw[D0 e1,P0]at h1;by_cases e2:y=z
   .subst e2;rw[D0 e1,P0];exact h1
   .rw[D0 e2,P0]at h2;rw[D0 (by lia),P0]
    lia
theorem lexLt_neg:∀{a b c:List Int},lexLt a c=true->lexLt a b=true\/lexLt b c=true
 |[],[],_,h=>.inr h
 |[],_::_,_,_=>.inl rfl
 |_::_,_,[],h=>by cases h
 |_::_,[],_::_,_=>.inr rfl
 |x::a,y::b,z::c,h=>by
  rw[lexLt_cons]at h ⊢;rw[lexLt_cons];by_cases e:x=z
  .subst e;rw[K0 rfl]at h;by_cases e1:x=y
   .subst e1;rw[K0 rfl,K0 rfl];exact lexLt_neg h
   .rw[D0 e1,D0 (λq=>e1 q.symm),P0,P0]
    lia
  .rw[D0 e,P0]at h;by_cases e1:x=y
   .subst e1;right;rw[D0 e,P0];exact h
   .rw[D0 e1,P0];by_cases e2:y=z
    .subst e2;left
     lia
    .rw[D0 e2,P0]
     lia
end HT
namespace L2
open PySem PySem.Spec PyProof.Rows
theorem Cv(a:KI):IH a a=false:=by
 cases a with
 |inl i=>exact Y0 (Int.lt_irrefl i)
 |inr a=>exact HT.lexLt_irr a
theorem zak{a b c:KI}(h1:IH a b=true) (h2:IH b c=true):IH a c=true:=by
 cases a<;>cases b<;>cases c<;>first|cases h1|cases h2|skip
 .have h1:=Y4 h1;have h2:=Y4 h2;exact F1 (by lia)
 .exact HT.lexLt_tr h1 h2
theorem Dv:∀{a b c:KI},JH [a] [b]->IH a c=true->IH a b=true\/IH b c=true
 |.inl i,.inl j,.inl k,_,h=>by
  have h:=Y4 h;by_cases q:i<j
  .exact .inl (F1 q)
  .exact .inr (F1 (by lia))
 |.inr _,.inr _,.inr _,_,h=>HT.lexLt_neg h
 |.inl _,.inr _,_,f,_=>f.elim
 |.inr _,.inl _,_,f,_=>f.elim
 |.inl _,.inl _,.inr _,_,h=>by cases h
 |.inr _,.inr _,.inl _,_,h=>by cases h
theorem nS:∀a:List KI,bG a a=false
 |[]=>rfl
 |x::a=>by
  show(if x=x then bG a a else IH x x)=false;rw[K0 rfl,nS a]
theorem Ih:∀{a b c:List KI},bG a b=true->bG b c=true->bG a c=true
 |[],[],_,h,_=>by cases h
 |[],_::_,[],_,h=>by cases h
 |[],_::_,_::_,_,_=>rfl
 |_::_,[],_,h,_=>by cases h
 |_::_,_::_,[],_,h=>by cases h
 |x::a,y::b,z::c,h1,h2=>by
  have h1:(if x=y then bG a b else IH x y)=true:=h1;have h2:(if y=z then bG b c else IH y z)=true:=h2;show(if x=z then bG a c else IH x z)=true;by_cases e1:x=y
  .subst e1;rw[K0 rfl]at h1;by_cases e2:x=z
   .subst e2;rw[K0 rfl]at h2 ⊢;exact Ih h1 h2
   .rw[D0 e2]at h2 ⊢;exact h2
  .rw[D0 e1]at h1;by_cases e2:y=z
   .subst e2;rw[D0 e1];exact h1
   .rw[D0 e2]at h2;have h3:=zak h1 h2;rw[D0 (λq=>by rw[q,Cv]at h3;cases h3)];exact h3
theorem Ol:∀{a b c:List KI},JH a b->JH a c->bG a c=true->bG a b=true\/bG b c=true
 |[],[],_,_,_,h=>.inr h
 |[],_::_,_,f,_,_=>by cases f
 |x::_,[],_,f,_,_=>by cases x<;>cases f
 |x::_,_::_,[],_,f,_=>by cases x<;>cases f
 |x::a,y::b,z::c,f,g,h=>by
  have h:(if x=z then bG a c else IH x z)=true:=h;show(if x=y then bG a b else IH x y)=true\/(if y=z then bG b c else IH y z)=true;by_cases e:x=z
  .subst e;rw[K0 rfl]at h;by_cases e1:x=y
   .subst e1;rw[K0 rfl,K0 rfl];exact Ol f.hd.2 g.hd.2 h
   .rw[D0 e1,D0 (λq=>e1 q.symm)];exact ki_tot f.hd.1 e1
  .rw[D0 e]at h;by_cases e1:x=y
   .subst e1;right;rw[D0 e];exact h
   .rw[D0 e1];by_cases e2:y=z
    .subst e2;left;exact h
    .rw[D0 e2];exact Dv f.hd.1 h
where
 ki_tot {x y:KI} (f:JH [x] [y]) (e:¬x=y):IH x y=true\/IH y x=true:=by
  cases x<;>cases y<;>first|exact f.elim|skip
  .rename_i i j;have:i≠j:=λq=>e (by rw[q]);by_cases q:i<j
   .exact .inl (F1 q)
   .exact .inr (F1 (by lia))
  .rename_i a b;exact lx a b λq=>e (by rw[q])
 lx:∀a b:List Int,a≠b->HT.lexLt a b=true\/HT.lexLt b a=true
  |[],[],h=>absurd rfl h
  |[],_::_,_=>.inl rfl
  |_::_,[],_=>.inr rfl
  |x::a,y::b,h=>by
   rw[HT.lexLt_cons,HT.lexLt_cons];by_cases e:x=y
   .subst e;rw[K0 rfl,K0 rfl];exact lx a b λq=>h (by rw[q])
   .rw[D0 e,D0 (λq=>e q.symm),P0,P0]
    lia
end L2
namespace L2
open PySem PySem.Spec PyProof.Rows
variable {A:Around}{Q:Bool->Shared->Prop}{m:List KI}{v:V}{E:Value->Shared->Prop}
section
variable {X:Cx}{pins:List (Addr×Obj)}{σ:St}{H:Hp}{s:Shared}
theorem zcR{x y:KI}(I:V2 X pins σ H s) (h1:rL X.K H x v) (h2:rL X.K H y v):x=y:=by
 cases x with
 |inl i=>
  cases y with
  |inl j=>
   have h1:v=.int i:=h1;have h2:v=.int j:=h2;rw[h1]at h2;rw[V.int.inj h2]
  |inr b=>
   have h1:v=.int i:=h1;obtain⟨r,e,_⟩:=h2;rw[h1]at e;cases e
 |inr a=>
  obtain⟨r,e,q1⟩:=h1;cases y with
  |inl j=>
   have h2:v=.int j:=h2;rw[e]at h2;cases h2
  |inr b=>
   obtain⟨r2,e2,q2⟩:=h2;rw[e]at e2;cases e2;have z:=I.tuple_inj q1 q2;rw[eD (λ_ _ q=>V.int.inj q)]at z;rw[z]
theorem Pl:∀{xs ys:List KI}{vs:List V},V2 X pins σ H s->Paired (rL X.K H) xs vs->Paired (rL X.K H) ys vs->xs=ys
 |_,_,_,_,.nil,.nil=>rfl
 |_,_,_,I,.cons h1 p1,.cons h2 p2=>by rw[zcR I h1 h2,Pl I p1 p2]
theorem zcS{k:List KI}(I:V2 X pins σ H s) (h1:zC X.K H k v) (h2:zC X.K H m v):k=m:=by
 obtain⟨t,xs,e,s1,p1⟩:=h1;obtain⟨t2,ys,e2,s2,p2⟩:=h2;rw[e]at e2;cases e2;obtain rfl:=I.tuple_inj s1 s2;exact Pl I p1 p2
theorem Ev{A:Around}{Q:Bool->Shared->Prop}(I:V2 X pins σ H s) (hu:A.units<cLine):∀{ks ms:List KI}{xs ys:List V}{us ws:List Value}{i:Nat},JH ks ms->Paired (rL X.K H) ks xs->Paired (rL X.K H) ms ys->k4 xs us->k4 ys ws->(i=0->∀a b,ks.head?=some a->ms.head?=some b->∃n m,a=.inl n/\b=.inl m)->
  Q (bG ks ms) s->PySem.W.KatLex X.prog X.w A true false Q (us.zip ws) i s
 |[],[],_,_,_,_,_,_,.nil,.nil,.nil,.nil,_,h=>PySem.W.kat_nil h
 |[],_::_,_,_,_,_,_,f,_,_,_,_,_,_=>by cases f
 |x::_,[],_,_,_,_,_,f,_,_,_,_,_,_=>by cases x<;>cases f
 |x::ks,y::ms,_,_,_,_,i,f,.cons h1 p1,.cons h2 p2,.cons r1 q1,.cons r2 q2,hd,h=>by
  refine PySem.W.kat_cons (zbk I hu h1 h2 r1 r2 f.hd.1 X.prog X.w _ _ ?_);have h:Q (if x=y then bG ks ms else IH x y) s:=h;refine PySem.W.kat_go (λe=>PySem.W.kat_yes ?_) (λe=>PySem.W.kat_no ?_)
  .rw[K0 (Y4 e)]at h;exact Ev I hu f.hd.2 p1 p2 q1 q2 (λz=>by lia) h
  .rw[D0 (w6 e)]at h;by_cases c:i=0
   .obtain⟨n,m,rfl,rfl⟩:=hd c x y rfl rfl;cases h1;cases h2;obtain⟨t,rfl⟩:=r1;obtain⟨t',rfl⟩:=r2;rw[c];exact oneLt_int h
   .rw[show(true&&i==0)=false by simpa using c];refine PySem.W.kat_one _ _ ?_;exact zbl I hu h1 h2 r1 r2 f.hd.1 X.prog X.w _ _ h
theorem Fv{k:List KI}{v':V}{u u':Value}(I:V2 X pins σ H s) (hu:A.units<cLine) (f:JH k m) (hk:∃n r,k=.inl n::r) (hm:∃n r,m=.inl n::r) (h1:zC X.K H k v) (h2:zC X.K H m v') (r:R4 v u) (r':R4 v' u') (h:Q (bG k m) s) :
  wpAny (model X.prog X.w) A (keyLt' (tuples' true) u u') Q E s:=by
 obtain⟨t,xs,rfl,s1,p1⟩:=h1;obtain⟨t',ys,rfl,s2,p2⟩:=h2;cases r;cases r';obtain⟨its,q1,⟨o1,a1,b1,n1,c1⟩,_⟩:=I.tuple s1;obtain⟨IK,q2,⟨o2,a2,b2,n2,c2⟩,_⟩:=I.tuple s2;have e:decide (its.toArray.size<IK.toArray.size)=false:=by
  rw[J1,J1,<-q1.length,<-q2.length,<-K1 p1,<-K1 p2,f.len];exact Y0 (B5 _)
 refine PySem.W.kat_lt a1 c1 a2 c2 ?_;rw[e];refine Ev I hu f p1 p2 q1 q2 (λ_ a b ha hb=>?_) h;obtain⟨n,rr,rfl⟩:=hk;obtain⟨m',rr',rfl⟩:=hm;exact⟨n,m',(J0 ha).symm,(J0 hb).symm⟩
theorem Ql(I:V2 X pins σ H s):∀{ks:List (List KI)}{vs:List V}{us:List Value},(∀k∈ks,∃n r,k=(.inl n::r:List KI))->Paired (zC X.K H) ks vs->k4 vs us->∃fs,fs.length=us.length/\KatTups s.heap us fs/\∀f∈fs,∃n t,f=Value.int n t
 |[],_,_,_,.nil,.nil=>⟨[],rfl,KatTups.nil,(λf h=>nomatch h)⟩
 |k::ks,_,_,hk,.cons h p,.cons r q=>by
  obtain⟨fs,l,kt,ff⟩:=Ql I (λk jZ=>hk k (by simp[jZ])) p q;obtain⟨n,rr,rfl⟩:=hk k (by simp);obtain⟨t,xs,rfl,s1,p1⟩:=h;cases r;obtain⟨its,q1,⟨o1,a1,b1,n1,c1⟩,_⟩:=I.tuple s1;cases p1 with
  |cons h0 p1=>
   cases h0;cases q1 with
   |cons r0 q1=>
    obtain⟨t0,rfl⟩:=r0;exact⟨Value.int n t0::fs,by rw[M1,M1,l],KatTups.cons a1 b1 c1 (by simp) kt,λf hf=>by
     rcases S1.mp hf with rfl|m
     .exact⟨n,t0,rfl⟩
     .exact ff f m⟩
theorem zal{ks:List (List KI)}{vs:List V}{us:List Value}{Q:SortKind->Shared->Prop}(I:V2 X pins σ H s) (hk:∀k∈ks,∃n r,k=(.inl n::r:List KI)) (p:Paired (zC X.K H) ks vs) (r:k4 vs us) (h0:0<us.length) (h:Q (tuples' true) s) :
  wpAny (model X.prog X.w) A (keyKind' us.toArray) Q E s:=by
 obtain⟨fs,l,kt,ff⟩:=Ql I hk p r;refine PySem.W.kat_kind (T:=Value.type "int") kt (by lia) (λv hv=>?_) rfl (by rw[show(Value.type "int"!=Value.type "tuple")=true by decide];exact h);obtain⟨n,t,rfl⟩:=ff v hv;exact oE rfl
end
end L2
namespace L2
open PySem PySem.Spec PyProof.Rows
variable {f:Addr}{cm:Bool}{CX:Pr}{X:Cx}{fd:FuncData}{H:Hp}{pins:List (Addr×Obj)}{s:Shared}{sp:Sp}{σ:St}{E:St->XK}{Q:VK}
section
variable {k:Nat}{ps:List Str}{A':Around}
theorem Rl{us:List Value}{vs:List V}(F:xA X.prog X.w X.K X.mg X.base CX cm k f fd ps sp) (hr:N8 cm k A') (hb:yB X.K fd ps []) (hx:uB CX (X.wish λ_ _=>False) E)
 (he:DS X.prog X.w X.K X.mg X.base A' X.stack s H) (I:V2 X pins σ H s) (r:k4 vs us) (h:sp vs H Q (E σ)):wpAny (model X.prog X.w) A' (call (.ref f) us) (EP X pins σ Q) (λ_ _=>False) s:=by
  have hl:us.length=ps.length:=by rw[<-r.length];exact F.len _ _ _ _ h
  have cP:=hb s us I.kIn (by rw[d3];exact hl);rw[d3]at cP;refine xE (dC (F.run A' X.stack s H ⟨us,[]⟩ us vs Q (E σ) hr he cP r h) λr s' hq=>?_);cases r with
  |error e=>exact hx pins σ H s e s' (I.wish _) hq
  |ok fl=>
   cases fl with
   |ret u=>exact I.after hq
   |next=>exact False.elim hq
   |brk=>exact False.elim hq
   |cont=>exact False.elim hq
end
theorem N8.two{k:Nat}{A:Around}(r:N8 cm (k+1) A):N8 cm k A.in1.in1:=⟨r.hd,by have:=r.dp;show A.depth+3*k+5<_;lia,by have:=r.un;show A.units+1+1+16*k+200<_;lia⟩
def Ob(K:Frag)(sp:Sp)(e:XK)(H:Hp)(ps:List Addr)(ky:List (List KI)):Prop:=ky.length=ps.length/\∀(i:Nat)(p:Addr)(m:List KI),ps[i]?=some p->ky[i]?=some m->∀H2:Hp,Same H H2->sp [.ref p] H2 (λv H3=>Same H2 H3/\zC K H3 m v) e
def Gv(ky:List (List KI)):Prop:=(∀k∈ky,∃n r,k=(.inl n::r:List KI))/\∀a∈ky,∀b∈ky,JH a b
section
variable {k:Nat}{pn:List Str}
open Classical in
noncomputable def FJ (K:Frag)(H:Hp)(u:Value):List KI:=if h:∃m v,R4 v u/\zC K H m v then choose h else[]
theorem tH{u:Value}{m:List KI}{v:V}(I:V2 X pins σ H s) (r:R4 v u) (h:zC X.K H m v):FJ X.K H u=m:=by
 unfold FJ;have hx:∃m v,R4 v u/\zC X.K H m v:=⟨m,v,r,h⟩
 rw[dif_pos hx];obtain⟨v',r',h'⟩:=Classical.choose_spec hx;obtain⟨t,xs,rfl,q⟩:=id h;obtain⟨t',xs',rfl,q'⟩:=id h';cases r;cases r';exact zcS I h' h
def Tr:Value->Addr
 |.ref p=>p
 |_=>0
theorem tY{α β:Type}{F:α->β->Prop}:∀{as:List α}{bs:List β}{i:Nat}{y:β},Paired F as bs->bs[i]?=some y->∃x,as[i]?=some x/\F x y
 |_,_,i,_,.nil,h=>by simp at h
 |_,_,0,_,.cons f _,h=>by
  obtain rfl:=J0 h;exact⟨_,rfl,f⟩
 |_,_,i+1,_,.cons _ p,h=>tY p (i:=i) (by simpa using h)
theorem FP{a:Addr}{o:HO}(h:H a=none):Same H (upd H a o):=λb u e=>by
 rw[M0 (λq=>by rw[q,h]at e;cases e)];exact e
theorem Jh{l:Addr}{ps:List Addr}{ky:List (List KI)}(F:xA X.prog X.w X.K X.mg X.base CX cm k f fd pn sp) (hr:N8 cm (k+1) X.A) (hb:yB X.K fd pn []) (hx:uB CX (X.wish λ_ _=>False) E)
 (I:V2 X pins σ H s) (hl:SqL X.K H l (ps.map V.ref)) (hk:Ob X.K sp (E σ) H ps ky) (hf:Gv ky)
 (h:∀(zs:List (Addr×List KI))(H':Hp)(p:Addr),(zs.map Prod.fst).Perm ps->(∀z∈zs,z∈ps.zip ky)->(zs.Pairwise λa b=>bG b.2 a.2=false)->Same H H'->H' p=some (.lst (zs.map λz=>V.ref z.1))->Q (.ref p) H') :
   wpAny (model X.prog X.w) X.A (call (.builtin "sorted") [.ref l] [(Str.ofString "key",.ref f)]) (EP X pins σ Q) X.xe s:=by
  obtain⟨its,rv,xH,hz⟩:=I.list hl;rw[B0]at hz;obtain rfl:=YL rv;have hZ:(ps.map Value.ref).length<=sizeLine:=by rw[B0];exact hz
  have hZ2:=hZ;rw[YE]at hZ2;refine call_function_entry_kw kind_sorted plain_sorted entry_sorted (ksk_s1 _ _) ?_;unfold Builtin.«sorted»;refine z0 (m:=checkCount "sorted" 1 1 _) (S0 ?_);refine z0 (collect_list xH.isList ?_ hZ);refine z0 (xM ?_ hZ);generalize RL:ps.map Value.ref=vs at *;have hsz:((s.heap.push (seqObj "list" #[] 0)).update s.heap.objs.size (Obj.mapSeq (·++vs.toArray))).objs.size=s.heap.objs.size+1:=by
   rw[Heap.size_update,size_push']
  have keep:∀b o,s.heap.get? b=some o->(((s.heap.push (seqObj "list" #[] 0)).update s.heap.objs.size (Obj.mapSeq (·++vs.toArray))).push (seqObj "list" vs.toArray 0)).get? b=some o:=λb o q=>by
   have UC:b<s.heap.objs.size:=F2 q;rw[Heap.get?_push_ne _ _ _ (by rw[hsz];exact j3 (HD UC)),AC _ _ _ _ (j3 UC),Heap.get?_push_ne _ _ _ (j3 UC)];exact q
  have hoL:(((s.heap.push (seqObj "list" #[] 0)).update s.heap.objs.size (Obj.mapSeq (·++vs.toArray))).push (seqObj "list" vs.toArray 0)).get? (s.heap.objs.size+1)=some (seqObj "list" vs.toArray 0):=by
   rw[<-hsz];exact X1 _ rfl
  show wpAny _ _ _ _ _ {s with heap:=((s.heap.push (seqObj "list" #[] 0)).update s.heap.objs.size (Obj.mapSeq (·++vs.toArray))).push (seqObj "list" vs.toArray 0)};rw[hsz];generalize ((s.heap.push (seqObj "list" #[] 0)).update s.heap.objs.size (Obj.mapSeq (·++vs.toArray))).push (seqObj "list" vs.toArray 0)=h1 at *;generalize hD:s.heap.objs.size+1=D at *;have hDs:s.heap.objs.size<=D:=by lia
  have hDt:s.heap.objs.size<D:=by lia
  have hDn:H D=none:=I.hok.fresh hDs;refine z0 (T5 (wpAny_call_entry_kw slot_list_sort ⟨_,hoL,rfl⟩ entry_list_sort ?body (ksk_l1 _ _)));show wpAny (model X.prog X.w) X.A.in1.in1 (Builtin.«list.sort» ⟨[.ref D],[(Str.ofString "key",.ref f)]⟩) _ _ _;rw[ksk_t1];unfold ksk_tree;obtain⟨e1,ho1⟩:∃e1,(h1.update D (Obj.mapSeq λ_=>(#[]:Array Value))).get? D=some (seqObj "list" #[] e1):=⟨_,get?_update_seq hoL λ_=>#[]⟩
  refine z0 (listItems_at hoL rfl ?_);refine z0 (KH hoL rfl ?_ (by rw[J1];exact hZ) (E1 _));refine z0 (seqEpoch_at ho1 rfl ?_);refine z0 (wpAny_newTuple ?_ hZ);refine z0 (xM ?_ (E1 _));refine T5 ?_;have zfG:∀b o,s.heap.get? b=some o->((h1.update D (Obj.mapSeq λ_=>(#[]:Array Value))).push (seqObj "tuple" vs.toArray 0)).get? b=some o:=λb o q=>by
   have UC:b<s.heap.objs.size:=F2 q;refine U0 _ ?_;rw[AC _ _ _ _ (j3 (ID UC hDt))];exact keep b o q
  have EX:((h1.update D (Obj.mapSeq λ_=>(#[]:Array Value))).push (seqObj "tuple" vs.toArray 0)).get? D=some (seqObj "list" #[] e1):=U0 _ ho1;have I1:V2 X pins σ (upd H D (.frz (seqObj "list" #[] e1) (.lst []))) {s with heap:=(h1.update D (Obj.mapSeq λ_=>(#[]:Array Value))).push (seqObj "tuple" vs.toArray 0)}:=
   I.laid (t':=s.toks) zfG hDs ⟨EX,E1 _,[],e1,.nil,EX⟩
  show wpAny (model X.prog X.w) X.A.in1.in1 (ksk_rest D (.ref f) false vs.toArray e1 (.ref ((h1.update D (Obj.mapSeq λ_=>(#[]:Array Value))).push (seqObj "tuple" vs.toArray 0)).objs.size)) _ _ {s with heap:=((h1.update D (Obj.mapSeq λ_=>(#[]:Array Value))).push (seqObj "tuple" vs.toArray 0)).push (seqObj "list" #[] 0)};generalize (h1.update D (Obj.mapSeq λ_=>(#[]:Array Value))).push (seqObj "tuple" vs.toArray 0)=h2 at *;have hDl:D<h2.objs.size:=F2 EX;have I2:V2 X pins σ (upd (upd H D (.frz (seqObj "list" #[] e1) (.lst []))) h2.objs.size (.lst [])) {s with heap:=h2.push (seqObj "list" #[] 0)}:=
   I1.laid (t':=s.toks) (λb o q=>U0 _ q) (j1 _) ⟨E1 _,[],0,.nil,X1 _ rfl⟩
  have hSn:upd H D (.frz (seqObj "list" #[] e1) (.lst [])) h2.objs.size=none:=I1.hok.fresh (j1 _);have hSH:H h2.objs.size=none:=by
   have z:=hSn;rw[M0 (a:=D) (PF hDl)]at z;exact z
  have hn0:∀o' u',X.H_0 D≠some (.frz o' u'):=λo' u' e=>by
   have z:=I.base.frzs D o' u' e;rw[hDn]at z;cases z
  generalize hS0:h2.objs.size=S at *;generalize h2.push (seqObj "list" #[] 0)=h3 at *;have hSD:S≠D:=PF hDl;have SH0:Same H (upd H D (.frz (seqObj "list" #[] e1) (.lst []))):=FP hDn;generalize hHb:upd H D (.frz (seqObj "list" #[] e1) (.lst []))=Hb at *;have hbD:Hb D=some (.frz (seqObj "list" #[] e1) (.lst [])):=by rw[<-hHb];exact C0
  have hu:X.A.in1.in1.units<cLine:=hr.two.units0;have vl:vs.length=ps.length:=by rw[<-RL,B0]
  have tail:∀(Hn:Hp)(s3:Shared)(kv:List V)(ks:List Value)(n3:Nat)(st:SortSt),V2 X pins σ Hn s3->Same Hb Hn->Hn S=some (.lst kv)->Paired (zC X.K Hn) ky kv->k4 kv ks->s3.heap.get? S=some (seqObj "list" ks.toArray n3)->
    failedOf st=none->((arrOf st).toList.map (·.2)).Perm ((ks.zip vs).map (·.2))->(∀x∈(arrOf st).toList,x∈ks.zip vs)->((arrOf st).toList.Pairwise λx y=>bG (FJ X.K Hn y.1) (FJ X.K Hn x.1)=false)->
    wpAny (model X.prog X.w) X.A.in1.in1 (ksk_tail D false e1 (.ref S) st) (λfin s'=>∃v,fin=.done (.ret v)/\wpAny (model X.prog X.w) X.A.in1 (ret (.ref D)) (λfin s'=>∃v,fin=.done (.ret v)/\EP X pins σ Q v s') X.xe s') X.xe s3:=by
   intro Hn s3 kv ks n3 st I3 sm hS pk rk hob hfl pm mem pw;have kl:ks.length=vs.length:=by rw[<-rk.length,<-K1 pk,hk.1,vl]
   have zfI:=sm _ _ hbD;obtain⟨hoD,_⟩:=I3.hok D _ zfI;have hzk:(ks.zip vs).map (·.2)=vs:=by
    rw[show((λx:Value×Value=>x.2))=Prod.snd from rfl,List.map_snd_zip (by lia)]
   rw[hzk]at pm;have zfJ:(arrOf st).toList.length=vs.length:=by
    have z:=pm.length_eq;rw[B0]at z;exact z
   unfold ksk_tail;dsimp only;refine z0 (KH hob rfl ?_ (by rw[J1,kl];exact hZ) (E1 _));refine z0 (uH ?_);have zdt:(s3.heap.update S (Obj.mapSeq λ_=>(#[]:Array Value))).get? D=some (seqObj "list" #[] e1):=by
    rw[AC _ _ _ _ hSD.symm];exact hoD
   refine z0 (seqEpoch_at zdt rfl ?_);refine z0 (KH zdt rfl ?_ (E1 _) ?_)
   .rw[hfl];simp only[MD,i3,l7];refine S0 ⟨_,rfl,S0 ⟨_,rfl,?_⟩⟩;have I4:V2 X pins σ (upd Hn S (.lst [])) {s3 with heap:=s3.heap.update S (Obj.mapSeq λ_=>(#[]:Array Value))}:=I3.lset (t':=s3.toks) (its':=[]) hS hob rfl .nil (E1 _);have Tx:upd Hn S (.lst []) D=some (.frz (seqObj "list" #[] e1) (.lst [])):=by rw[M0 hSD.symm];exact zfI
    have I5:=I4.unlock Tx hn0;have at_:∀x∈(arrOf st).toList,∃i p m v,ps[i]?=some p/\ky[i]?=some m/\kv[i]?=some v/\ks[i]?=some x.1/\x.2=.ref p/\zC X.K Hn m v/\R4 v x.1:=λx hx=>by
     obtain⟨i,hi,ex⟩:=j4.mp (mem x hx);rw[yF]at hi;have h1:i<ps.length:=by lia
     have h2:i<ks.length:=by lia
     have h3:i<ky.length:=by have:=hk.1;lia
     have h4:i<kv.length:=by rw[rk.length];exact h2
     rw[HI]at ex;have e1:ks[i]=x.1:=by rw[<-ex]
     have e2:vs[i]'(by lia)=x.2:=by rw[<-ex]
     obtain⟨m',Hy,ka⟩:=tY pk (O0 h4);obtain⟨u,hu',ru⟩:=rk.get (O0 h4);rw[O0 h2,e1]at hu';obtain rfl:=J0 hu';refine⟨i,ps[i],m',kv[i],O0 h1,Hy,O0 h4,by rw[O0 h2,e1],?_,ka,ru⟩;rw[<-e2];simp only[<-RL,U5]
    have I6:V2 X pins σ (upd (upd (upd Hn S (.lst [])) D (.lst [])) D (.lst (((arrOf st).toList.map λx=>(Tr x.2,FJ X.K Hn x.1)).map λz=>V.ref z.1))) {s3 with heap:=(s3.heap.update S (Obj.mapSeq λ_=>(#[]:Array Value))).update D (Obj.mapSeq λ_=>(arrOf st).map (·.2))}:=
     I5.lset (t':=s3.toks) (its:=[]) (its':=(arrOf st).toList.map (·.2)) C0 zdt (by rw[<-JA]) ?_ ?_
    .refine⟨.ref D,_,I6,rfl,h ((arrOf st).toList.map λx=>(Tr x.2,FJ X.K Hn x.1)) _ D ?_ ?_ ?_ ?_ C0⟩
     .rw[B3];have z:=pm.map Tr;rw[B3,<-RL,B3]at z;have e:ps.map (Tr ∘ Value.ref)=ps:=by
       rw[show(Tr ∘ Value.ref)=id from rfl,List.map_id]
      rw[e]at z;exact z
     .intro z hz';obtain⟨x,Bs,rfl⟩:=S2.mp hz';obtain⟨i,p,m,v,a1,a2,a3,a4,a5,a6,a7⟩:=at_ x Bs;rw[tH I3 a7 a6,a5];show(p,m)∈ps.zip ky;exact N1 (i:=i) (by rw[List.getElem?_zip_eq_some];exact⟨a1,a2⟩)
     .rw[List.pairwise_map];exact pw
     .intro b o e;have b1:b≠D:=λq=>by rw[q,hDn]at e;cases e
      have b2:b≠S:=λq=>by rw[q,hSH]at e;cases e
      rw[M0 b1,M0 b1,M0 b2];exact sm _ _ (SH0 _ _ e)
    .rw[B3];have aux:∀l:List Keyed,(∀x∈l,x∈(arrOf st).toList)->k4 (l.map ((λz:Addr×List KI=>V.ref z.1) ∘ λx=>(Tr x.2,FJ X.K Hn x.1))) (l.map (·.2)):=λl=>by
      induction l with
      |nil=>intro _;exact .nil
      |cons x l ih=>
       intro hl;refine .cons ?_ (ih λy hy=>hl y (by simp[hy]));obtain⟨i,p,m,v,a1,a2,a3,a4,a5,a6,a7⟩:=at_ x (hl x (by simp));show R4 (.ref (Tr x.2)) x.2;rw[a5];rfl
     exact aux _ λ_ h=>h
    .rw[B0,B0,zfJ];exact hZ
   .simp only[i3,l7,AG];have:(arrOf st).size=vs.length:=by rw[<-zfJ,IF]
    rw[this]
    lia
  have zl:∀ks:List Value,(ks.toArray.zip vs.toArray).toList=ks.zip vs:=λks=>by
   have z:=ksk_zip ks.toArray vs;simpa using z
  have fin:∀(Hn:Hp)(s3:Shared)(kv:List V)(ks:List Value)(n3:Nat),V2 X pins σ Hn s3->Same Hb Hn->Hn S=some (.lst kv)->Paired (zC X.K Hn) ky kv->k4 kv ks->s3.heap.get? S=some (seqObj "list" ks.toArray n3)->
    wpAny (model X.prog X.w) X.A.in1.in1 (ksk_end D false vs.toArray e1 (.ref S) ks.toArray) (λfin s'=>∃v,fin=.done (.ret v)/\wpAny (model X.prog X.w) X.A.in1 (ret (.ref D)) (λfin s'=>∃v,fin=.done (.ret v)/\EP X pins σ Q v s') X.xe s') X.xe s3:=by
   intro Hn s3 kv ks n3 I3 sm hS pk rk hob;have kl:ks.length=vs.length:=by rw[<-rk.length,<-K1 pk,hk.1,vl]
   have iV:∀x∈ks.zip vs,∃m v,m∈ky/\zC X.K Hn m v/\R4 v x.1:=λx hx=>by
    obtain⟨i,hi,ex⟩:=j4.mp hx;rw[yF]at hi;have h2:i<ks.length:=by lia
    have h4:i<kv.length:=by rw[rk.length];exact h2
    rw[HI]at ex;obtain⟨m',Hy,ka⟩:=tY pk (O0 h4);obtain⟨u,hu',ru⟩:=rk.get (O0 h4);rw[O0 h2]at hu';obtain rfl:=J0 hu';exact⟨m',kv[i],N1 Hy,ka,by rw[<-ex];exact ru⟩
   unfold ksk_end;dsimp only;rw[D0 T1];by_cases h2:vs.toArray.size<2
   .rw[K0 h2,K0 h2];refine z0 (S0 ?_);rw[StateT.run_pure];refine z0 (S0 ?_);dsimp only;rw[D0 T1];refine tail Hn s3 kv ks n3 (SortSt.mk' general' (ks.toArray.zip vs.toArray) #[] 7 none) I3 sm hS pk rk hob rfl ?_ ?_ ?_
    .show((ks.toArray.zip vs.toArray).toList.map _).Perm _;rw[zl]
    .intro x hx;have hx:x∈(ks.toArray.zip vs.toArray).toList:=hx;rw[zl]at hx;exact hx
    .show(ks.toArray.zip vs.toArray).toList.Pairwise _;rw[zl];rw[J1]at h2
     match hq:ks.zip vs with
     |[]=>exact .nil
     |[_]=>exact List.pairwise_singleton _ _
     |a::b::r=>
      have z:=P7 List.length hq;rw[yF,M1,M1]at z
      lia
   .rw[D0 h2,D0 h2];rw[J1]at h2;refine z0 (zal I3 hf.1 pk rk (by lia) ?_);rw[D0 T1];have O:Srt.Ord (λx y=>bG (FJ X.K Hn x.1) (FJ X.K Hn y.1)) (ks.toArray.zip vs.toArray).toList:=by
     rw[zl];refine⟨λx _=>nS _,λx _ y _ z _ h1 h2=>Ih h1 h2,λx hx y hy z hz q=>?_⟩;obtain⟨m1,v1,k1,a1,r1⟩:=iV x hx;obtain⟨m2,v2,k2,a2,r2⟩:=iV y hy;obtain⟨m3,v3,k3,a3,r3⟩:=iV z hz;have q:bG (FJ X.K Hn x.1) (FJ X.K Hn z.1)=true:=q;show bG (FJ X.K Hn x.1) (FJ X.K Hn y.1)=true\/bG (FJ X.K Hn y.1) (FJ X.K Hn z.1)=true;rw[tH I3 r1 a1,tH I3 r3 a3]at q;rw[tH I3 r1 a1,tH I3 r2 a2,tH I3 r3 a3];exact Ol (hf.2 _ k1 _ k2) (hf.2 _ k1 _ k3) q
    refine z0 (L5 (Srt.sort_at (Q:=λ_ jA=>((arrOf jA).toList.map (·.2)).Perm ((ks.toArray.zip vs.toArray).toList.map (·.2))/\(∀x∈(arrOf jA).toList,x∈(ks.toArray.zip vs.toArray).toList)/\failedOf jA=none/\((arrOf jA).toList.Pairwise λx y=>bG (FJ X.K Hn y.1) (FJ X.K Hn x.1)=false)) O (λx hx y hy E' Q' q=>?_) ?_ λjA a b c d=>⟨a,b,c,d⟩) ?_ λ_ _ x=>x)
    .rw[zl]at hx hy;obtain⟨m1,v1,k1,a1,r1⟩:=iV x hx;obtain⟨m2,v2,k2,a2,r2⟩:=iV y hy;have q:Q' (bG (FJ X.K Hn x.1) (FJ X.K Hn y.1)) s3:=q;rw[tH I3 r1 a1,tH I3 r2 a2]at q;exact Fv I3 hu (hf.2 _ k1 _ k2) (hf.1 _ k1) (hf.1 _ k2) a1 a2 r1 r2 q
    .rw[Array.size_zip,J1,J1]
     lia
    .rintro⟨⟨⟩,jA⟩ s' ⟨rfl,p1,p2,p3,p4⟩;rw[zl]at p1 p2;exact tail Hn s' kv ks n3 jA I3 sm hS pk rk hob p3 p1 p2 p4
  unfold ksk_rest;refine z0 (MM ?_)
  first
   |rw[List.forIn_toArray]
   |(rw[<-Array.forIn_toList];simp only[List.toList_toArray])
   |rw[<-Array.forIn_toList]
  refine z0 (ksk_fold (λi s'=>∃(Hn:Hp)(kv:List V),V2 X pins σ Hn s'/\Same Hb Hn/\Hn S=some (.lst kv)/\Paired (zC X.K Hn) (ky.take i) kv) vs 0 {s with heap:=h3} ⟨_,[],I2,FP hSn,C0,.nil⟩ ?step ?done)
  case step=>
   rintro j x s' Bs ⟨Hn,kv,I3,sm,hS,pk⟩;simp only[bB]at pk ⊢;have hj:j<vs.length:=(N0.mp Bs).1;obtain⟨p,hp⟩:∃p,ps[j]?=some p:=⟨_,O0 (by lia)⟩
   obtain⟨m,hm⟩:∃m,ky[j]?=some m:=⟨_,O0 (by have:=hk.1;lia)⟩
   obtain rfl:x=.ref p:=by
    rw[<-RL,P1,hp]at Bs;exact(J0 Bs).symm
   refine z0 (CH (L5 (Rl F hr.two hb hx I3.env0.in1.in1 I3 (vs:=[.ref p]) (.cons rfl .nil) (hk.2 j p m hp hm Hn (SH0.trans sm))) (λu s'' he=>?_) λ_ _ hF=>hF.elim));obtain⟨v,H3,I4,rv4,sm4,ka⟩:=he;have hS4:=sm4 _ _ hS;obtain⟨z4,zig,n4,r4,l4,e4⟩:=I4.lstM hS4;have kvl:kv.length<=j:=by
    rw[<-K1 pk,Z1]
    lia
   try dsimp only
   refine z0 (KH e4 rfl ?_ (by rw[J1];lia) (d4 (cC (Array.size_push ..)) (by rw[J1];lia)));refine S0 ⟨rfl,upd H3 S (.lst (kv++[v])),kv++[v],I4.lset (t':=s''.toks) (its':=zig++[u]) hS4 e4 (by simp) (r4.append (.cons rv4 .nil)) (by rw[Y1,m8];lia),?_,C0,?_⟩
   .intro b o e;rw[M0 (λq=>by rw[q,hSn]at e;cases e)];exact sm4 _ _ (sm _ _ e)
   .have ek:ky.take (j+1)=ky.take j++[m]:=by rw[List.take_add_one,hm];rfl
    rw[ek];have nt:∀{b:Addr}{xs:List V},S9 X.K H3 b xs->S9 X.K (upd H3 S (.lst (kv++[v]))) b xs:=λq=>by
     rcases q with q|q
     .rcases q with q|⟨o,q⟩
      .exact .inl (.inl (by rw[M0 (λz=>by rw[z,hS4]at q;cases q)];exact q))
      .exact .inl (.inr ⟨o,by rw[M0 (λz=>by rw[z,hS4]at q;cases q)];exact q⟩)
     .exact .inr q
    have kt:∀(a:List KI)(b:V),zC X.K H3 a b->zC X.K (upd H3 S (.lst (kv++[v]))) a b:=λa b ⟨t,xs,e,q1,q2⟩=>⟨t,xs,e,nt q1,Paired.mapP q2 λc d q=>by
     cases c with
     |inl i=>exact q
     |inr ns=>obtain⟨r,e,q⟩:=q;exact⟨r,e,nt q⟩⟩
    exact K4 (Paired.mapP pk λa b q=>kt a b (zC.same sm4 q)) (kt m v ka)
  case done=>
   rintro s' ⟨Hn,kv,I3,sm,hS,pk⟩;rw[bB,qJ (by have:=hk.1;lia)]at pk;obtain⟨z3,zdu,n3,r3,l3,e3⟩:=I3.lstM hS;refine z0 (listItems_at e3 rfl ?_);exact fin Hn s' kv zdu n3 I3 sm hS pk r3 e3
end
end L2
namespace L2
open PySem PySem.Spec PyProof.Rows
variable {f S l:Addr}{cm:Bool}{CX:Pr}{X:Cx}{e:Expr}{fd:FuncData}{H H3:Hp}{pins:List (Addr×Obj)}{ky:List (List KI)}{ps:List Addr}{pn:List Str}{ys zs:List V}{K:Frag}{s:Shared}{sp:Sp}{σ:St}{E:St->XK}
theorem zcT(a v d:Value):argsOk "min" ⟨[a],[(Str.ofString "key",v),(Str.ofString "default",d)]⟩:=by unfold argsOk;kernel_rfl
section
variable {k:Nat}
def zhw(K:Frag)(ps:List Addr)(ky:List (List KI))(Hn:Hp)(S:Addr)(j:Nat):Option Nat->Prop
 |none=>j=0/\Hn S=some (.lst [])
 |some i=>i<j/\∃p m v,ps[i]?=some p/\ky[i]?=some m/\zC K Hn m v/\Hn S=some (.lst [.ref p,v])/\∀(i':Nat)(m':List KI),i'<j->ky[i']?=some m'->bG m' m=false
theorem zF{b:Addr}{xs:List V}(hS:H3 S=some (.lst ys)) (q:S9 K H3 b xs):S9 K (upd H3 S (.lst zs)) b xs:=by
 rcases q with q|q
 .rcases q with q|⟨o,q⟩
  .exact .inl (.inl (by rw[M0 (λz=>by rw[z,hS]at q;cases q)];exact q))
  .exact .inl (.inr ⟨o,by rw[M0 (λz=>by rw[z,hS]at q;cases q)];exact q⟩)
 .exact .inr q
theorem zcU{a:List KI}{b:V}(hS:H3 S=some (.lst ys)):zC K H3 a b->zC K (upd H3 S (.lst zs)) a b:=λ⟨t,xs,e,q1,q2⟩=>⟨t,xs,e,zF hS q1,Paired.mapP q2 λc d q=>by
 cases c with
 |inl i=>exact q
 |inr ns=>obtain⟨r,e,q⟩:=q;exact⟨r,e,zF hS q⟩⟩
theorem Hv{It:Addr}{R:Result->Shared->Prop}{dv:Value}(F:xA X.prog X.w X.K X.mg X.base CX cm k f fd pn sp) (hr:N8 cm (k+1) X.A) (hh:X.A.handled=none) (hb:yB X.K fd pn []) (hx:uB CX (X.wish λ_ _=>False) E)
 (hk:Ob X.K sp (E σ) H ps ky) (hf:Gv ky) (hlI:l≠It) (hSH:H S=none) (hl:SqL X.K H l (ps.map V.ref))
 (hR:∀(i:Nat)(p:Addr)(m:List KI)(H':Hp)(s':Shared),ps[i]?=some p->ky[i]?=some m->(∀(i':Nat)(m':List KI),ky[i']?=some m'->bG m' m=false)->Same H H'->V2 X pins σ H' s'->R (.ok (.ret (.ref p))) s')
 (hN:ps=[]->∀(H':Hp)(s':Shared),Same H H'->V2 X pins σ H' s'->R (.ok (.ret dv)) s') :
   ∀(r j:Nat)(b:Option Nat)(s:Shared)(Hn:Hp),ps.length-j=r->j<=ps.length->V2 X pins σ Hn s->Same H Hn->OK X pins Hn It->s.heap.IsListIter It l j->zhw X.K ps ky Hn S j b->
    codeAny (model X.prog X.w) X.A (.builtin "min.loop" ⟨[.ref It,.ref f,.ref S],[(Str.ofString "default",dv)]⟩) R s:=by
  have Cf:(toString "min" ++ toString ".loop": String) = "min.loop":= by decide
  have vl:(ps.map Value.ref).toArray.size=ps.length:=by rw[J1,B0]
  have W:=Walks.list (prog:=X.prog) (w:=X.w) (A:=X.A.in1) hh It l hlI (ps.map Value.ref).toArray;intro r
  induction r with
  |zero=>
   intro j b s Hn YJ hj I sm fp dJ cP;have hin:j=ps.length:=by lia
   obtain⟨its,rv,xH,hz⟩:=I.list (sm.seq hl);obtain rfl:=YL rv;cases b with
   |none=>
    obtain⟨j0,hS⟩:=cP;obtain⟨z,its,n,rr,ll,e⟩:=I.lstM hS;cases rr;refine nF VD ?_;rw[eF N6 _];show wpAny _ X.A.in1 (seqItems? (.ref S)>>=_) _ _ _;refine z0 (IB e rfl ?_);show wpAny _ X.A.in1 (tryCatch (pyNext (.ref It)) _>>=_) _ _ _;refine z0 (NB (W.done _ _ _ ⟨by rw[vl,<-hin];exact dJ,xH.isList⟩ λh' Cs jZ=>?_));have I1:V2 X pins σ Hn {s with heap:=h',toks:=Cs}:=I.turnedL (ch:=[It]) jZ (λb hb=>by rw[Q1.mp hb];exact fp);refine z0 (MM (S0 ?_));exact hN (X3.mp (by lia)) Hn _ sm I1
   |some i=>
    obtain⟨ij,p,m,v,hp,hm,ka,hS,no⟩:=cP;obtain⟨z,its,n,rr,ll,e⟩:=I.lstM hS;cases rr with
    |cons r1 rr=>
     cases rr with
     |cons r2 rr=>
      cases rr;cases r1;refine nF VD ?_;rw[eF N6 _];show wpAny _ X.A.in1 (seqItems? (.ref S)>>=_) _ _ _;refine z0 (IB e rfl ?_);show wpAny _ X.A.in1 (tryCatch (pyNext (.ref It)) _>>=_) _ _ _;refine z0 (NB (W.done _ _ _ ⟨by rw[vl,<-hin];exact dJ,xH.isList⟩ λh' Cs jZ=>?_));have I1:V2 X pins σ Hn {s with heap:=h',toks:=Cs}:=I.turnedL (ch:=[It]) jZ (λb hb=>by rw[Q1.mp hb];exact fp);have hSI:S≠It:=λq=>by have:=fp.1;rw[<-q,hS]at this;cases this
      have e2:=jZ S _ (by simpa using hSI) e;show wpAny _ X.A.in1 (updateSeq S (λ_=>#[])>>=_) _ _ _;refine z0 ?_;refine fK e2 rfl (z0 (uH (S0 ?_)));have I2:=I1.lset (t':=Cs) (its':=[]) (ys:=[]) (f:=λ_=>#[]) hS e2 rfl .nil (E1 _);refine hR i p m _ _ hp hm (λi' m' h'=>no i' m' ?_ h') ?_ I2
      .have:=(N0.mp h').1;have:=hk.1
       lia
      .intro b o q;rw[M0 (λz=>by rw[z,hSH]at q;cases q)];exact sm _ _ q
  |succ r ih=>
   intro j b s Hn YJ hj I sm fp dJ cP;have UC:j<ps.length:=by lia
   obtain⟨its,rv,xH,hz⟩:=I.list (sm.seq hl);obtain rfl:=YL rv;obtain⟨p',hp'⟩:∃p,ps[j]?=some p:=⟨_,O0 UC⟩
   obtain⟨m',Hy⟩:∃m,ky[j]?=some m:=⟨_,O0 (by have:=hk.1;lia)⟩
   have km':m'∈ky:=N1 Hy;have turn:∀(Ux:List V)(its:List Value)(n:Nat),Hn S=some (.lst Ux)->s.heap.get? S=some (seqObj "list" its.toArray n)->∀(P:PySem.Fin->Shared->Prop)(E':Value->Shared->Prop)(zdv:Value->Sem PySem.Fin),
     (∀(u:Value)(v2:V)(H3:Hp)(s3:Shared),V2 X pins σ H3 s3->R4 v2 u->Same Hn H3->zC X.K H3 m' v2->OK X pins H3 It->s3.heap.IsListIter It l (j+1)->wpAny (model X.prog X.w) X.A.in1 (zdv u) P E' s3)->
     ∀(h':Heap)(Cs:Nat),h'.IsListIter It l (j+1)->(∀b o,b∉[It]->s.heap.get? b=some o->h'.get? b=some o)->∀g:Value->Sem Value,
      wpAny (model X.prog X.w) X.A.in1 (tryCatch (holding [.ref p'] (call (.ref f) [.ref p'])) g>>=zdv) P E' {s with heap:=h',toks:=Cs}:=by
    intro Ux its n hS e P E' zdv zfK h' Cs Jx jZ g;have I1:V2 X pins σ Hn {s with heap:=h',toks:=Cs}:=I.turnedL (ch:=[It]) jZ (λb hb=>by rw[Q1.mp hb];exact fp);obtain⟨oI,hoI,hoc,Gy⟩:=id Jx;have I1p:=I1.pinned (fp:=[It]) (λb hb=>by rw[Q1.mp hb];exact fp) (λb hb=>by rw[Q1.mp hb];exact⟨oI,hoI,λv q=>by rw[Gy]at q;cases q⟩);refine z0 (NB (T5 (L5 (Rl F hr.in1 hb hx I1p.env0.in1 I1p (vs:=[.ref p']) (.cons rfl .nil) (hk.2 j p' m' hp' Hy Hn sm)) (λu s3 he=>?_) λ_ _ hF=>hF.elim)));obtain⟨v2,H3,I3p,rv2,kZ,ka3⟩:=he;obtain⟨q1,q2,_⟩:=I3p.pin (It,oI) (Y3 _ (Y3 _ (jJ (by simp) hoI)));refine zfK u v2 H3 s3 I3p.unpinned rv2 kZ ka3 ⟨q2,fp.2⟩ ⟨oI,q1,hoc,Gy⟩
   have kept:∀(Ux:List V)(u:Value)(v2:V)(H3:Hp)(s3:Shared),Hn S=some (.lst Ux)->V2 X pins σ H3 s3->R4 v2 u->Same Hn H3->zC X.K H3 m' v2->OK X pins H3 It->s3.heap.IsListIter It l (j+1)->(∀(i':Nat)(m'':List KI),i'<j+1->ky[i']?=some m''->bG m'' m'=false)->
     ∃its n,s3.heap.get? S=some (seqObj "list" its n)/\its.size<=sizeLine/\codeAny (model X.prog X.w) X.A (.builtin "min.loop" ⟨[.ref It,.ref f,.ref S],[(Str.ofString "default",dv)]⟩) R {s3 with heap:=s3.heap.update S (Obj.mapSeq λ_=>#[.ref p',u])}:=by
    intro Ux u v2 H3 s3 hS I3 rv2 kZ ka3 fp3 Ir no;have hS3:=kZ _ _ hS;obtain⟨z,its,n,rr,ll,e⟩:=I3.lstM hS3;have I4:=I3.lset (t':=s3.toks) (its':=[.ref p',u]) (ys:=[.ref p',v2]) (f:=λ_=>#[.ref p',u]) hS3 e rfl (.cons rfl (.cons rv2 .nil)) (by show 2<=sizeLine;decide);have hSI:It≠S:=λq=>by have:=fp3.1;rw[q,hS3]at this;cases this
    refine⟨its.toArray,n,e,by rw[J1,<-ll];exact z,ih (j+1) (some j) _ _ (by lia) (by lia) I4 ?_ ?_ ?_ ⟨by lia,p',m',v2,hp',Hy,zcU hS3 ka3,C0,no⟩⟩
    .intro b o q;rw[M0 (λz=>by rw[z,hSH]at q;cases q)];exact kZ _ _ (sm _ _ q)
    .exact⟨by rw[M0 hSI];exact fp3.1,fp3.2⟩
    .obtain⟨oI,hoI,hoc,Gy⟩:=Ir;exact⟨oI,(AC _ _ _ _ hSI).trans hoI,hoc,Gy⟩
   refine nF VD ?_;rw[eF N6 _];show wpAny _ X.A.in1 (seqItems? (.ref S)>>=_) _ _ _;cases b with
   |none=>
    obtain⟨j0,hS⟩:=cP;obtain⟨z,its,n,rr,ll,e⟩:=I.lstM hS;cases rr;refine z0 (IB e rfl ?_);show wpAny _ X.A.in1 (tryCatch (pyNext (.ref It)) _>>=_) _ _ _;refine z0 (NB (W.item j _ _ _ (by rw[vl];exact UC) ⟨dJ,xH.isList⟩ λv h' Cs hP zdw jZ=>?_));obtain rfl:v=.ref p':=by
     have hP:(ps.map Value.ref).toArray[j]?=some v:=hP;rw[sE,P1,hp']at hP;exact(J0 hP).symm
    show wpAny _ X.A.in1 (tryCatch (holding [.ref p'] (call (.ref f) [.ref p'])) _>>=_) _ _ _;refine turn [] [] n hS e _ _ _ (λu v2 H3 s3 I3 rv2 kZ ka3 fp3 Ir=>?_) h' Cs zdw.1 jZ _;obtain⟨zdu,n3,e3,z3,c3⟩:=kept [] u v2 H3 s3 hS I3 rv2 kZ ka3 fp3 Ir (λi' m'' hi' dW=>by
     have:i'=j:=by lia
     subst this;rw[Hy]at dW;obtain rfl:=J0 dW;exact nS _)
    show wpAny _ X.A.in1 (updateSeq S (λ_=>#[.ref p',u])>>=_) _ _ _;refine z0 ?_;refine fK e3 rfl ?_;rw[Cf];exact S0 ⟨LH N6 _,c3⟩
   |some i=>
    obtain⟨ij,p,m,v,hp,hm,ka,hS,no⟩:=cP;obtain⟨z,its,n,rr,ll,e⟩:=I.lstM hS;cases rr with
    |cons r1 rr=>
     cases rr with
     |cons r2 rr=>
      cases rr;cases r1;rename_i ub;have km:m∈ky:=N1 hm;refine z0 (IB e rfl ?_);show wpAny _ X.A.in1 (tryCatch (pyNext (.ref It)) _>>=_) _ _ _;refine z0 (NB (W.item j _ _ _ (by rw[vl];exact UC) ⟨dJ,xH.isList⟩ λv0 h' Cs hP zdw jZ=>?_));obtain rfl:v0=.ref p':=by
       have hP:(ps.map Value.ref).toArray[j]?=some v0:=hP;rw[sE,P1,hp']at hP;exact(J0 hP).symm
      show wpAny _ X.A.in1 (tryCatch (holding [.ref p'] (call (.ref f) [.ref p'])) _>>=_) _ _ _;refine turn _ [.ref p,ub] n hS e _ _ _ (λu v2 H3 s3 I3 rv2 kZ ka3 fp3 Ir=>?_) h' Cs zdw.1 jZ _;show wpAny _ X.A.in1 (tryCatch (holding [.ref p',u] (richCompare .Lt u ub>>=_)) _>>=_) _ _ _;refine z0 (NB (T5 (z0 (Nl (A:=X.A.in1) I3 (by have:=hr.un;show X.A.units+1+1<cLine;lia) (hf.2 _ km' _ km) ka3 (zC.same kZ ka) rv2 r2 ?_))));refine z0 (T5 (D5 ?_));refine z0 (uH (S0 ?_));cases hc:bG m' m with
      |true=>
       simp only[QF];obtain⟨zdu,n3,e3,z3,c3⟩:=kept _ u v2 H3 s3 hS I3 rv2 kZ ka3 fp3 Ir (λi' m'' hi' dW=>by
        by_cases q:i'=j
        .subst q;rw[Hy]at dW;obtain rfl:=J0 dW;exact nS _
        .cases q2:bG m'' m' with
         |false=>rfl
         |true=>
          have:=Ih q2 hc;rw[no i' m'' (by lia) dW]at this;cases this)
       refine z0 ?_;refine fK e3 rfl (z0 (uH ?_));rw[Cf];exact S0 ⟨LH N6 _,c3⟩
      |false=>
       simp only[i3,l7];refine z0 (uH ?_);rw[Cf];refine S0 ⟨LH N6 _,ih (j+1) (some i) s3 H3 (by lia) (by lia) I3 (sm.trans kZ) fp3 Ir ⟨by lia,p,m,v,hp,hm,zC.same kZ ka,kZ _ _ hS,λi' m'' hi' dW=>?_⟩⟩;by_cases q:i'=j
       .subst q;rw[Hy]at dW;obtain rfl:=J0 dW;exact hc
       .exact no i' m'' (by lia) dW
end
section
variable {k:Nat}
theorem zam{Q:VK}(F:xA X.prog X.w X.K X.mg X.base CX cm k f fd pn sp) (hr:N8 cm (k+1) X.A) (hh:X.A.handled=none) (hb:yB X.K fd pn []) (hx:uB CX (X.wish λ_ _=>False) E)
 (I:V2 X pins σ H s) (hl:SqL X.K H l (ps.map V.ref)) (hk:Ob X.K sp (E σ) H ps ky) (hf:Gv ky)
 (h:∀(i:Nat)(p:Addr)(m:List KI)(H':Hp),ps[i]?=some p->ky[i]?=some m->(∀(i':Nat)(m':List KI),ky[i']?=some m'->bG m' m=false)->Same H H'->Q (.ref p) H') (hN:ps=[]->∀H':Hp,Same H H'->Q .non H') :
   wpAny (model X.prog X.w) X.A (call (.builtin "min") [.ref l] [(Str.ofString "key",.ref f),(Str.ofString "default",.none)]) (EP X pins σ Q) X.xe s:=by
  have Cf:(toString "min" ++ toString ".loop": String) = "min.loop":= by decide
  obtain⟨its,rv,xH,hz⟩:=I.list hl;obtain rfl:=YL rv;obtain⟨ol,hol,_⟩:=id xH.isList;have hll:l<s.heap.objs.size:=F2 hol;refine kmk_tree PySem.F.kind_min PySem.F.plain_min PySem.F.entry_min (zcT _ _ _) ?_;show wpAny _ X.A.in1 (Builtin.Builtins.bindParams "min" ["key","default"] 0 ⟨[],[(Str.ofString "key",.ref f),(Str.ofString "default",.none)]⟩>>=_) _ _ s;refine z0 (wpAny_of_eq (show Builtin.Builtins.bindParams "min" ["key","default"] 0 ⟨[],[(Str.ofString "key",.ref f),(Str.ofString "default",.none)]⟩=pure [some (.ref f),some .none]from rfl) ?_);refine z0 (S0 ?_);refine z0 (bH xH.isList ?_);refine z0 (xM ?_ (E1 _));rw[Cf];have hS:(s.heap.push {cls:=.type "list_iterator",data:=.fields #[.ref l,.int 0 0]}).objs.size=s.heap.objs.size+1:=size_push' ..;refine S0 ⟨LH N6 _,?_⟩;have gI:((s.heap.push {cls:=.type "list_iterator",data:=.fields #[.ref l,.int 0 0]}).push (seqObj "list" #[] 0)).get? s.heap.objs.size=some {cls:=.type "list_iterator",data:=.fields #[.ref l,.int 0 0]}:=
   U0 _ (X1 _ rfl)
  have gS:((s.heap.push {cls:=.type "list_iterator",data:=.fields #[.ref l,.int 0 0]}).push (seqObj "list" #[] 0)).get? (s.heap.push {cls:=.type "list_iterator",data:=.fields #[.ref l,.int 0 0]}).objs.size=some (seqObj "list" #[] 0):=X1 _ rfl;rw[hS]at gS;have hSf:H (s.heap.objs.size+1)=none:=I.hok.fresh (by lia);have hIf:H s.heap.objs.size=none:=I.hok.fresh (j1 _);have keep:∀b o,s.heap.get? b=some o->((s.heap.push {cls:=.type "list_iterator",data:=.fields #[.ref l,.int 0 0]}).push (seqObj "list" #[] 0)).get? b=some o:=λb o q=>U0 _ (U0 _ q);have I2:V2 X pins σ (upd H (s.heap.objs.size+1) (.lst [])) {s with heap:=(s.heap.push {cls:=.type "list_iterator",data:=.fields #[.ref l,.int 0 0]}).push (seqObj "list" #[] 0)}:=
   I.laid (t':=s.toks) keep (by lia) ⟨E1 _,[],0,.nil,gS⟩
  have fp:OK X pins (upd H (s.heap.objs.size+1) (.lst [])) s.heap.objs.size:=I.fpOk (j1 _) (by rw[M0 (j3 (wE _))];exact hIf);show codeAny (model X.prog X.w) X.A (.builtin "min.loop" ⟨[.ref s.heap.objs.size,.ref f,.ref (s.heap.push {cls:=.type "list_iterator",data:=.fields #[.ref l,.int 0 0]}).objs.size],[(Str.ofString "default",.none)]⟩) _ _;rw[hS];refine Hv (S:=s.heap.objs.size+1) F hr hh hb hx hk hf (j3 hll) hSf hl (λi p m H' s' hp hm no sm I'=>?_) (λe H' s' sm I'=>?_) _ 0 none _ _ rfl (E1 _) I2 (FP hSf) fp ⟨_,gI,rfl,rfl⟩ ⟨rfl,C0⟩
  .exact⟨.ref p,H',I',rfl,h i p m H' hp hm no sm⟩
  .exact⟨.non,H',I',rfl,hN e H' sm⟩
end
def zcV(K:Frag)(sp:Sp)(E:St->XK)(t:TA):TE:=λσ H Q=>t σ H λxs H1=>∃(a:Addr)(ps:List Addr)(ky:List (List KI)),xs=[.ref a]/\SqL K H1 a (ps.map V.ref)/\Ob K sp (E σ) H1 ps ky/\Gv ky/\
 ∀(zs:List (Addr×List KI))(H':Hp)(p:Addr),(zs.map Prod.fst).Perm ps->(∀z∈zs,z∈ps.zip ky)->(zs.Pairwise λa b=>bG b.2 a.2=false)->Same H1 H'->H' p=some (.lst (zs.map λz=>V.ref z.1))->Q (.ref p) H'
def ze1(K:Frag)(sp:Sp)(E:St->XK)(t:TA):TE:=λσ H Q=>t σ H λxs H1=>∃(a:Addr)(ps:List Addr)(ky:List (List KI)),xs=[.ref a]/\SqL K H1 a (ps.map V.ref)/\Ob K sp (E σ) H1 ps ky/\Gv ky/\
 (∀(i:Nat)(p:Addr)(m:List KI)(H':Hp),ps[i]?=some p->ky[i]?=some m->(∀(i':Nat)(m':List KI),ky[i']?=some m'->bG m' m=false)->Same H1 H'->Q (.ref p) H')/\(ps=[]->∀H':Hp,Same H1 H'->Q .non H')
section
variable {k:Nat}{t:TA}{fn:Str}{p p2 pos kp dp dp2:Pos}{dk:Nat}
theorem Iv(F:xA X.prog X.w X.K X.mg X.base CX cm k f fd pn sp)(hr:N8 cm (k+1) X.A)(hg:Gl X "sorted")(hm:X.mg "sorted"= none)(hv:bootBuiltins "sorted"= some (.builtin "sorted"))(hgf:Gl X fn)(hmf:X.mg fn=some (.ref f))(hb:yB X.K fd pn [])(hx:uB CX (X.wish λ_ _=>False) E)(ha:PA X [e] t)
 (hd:(fn==("__debug__": Str))=false:=by decide) (h1:backTo pos (starEach [e] X.env)=(false,eval e X.env)::backTo pos (starEach [] X.env):=by rfl) (h2:(backTo pos (starEach [e] X.env)).any (·.1)=false:=by rfl) :
   PE X (.Call (.Name "sorted" p) [e] [⟨some "key",.Name fn p2,kp⟩] pos) (zcV X.K sp E t):=by
  intro pins s σ H Q I h;refine u6 (fJ I hg hm hv ?_ (by decide) (by decide));refine callWith_kw (i8 (ha pos pins s σ H _ I h) λus s1 ⟨vs,H1,I1,r1,a,ps,ky,ex,hl,hk,hf,q⟩=>?_) h1 h2;subst ex;obtain rfl:=k4.ref1 r1;refine i8 ((NX (nm:=some "key") (kpos:=kp) (aC (v:=.ref f) (pos:=p2) hgf hmf rfl hd) Vs) pos pins s1 σ H1 (λxs H2=>xs=[.ref f]/\H2=H1) I1 ⟨rfl,rfl⟩) λkvs s2 ⟨vs2,H2,I2,r2,e2,e3⟩=>?_;subst e2;subst e3;obtain rfl:=k4.ref1 r2;exact Jh F hr hb hx I2 hl hk hf q
theorem zan(F:xA X.prog X.w X.K X.mg X.base CX cm k f fd pn sp)(hr:N8 cm (k+1) X.A)(hc:X.calm=true)(hg:Gl X "min")(hm:X.mg "min"= none)(hv:bootBuiltins "min"= some (.builtin "min"))(hgf:Gl X fn)(hmf:X.mg fn=some (.ref f))(hb:yB X.K fd pn [])(hx:uB CX (X.wish λ_ _=>False) E)(ha:PA X [e] t)
 (hd:(fn==("__debug__": Str))=false:=by decide) (h1:backTo pos (starEach [e] X.env)=(false,eval e X.env)::backTo pos (starEach [] X.env):=by rfl) (h2:(backTo pos (starEach [e] X.env)).any (·.1)=false:=by rfl) :
   PE X (.Call (.Name "min" p) [e] [⟨some "key",.Name fn p2,kp⟩,⟨some "default",.Constant .none dk dp,dp2⟩] pos) (ze1 X.K sp E t):=by
  intro pins s σ H Q I h;refine u6 (fJ I hg hm hv ?_ (by decide) (by decide));refine callWith_kw (i8 (ha pos pins s σ H _ I h) λus s1 ⟨vs,H1,I1,r1,a,ps,ky,ex,hl,hk,hf,q,qN⟩=>?_) h1 h2;subst ex;obtain rfl:=k4.ref1 r1;refine i8 ((NX (nm:=some "key") (kpos:=kp) (aC (v:=.ref f) (pos:=p2) hgf hmf rfl hd) (NX (nm:=some "default") (kpos:=dp2) (IX (j:=dk) (pos:=dp)) Vs)) pos pins s1 σ H1 (λxs H2=>xs=[.ref f,.non]/\H2=H1) I1 ⟨rfl,rfl⟩) λkvs s2 ⟨vs2,H2,I2,r2,e2,e3⟩=>?_;subst e2;subst e3;obtain rfl:kvs=[.ref f,.none]:=by
   cases r2 with
   |cons a1 r2=>
    cases r2 with
    |cons a2 r2=>
     cases r2;cases a1;cases a2;rfl
  exact zam F hr (I2.ok.hd hc) hb hx I2 hl hk hf q qN
end
theorem Pb{tg:Expr}{td:TE}(he:PE X e td):PI X tg e (zcx td):=by
 intro pins s σ H R I h;refine i8 (he pins s σ H _ I h) λu s1 ⟨x,H1,I1,rx,d,o,kvs,ex,hd,q⟩=>?_;subst ex;obtain rfl:u=Value.ref d:=rx;obtain⟨hs,hgd,hx,es,ep,vs,Qn,hsz,kv,hm⟩:=I1.frzK hd;refine Ko hs hgd hx Qn (YX (tk:=s1.toks) I1 _ (Lo _ Qn) ⟨_,X1 _ rfl,rfl,?_⟩ q);rw[hsz]<;>rfl
end L2
namespace Wg
open Bd Wf
variable {b:Bond}{F:Filled}{m:Nat}{p:Part}{w:Wall}
theorem QT(n m:Nat):(n&&&m)/2=n/2&&&m/2:=by
 apply V8;intro i;rw[<-G8,tF,G8,G8,tF]
theorem uY(n m:Nat):(n&&&m)%2=if n%2=1/\m%2=1 then 1 else 0:=by
 have z:=tF n m 0;by_cases c:n%2=1/\m%2=1
 .grind
 .rw[D0 c];have z':decide ((n&&&m)%2=1)=false:=by
   grind
  have:=w6 z'
  lia
theorem Sl:∀(i n m:Nat),(n-(n&&&m)).testBit i=(n.testBit i&&!m.testBit i)
 |0,n,m=>by
  have h1:=QT n m;have h2:=uY n m;have h3:n/2&&&m/2<=n/2:=gK;rw[kC,kC,kC];by_cases c:n%2=1
  .by_cases d:m%2=1
   .rw[K0 ⟨c,d⟩]at h2;rw[F1 c,F1 d];exact Y0 (by lia)
   .rw[D0 (λq=>d q.2)]at h2;rw[F1 c,Y0 d];exact F1 (by lia)
  .rw[D0 (λq=>c q.1)]at h2;rw[Y0 c];exact Y0 (by lia)
 |i+1,n,m=>by
  have h1:=QT n m;have h2:=uY n m;have e:(n-(n&&&m))/2=n/2-(n/2&&&m/2):=by
   grind
  rw[G8,e,Sl i (n/2) (m/2),G8,G8]
theorem zcW(n i:Nat):(2^n-1).testBit i=decide (i<n):=Nat.testBit_two_pow_sub_one n i
theorem zao:∀{n:Nat},0<n->∃l,n.testBit l=true/\(∀j<l,n.testBit j=false)/\n-(n&&&(n-1))=2^l:=by
 intro n
 induction n using Nat.strongRecOn with
 |_ n ih=>
  intro h;have h1:=QT n (n-1);have h2:=uY n (n-1);by_cases c:n%2=1
  .refine⟨0,by rw[kC];exact F1 c,λj hj=>absurd hj (by lia),?_⟩;rw[D0 (by lia),]at h2;rw[show(n-1)/2=n/2 by lia,Nat.and_self]at h1
   lia
  .obtain⟨l,g1,g2,g3⟩:=ih (n/2) (by lia) (by lia);refine⟨l+1,by rw[G8];exact g1,λj hj=>?_,?_⟩
   .cases j with
    |zero=>rw[kC];exact Y0 c
    |succ j=>rw[G8];exact g2 j (by lia)
   .rw[D0 (by lia)]at h2;rw[show(n-1)/2=n/2-1 by lia]at h1;rw[PN]
    lia
def tL(ks:List Nat)(x:Nat):Nat:=bitsOf ((List.range ks.length).filter λi=>(ks.getD i 0).testBit x)
def WD(ks:List Nat)(xs:List Nat):Nat:=bitsOf ((List.range ks.length).filter λi=>xs.all λx=>!(ks.getD i 0).testBit x)
theorem CG(ks:List Nat)(x i:Nat):(tL ks x).testBit i=(decide (i<ks.length)&&(ks.getD i 0).testBit x):=by
 unfold tL;rw[BA,Z2,P0,O4,j6,D1,P0]
theorem RT(ks xs:List Nat)(i:Nat):(WD ks xs).testBit i=(decide (i<ks.length)&&xs.all λx=>!(ks.getD i 0).testBit x):=by
 unfold WD;rw[BA,Z2,P0,O4,j6,D1,P0]
theorem Rp(ks:List Nat):WD ks []=2^ks.length-1:=by
 apply V8;intro i;rw[RT,zcW,ON,FH]
theorem Kh(ks xs:List Nat)(x:Nat):WD ks (xs++[x])=WD ks xs-(WD ks xs&&&tL ks x):=by
 apply V8;grind [Sl,RT,CG]
theorem Lh(ks:List Nat)(k x:Nat):tL (ks++[k]) x=if k.testBit x=true then tL ks x|||2^ks.length else tL ks x:=by
 apply V8;intro i;rw[CG];have el:(ks++[k]).length=ks.length+1:=by simp
 have g1:i<ks.length->(ks++[k]).getD i 0=ks.getD i 0:=λh=>by
  rw[U2,j8 h,<-U2]
 have g2:(ks++[k]).getD ks.length 0=k:=by
  grind
 rw[el];rcases Nat.lt_trichotomy i ks.length with c|c|c
 .rw[F1 (show i<ks.length+1 by lia),g1 c,IC];by_cases d:k.testBit x=true
  .rw[K0 d,wG,CG,Nat.testBit_two_pow,F1 c,Y0 (show ¬ks.length=i by lia)];simp
  .rw[D0 d,CG,F1 c,IC]
 .subst c;by_cases d:k.testBit x=true
  .grind
  .rw[D0 d,CG,Y0 (show ¬ks.length<ks.length by lia),GB];simpa using d
 .rw[Y0 (show ¬i<ks.length+1 by lia),GB];by_cases d:k.testBit x=true
  .rw[K0 d,wG,CG,Nat.testBit_two_pow,Y0 (show ¬i<ks.length by lia),Y0 (show ¬ks.length=i by lia)];rfl
  .rw[D0 d,CG,Y0 (show ¬i<ks.length by lia),GB]
def O5(n:Nat):List Nat:=(List.range (n.log2+1)).filter λx=>n.testBit x
theorem GJ{n x:Nat}:x∈O5 n↔n.testBit x=true:=by
 unfold O5;rw[O4,j6];refine⟨λh=>h.2,λh=>⟨?_,h⟩⟩;by_cases c:x<n.log2+1
 .exact c
 .have z:n<2^x:=O2 Nat.lt_log2_self (eA (by lia) (by lia));rw[Nat.testBit_lt_two_pow z]at h;cases h
theorem Qb{ks:List Nat}{xs:List Nat}(hx:∀x,x∈xs↔m.testBit x=true) (i:Nat):(WD ks xs).testBit i=(decide (i<ks.length)&&(m&&&ks.getD i 0==0)):=by
 rw[RT];congr 1;rw[Z2,L4,Ka,t7];grind
theorem Tp{O:List (List Row)}{b:Nat}(hb:∀i,b.testBit i=(decide (i<O.length)&&(m&&&(O.map P6).getD i 0==0))):(b=0->O.find? (λl=>m&&&P6 l==0)=none)/\∀l,b.testBit l=true->(∀j<l,b.testBit j=false)->O.find? (λl=>m&&&P6 l==0)=O[l]?:=by
 have g:∀i (h:i<O.length),(O.map P6).getD i 0=P6 O[i]:=λi h=>by
  grind
 constructor
 .rintro rfl;rw[yG];intro l hl;obtain⟨i,hi,rfl⟩:=j4.mp hl;grind
 .intro l h1 h2;have z:=hb l;rw[h1]at z;have z':=z.symm;rw[D1,P0]at z';obtain⟨hl,hz⟩:=z';rw[g l hl]at hz;rw[O0 hl,RA];refine⟨hz,O.take l,O.drop (l+1),?_,λa ha=>?_⟩
  .rw[<-O6 hl,pE]
  .obtain⟨i,hi,rfl⟩:=j4.mp ha;rw[Z1]at hi;have y:=hb i;rw[h2 i (by lia),F1 (show i<O.length by lia),IC,g i (by lia)]at y;rw[List.getElem_take,<-y];rfl
theorem Tl(w:Wall):Rr w []:=⟨(λz h=>by cases h),(λz h=>by cases h),(λz h=>by cases h)⟩
theorem Rb{fl:List Nat}{l:List Row}(f:Rr w F) (hp:p∈w.parts) (h:fillOf b (w.panelOf p) fl=some l):Rr w (F++[(p,l)]):=by
 obtain⟨⟨st,ll,_⟩,_⟩:=rP (p:=w.panelOf p) (wT hp).1 h;have add:∀{P:Part×List Row->Prop},(∀z∈F,P z)->P (p,l)->∀z∈F++[(p,l)],P z:=λh1 h2 z hz=>by
  all_goals grind
 exact⟨add f.part hp,add f.high ll,add f.long λr hr=>dM st r hr⟩
theorem UT{r:List Part}:buildFrom b w (p::r) F=match fillOf b (w.panelOf p) (floorOf F p)with
  |none=>.error F.length
  |some l=>buildFrom b w r (F++[(p,l)]):=rfl
theorem IQ(F:Filled)(p:Part)(l:List Row)(y:Nat):piecesAt (F++[(p,l)]) y=piecesAt F y++if p.y<=y/\y<p.y+p.high then placed p.x (l.getD (y-p.y) [])else[]:=by
 unfold piecesAt;rw[j7,xC];congr 1;rw[i5];by_cases c:p.y<=y/\y<p.y+p.high
 .rw[K0 c,K0 (by rw[D1,P0,P0];exact c)];simp
 .rw[D0 c,D0 (by rw[D1,P0,P0];exact c)];simp
end Wg
section
set_option maxHeartbeats 1000000
namespace Wm
open Bd
end Wm
end
section
set_option maxHeartbeats 1000000
namespace Wm
open Bd
end Wm
end
section
set_option maxHeartbeats 1000000
namespace Wm
open Bd
end Wm
end
namespace Wp
open Bd
def zcX(n:Nat):List Corner:=(List.range n).flatMap λc=>(List.range c).map λa=>⟨a,0,c,0⟩
def zhx(l:List Corner):List Nat:=l.flatMap λk=>[k.a,k.c]
def ze2(l:List Corner):Bool:=(List.range 4).all λi=>decide ((zhx l).count i<=2)
def iE(n:Nat):Nat->List (List Corner)
 |0=>[[]]
 |k+1=>[]::(zcX n).flatMap λp=>((iE n k).map λl=>p::l).filter ze2
theorem Sb{α:Type}[DecidableEq α]:∀{l m:List α},l.Nodup->(∀x∈l,x∈m)->l.length<=m.length
 |[],m,_,_=>E1 _
 |a::l,m,nd,h=>by
  rw[N5]at nd;have ha:=h a (by simp);have z:=Sb (l:=l) (m:=m.erase a) nd.2 λx hx=>(List.mem_erase_of_ne (λe=>nd.1 (by rw[<-e];exact hx))).mpr (h x (by simp[hx]));rw[List.length_erase_of_mem ha]at z;have:=HJ ha;rw[M1]
  lia
end Wp
namespace L2
open PySem PySem.Spec PyProof.Rows
inductive Ub(K:Frag)(vs:List V)(H:Hp)(Q:VK):Prop
 |mk (a:Addr) (ts:List Addr) (zs:List (Int×Int)):vs=[V.ref a]->SqL K H a (ts.map V.ref)->(Paired (λt z=>H t=some (.tup [.int z.1,.int z.2])) ts zs)->(∀(ys:List Addr)(p:Addr),ys.Perm ts->H p=none->Q (.ref p) (upd H p (.lst (ys.map V.ref))))->Ub K vs H Q
theorem UW:∀ps:List Addr,k4 (ps.map V.ref) (ps.map Value.ref)
 |[]=>.nil
 |p::ps=>.cons rfl (UW ps)
theorem Mh{X:Cx}{K:Frag}(hK:X.K=K):QK X (.builtin "sorted") (Ub K):=by
 subst hK;intro pins s σ H vs us Q I r h;obtain⟨a,ts,zs,rfl,hs,pz,q⟩:=h;obtain⟨its,rv,hl,hz⟩:=I.list hs;rw[k4.ref1 r];obtain rfl:=YL rv;rw[B0]at hz;have tup:∀{t:Addr}{z:Int×Int},H t=some (.tup [.int z.1,.int z.2])->∃f l,TupOf s.heap (λ_=>false) (.ref t) f/\G.tupKeyC s.heap (λ_=>false) (.ref t)=some l:=λ{t z} e=>by
  obtain⟨us,ru,⟨o,ho,hc,n,hd⟩,_⟩:=I.tuple (.inl (.inl e));cases ru with
  |cons r1 ru=>
   cases ru with
   |cons r2 ru=>
    cases ru;obtain⟨t1,rfl⟩:=r1;obtain⟨t2,rfl⟩:=r2;exact⟨_,_,⟨t,o,_,n,rfl,ho,hc,hd,rfl,λ_=>⟨_,_,rfl⟩,λh=>nomatch h⟩,G.tupKeyC_of ho hc hd rfl⟩
 obtain⟨fs,tu,hk⟩:∃fs,TupsOf s.heap (λ_=>false) (ts.map Value.ref) fs/\∀v∈ts.map Value.ref,∃l,G.tupKeyC s.heap (λ_=>false) v=some l:=by
  clear q hs r rv hl hz
  induction pz with
  |nil=>exact⟨[],.nil,λv hv=>nomatch hv⟩
  |cons e _ ih=>
   obtain⟨fs,tu,hk⟩:=ih;obtain⟨f,l,a1,a2⟩:=tup e;refine⟨f::fs,.cons a1 tu,λv hv=>?_⟩;rcases S1.mp hv with rfl|m
   .exact⟨l,a2⟩
   .exact hk v m
 refine G.sorted_tups hl.isList tu hk (by rw[B0];exact hz) λst pm _ _=>?_;obtain⟨ep,he⟩:=sortedAll_at s.heap (ts.map Value.ref) ((arrOf st).map (·.2));have pm2:((arrOf st).toList.map (·.2)).Perm (ts.map Value.ref):=by
  have z:=(BG.mp pm).map (·.2);rw[pairsOf_toList]at z;have e:((ts.map Value.ref).zip (ts.map Value.ref)).map (·.2)=ts.map Value.ref:=List.map_snd_zip (j1 _);rw[e]at z;exact z
 let Tr:Value->Addr:=λv=>match v with
  |.ref p=>p
  |_=>0
 obtain⟨ys,ey⟩:∃ys,((arrOf st).toList.map (·.2)).map Tr=ys:=⟨_,rfl⟩
 have e:(ts.map Value.ref).map Tr=ts:=by rw[B3,show(Tr ∘ Value.ref)=id from rfl,List.map_id]
 have pm3:ys.Perm ts:=by
  have z:=pm2.map Tr;rw[e,ey]at z;exact z
 have back:ys.map Value.ref=(arrOf st).toList.map (·.2):=by
  rw[<-ey,B3]
  conv=>rhs;rw[<-List.map_id ((arrOf st).toList.map (·.2))]
  refine Y5 λv hv=>?_;obtain⟨t,_,rfl⟩:=S2.mp (pm2.mem_iff.mp hv);rfl
 refine⟨.ref _,upd H (s.heap.objs.size+1) (.lst (ys.map V.ref)),I.laid (t':=s.toks) (λ_ _=>sortedAll_old) (TK _) ⟨by rw[B0,pm3.length_eq];exact hz,((arrOf st).map (·.2)).toList,ep,?_,he⟩,rfl,q _ _ pm3 (I.hok.fresh (TK _))⟩;rw[JA,<-back];exact UW _
def ze3(K:Frag):V->V->Hp->VK->Prop:=λo i H Q=>∃(p:Addr)(xs:List V)(j:Nat)(v:V),o=.ref p/\i=.int (j:Int)/\SqL K H p xs/\xs[j]?=some v/\Q v H
theorem Jv{X:Cx}:zeq X (ze3 X.K):=by
 intro pins s σ H o i ov iv Q I ro ri h;obtain⟨p,xs,j,v,rfl,rfl,hq,he,q⟩:=h;cases ro;obtain⟨t,rfl⟩:=ri;obtain⟨its,r,pl,hz⟩:=I.list hq;obtain⟨w,ew,GX⟩:=r.get he;have hl:=r.length;have hn:=gP;have hj:=(N0.mp he).1;exact wpAny_getItem_list pl.isList (by lia) (by lia) (by rw[P4];simpa using ew) ⟨v,H,I,GX,q⟩
end L2
namespace Wb
open PySem PySem.Spec PyProof.Rows L2 Wm
open PySem.W (Codec)
variable {C q d f t p a dx CO CW CB mk pp:Addr}{sl:Array (Option Value)}{b:Bond}{line:Bytes}{F:Filled}{pn:Panel}{r:Bd.Row}{L L':Bd.Row->Prop}{w:Wall}{cm x y fr:Bool}{Q:Bool->Hp->Prop}{CX:Pr}{e:Expr}{u:HO}{base:Heap}{H H1 H':Hp}{Qd:Hp->Prop}{j:Int}{σ:L2.St}{E:L2.St->XK}{kvs k1 k2:List (MC×V)}{D:List (Nat×Bd.Row)}{ps X as ts Z cs:List Addr}{os:List Opening}{l m:List Bd.Row}{es:List Expr}{h h':List HV}{due:List Int}{vs:List Nat}{N:List Str}{xs ys:List V}{P:List Value->Prop}{n i lap:Nat}{z:Nat×Bd.Row}{od an:Option Addr}{pos:Pos}{sp:Sp}{s:Stmt}{mg:Str->Option Value}{tb te ta tc:TE}{g:TG}{α β:Type}{v:V}{oc dc pm cd ct:Value}
theorem VT:bootBuiltins "all"= some (.builtin "all"):=by decide +kernel
theorem Kv:bootBuiltins "any"= some (.builtin "any"):=by decide +kernel
theorem Nh:bootBuiltins "len"= some (.builtin "len"):=by decide +kernel
theorem zcY:bootBuiltins "min"= some (.builtin "min"):=by decide +kernel
theorem zcZ:bootBuiltins "ord"= some (.builtin "ord"):=by decide +kernel
theorem VW:bootBuiltins "sorted"= some (.builtin "sorted"):=by decide +kernel
theorem zc0:bootBuiltins "sum"= some (.builtin "sum"):=by decide +kernel
theorem Lv:bootBuiltins "tuple"= some (.type "tuple"):=by decide +kernel
def Q9(i:Nat):Stmt:=PySem.Challenge.pw_wallbonds_s06_counts.main.body.getD i (.Pass ⟨0,0,0,0⟩)
theorem scq{P:List Str}{sc:Scope}(h1:sc.kind=.function:=by rfl) (h2:sc.isCoroutine=false:=by rfl) (h3:sc.isGenerator=false:=by rfl) (h4:N.Nodup:=by decide +kernel) (h5:N.take P.length=P:=by rfl) (h6:∀x∈P,sc.names.lookup x=some .local\/sc.names.lookup x=some .cell:=by decide +kernel) (h7:∀y∈sc.names,y.2≠.free:=by decide +kernel):CD N P sc:=⟨h1,h2,h3,h4,h5,h6,h7⟩
theorem WW(N:List Str)(sc:Scope)(own:List (Str×Nat)){scope:Scope}(h1:scope.kind=.function:=by rfl) (h2:∀y∈scope.names,scope.names.lookup y.1=some y.2:=by decide +kernel) (h3:∀p∈own,N[p.2]?=some p.1:=by decide +kernel) (h4:∀y∈scope.names,y.2=.free->sc.names.lookup y.1=some .cell\/sc.names.lookup y.1=some .free:=by decide +kernel) (h5:∀y∈scope.names,y.2=.local\/y.2=.cell->y.1∈own.map (·.1)\/y.1∉N:=by decide +kernel):IZ N sc scope own:=⟨h1,h2,h3,h4,h5⟩
abbrev JQ:Stmt:=Q9 20
abbrev XW:Stmt:=Q9 21
abbrev Vb:Stmt:=Q9 22
abbrev vV:Stmt:=Q9 23
abbrev wV:Stmt:=Q9 24
abbrev KQ:Stmt:=Q9 25
abbrev WT:Stmt:=Q9 37
abbrev Oh:Stmt:=Q9 38
abbrev vY:Stmt:=Q9 39
abbrev nR:Stmt:=Q9 40
abbrev YT:Stmt:=Q9 41
abbrev LQ:Stmt:=Q9 42
abbrev GP:Stmt:=Q9 43
abbrev oR:Stmt:=Q9 44
abbrev YW:Stmt:=Q9 45
abbrev yM:Stmt:=Q9 46
abbrev Xb:Stmt:=Q9 54
abbrev Ph:Stmt:=Q9 55
abbrev gO:Stmt:=Q9 56
abbrev uL:Stmt:=Q9 57
abbrev ZT:Stmt:=Q9 58
abbrev vL:Stmt:=Q9 59
abbrev HP:Stmt:=Q9 60
abbrev iO:Stmt:=Q9 61
abbrev Yb:Stmt:=Q9 74
abbrev wY:Stmt:=Q9 75
abbrev Mv:Stmt:=Q9 76
abbrev IJ:Stmt:=Q9 77
abbrev aU:Stmt:=Q9 78
abbrev MQ:Stmt:=Q9 79
abbrev bU:Stmt:=Q9 80
abbrev Vp:Stmt:=Q9 81
abbrev IP:Stmt:=Q9 83
abbrev wL:Stmt:=Q9 86
abbrev Qh:Stmt:=Q9 87
abbrev Rh:Stmt:=Q9 88
abbrev JP:Stmt:=Q9 89
abbrev DG:Stmt:=Q9 90
abbrev Sh:Stmt:=Q9 91
abbrev Xp:Stmt:=Q9 92
abbrev Th:Stmt:=Q9 93
abbrev Uh:Stmt:=Q9 94
abbrev Vh:Stmt:=Q9 95
abbrev xV:Stmt:=Q9 96
abbrev KP:Stmt:=Q9 97
abbrev xY:Stmt:=Q9 98
abbrev Nv:Stmt:=Q9 101
abbrev yV:Stmt:=Q9 102
abbrev Yp:Stmt:=Q9 103
abbrev Ov:Stmt:=Q9 104
abbrev WM:Stmt:=M7 (Q9 9) 0
abbrev XM:Stmt:=M7 (Q9 10) 0
abbrev xL:Stmt:=M7 (Q9 11) 0
abbrev EG:Stmt:=M7 (Q9 12) 0
abbrev yL:Stmt:=M7 (Q9 13) 0
abbrev pR:Stmt:=M7 (Q9 52) 0
abbrev jO:Stmt:=M7 (Q9 52) 1
abbrev uK:Stmt:=M7 (Q9 53) 0
abbrev kO:Stmt:=M7 (Q9 53) 1
abbrev MH:Stmt:=M7 (Q9 53) 2
abbrev JJ:Stmt:=M7 (Q9 53) 3
abbrev YM:Stmt:=M7 (Q9 70) 0
abbrev vK:Stmt:=M7 (Q9 70) 1
abbrev II:Stmt:=M7 (Q9 70) 2
abbrev qR:Stmt:=M7 (Q9 70) 3
abbrev LP:Stmt:=M7 (Q9 70) 4
abbrev rR:Stmt:=M7 (Q9 71) 0
abbrev zL:Stmt:=M7 (Q9 71) 1
abbrev MP:Stmt:=M7 (Q9 72) 0
abbrev wK:Stmt:=M7 (Q9 73) 0
abbrev xK:Stmt:=M7 (Q9 73) 1
abbrev mO:Stmt:=M7 (Q9 73) 2
abbrev KJ:Stmt:=M7 (Q9 73) 3
abbrev sR:Stmt:=M7 (Q9 85) 0
set_option genInjectivity false in
structure Ad where
 (f8 lC U4 C4 j2 fD M4 T3 cB zB d5 V7 Zb Zp Ac zV AV Bc Wh Xh VF tR cU Cc NP uR Aq BV Dc Yh yY Ec dU eU OP zY Fc AY Qv BY fU Gc gU Bq PP Hc Zh Ai QP hU Bi Cq Ci Di Ei CV RP CY AL DV Dq Rv FG ZM BL GG DL vR nO yK oO NH LJ aN zK JI wR UP xR iU VP AK BK pO MJ yR rB mC fF:Addr)
 (Ic Fq Jc EV FV Kc Fi Gi WF zR jU Lc WP DR Gq GV Mc Hi DY Nc kU lU ZP EY Oc FY Sv GY mU Pc nU Hq aQ Qc Ii Ji bQ oU Ki Iq Li Mi Ni IV cQ HY HG JV Jq Tv bN cN EL IG FL ER qO CK rO OH NJ dN DK LI FR dQ GR pU eQ EK FK sO OJ IR:FuncData)
 (IY JR qU uO Oi sU tU Lq JY Rc Sc Tc zap Uv zc1 MR uU vU LV MV mM Pi Uc wU xU yU zc2 NV OV NR KY:Tok)
section
variable {K:Frag}{h:Heap}{n q:Str}{d:FuncData}
structure FT(K:Frag)(mg:Str->Option Value)(n:Str)(s:Stmt)(f:Addr)(d:FuncData)(ps N:List Str):Prop where
 m:mg n=some (.ref f)
 F:Fun K n n s f d
 b:yB K d ps []
 S:CD N ps (Z3 s)
theorem FT.of{kV:Value}{ps:List Str}(KX:K.In h) (G:h.Ns mainGlobals mg) (h1:PySem.W.nsIn K mainGlobals n=some (some (.ref f))) (l:K.lookup f=some ⟨oc,od,.func (fnOf n n (RE s) (KD s) (Z3 s) .none kV dc pm an cd ct),sl⟩) (c:codeIn K cd n=true) (k:keepIn K (.ref f)=true) (hb:∀(kV dc pm:Value)(an:Option Addr)(cd ct:Value)(us:List Value),us.length=ps.length->bindArgs (fnOf n n (RE s) (KD s) (Z3 s) .none kV dc pm an cd ct) ⟨us,[]⟩=pure (ps.zip us)) (S:CD N ps (Z3 s)):FT K mg n s f (fnOf n n (RE s) (KD s) (Z3 s) .none kV dc pm an cd ct) ps N:=⟨QH KX G h1,aY l c k,(aY l c k).binds hb,S⟩
structure MT(K:Frag)(C:Addr)(n q:Str)(s:Stmt)(f:Addr)(d:FuncData)(ps N:List Str):Prop where
 M:Bo K C n f
 F:Fun K n q s f d
 b:yB K d ps []
 S:CD N ps (Z3 s)
theorem MT.of{kV:Value}{ps:List Str}(h1:findIn K (.ref C) n=some (some (.ref f))) (h2:isFn K (.ref f)=true) (l:K.lookup f=some ⟨oc,od,.func (fnOf n q (RE s) (KD s) (Z3 s) .none kV dc pm an cd ct),sl⟩) (c:codeIn K cd q=true) (k:keepIn K (.ref f)=true) (hb:∀(kV dc pm:Value)(an:Option Addr)(cd ct:Value)(us:List Value),us.length=ps.length->bindArgs (fnOf n q (RE s) (KD s) (Z3 s) .none kV dc pm an cd ct) ⟨us,[]⟩=pure (ps.zip us)) (S:CD N ps (Z3 s)):MT K C n q s f (fnOf n q (RE s) (KD s) (Z3 s) .none kV dc pm an cd ct) ps N:=⟨⟨h1,h2,k⟩,aY l c k,(aY l c k).binds hb,S⟩
structure CT(K:Frag)(mg:Str->Option Value)(n:Str)(C:Addr):Prop where
 m:mg n=some (.ref C)
 c:Ao K C
 mk':makesIn K C=true
 kc:keepIn K (.ref C)=true
theorem CT.k0{ps:List Str}(x:CT K mg n C) (y:MT K C "__init__" q s f d ps N):Mk K C f:=⟨x.mk',y.M.at_,y.M.fn,x.kc⟩
structure XT(K:Frag)(mg:Str->Option Value)(n:Str)(C:Addr):Prop where
 m:mg n=some (.ref C)
 D:eY K C
 E:To K C
 mk':ZL K C=true
 kc:keepIn K (.ref C)=true
theorem XT.k0{ps:List Str}(x:XT K mg n C) (y:MT K C "__init__" q s f d ps N):MkX K C f:=⟨x.mk',y.M.at_,y.M.fn,x.kc⟩
abbrev Fo(P:Program)(w:World)(base:Heap)(cm:Bool){s:Stmt}{f:Addr}{ps N:List Str}(_:FT K mg n s f d ps N) (k:Nat) (sp:Sp):Prop:=xA P w K mg base (kR P w) cm k f d ps sp
abbrev Mo(mg:Str->Option Value)(P:Program)(w:World)(base:Heap)(cm:Bool){s:Stmt}{f:Addr}{ps N:List Str}(_:MT K C n q s f d ps N) (k:Nat) (sp:Sp):Prop:=xA P w K mg base (kR P w) cm k f d ps sp
theorem pcg{X:Cx}{k:Nat}{ps:List Str}{t:TA}{p:Pos}(x:FT X.K X.mg n s f d ps N) (F:xA X.prog X.w X.K X.mg X.base CX cm k f d ps sp) (hr:N8 cm k X.A) (hx:uB CX X E) (ha:PA X (e::es) t) (hg:Gl X n:=by rfl) (fZ:(n==("__debug__": Str))=false:=by decide) (he:starEach (e::es) X.env=(false,eval e X.env)::starEach es X.env:=by rfl) (xH:(backTo pos (starEach es X.env)).any (·.1)=false:=by rfl):PE X (.Call (.Name n p) (e::es) [] pos) (Ck sp [] E t):=Yy F hr hg x.m x.F.kp x.b .nil hx ha fZ he xH
theorem JC{X:Cx}{k j:Nat}{ps:List Str}{t:TA}{p:Pos}(x:FT X.K X.mg n s f d ps N) (F:xA X.prog X.w X.K X.mg X.base CX cm k f d ps sp) (hr:N8 cm j X.A) (ha:PA X (e::es) t) (hx:uB CX X E:=by exact O1.passes) (hk:k<=j:=by decide) (hg:Gl X n:=by rfl) (fZ:(n==("__debug__": Str))=false:=by decide) (he:starEach (e::es) X.env=(false,eval e X.env)::starEach es X.env:=by rfl) (xH:(backTo pos (starEach es X.env)).any (·.1)=false:=by rfl):PE X (.Call (.Name n p) (e::es) [] pos) (Ck sp [] E t):=pcg x F (hr.mono hk) hx ha hg fZ he xH
def oS{X:Cx}{e:Expr}{te:TE}{p pos:Pos}(z:X.mg "len"= none) (he:PE X e te) (hg:Gl X "len":= by rfl) (h1:starEach [e] X.env=[(false,eval e X.env)]:=by rfl):=FA (p:=p) (pos:=pos) DN hg z Nh (F0 he Z0 h1) (by decide) (by decide) h1 rfl
theorem zhy{us:Array Value}{dO:Option Addr}{no:Nat}{so:Array (Option Value)}{vs:List V}(o:K.lookup p=some ⟨.type "tuple",dO,.seq us no,so⟩) (h:us.size<=sizeLine/\k4 vs us.toList):∀H:Hp,S9 K H p vs:=λH=>.inr ⟨_,_,_,o,rfl,rfl,h.1,h.2⟩
end
structure oA(K:Frag)(mg:Str->Option Value)(a:Ad):Prop where
 eM:XT K mg "Refusal" a.f8
 MI:XT K mg "TooLong" a.lC
 n9:XT K mg "TextFault" a.U4
 Z8:XT K mg "CannotFillPanel" a.C4
 o9:XT K mg "LineFault" a.j2
 XD:CT K mg "Bond" a.fD
 M3:CT K mg "BondReader" a.M4
 i4:CT K mg "Opening" a.T3
 pA:CT K mg "Wall" a.cB
 l8:CT K mg "Panel" a.zB
 N4:CT K mg "WallReader" a.d5
 KA:CT K mg "Pile" a.V7
 OB:FT K mg "length_of" JQ a.Zb a.Ic ["row"] ["row","piece"]
 vD:FT K mg "cuts_in" XW a.Zp a.Fq ["row"] ["row","piece"]
 gA:FT K mg "joints_of" Vb a.Ac a.Jc ["row"] ["row","joints","place","piece"]
 p9:FT K mg "places_near" vV a.zV a.EV ["places","lap"] ["places","lap","near","step"]
 UE:FT K mg "break_joint" wV a.AV a.FV ["joints","others","lap"] ["joints","others","lap"]
 PB:FT K mg "places_in" KQ a.Bc a.Kc ["places"] ["places","place"]
 QB:FT K mg "bytes_of" WT a.Wh a.Fi ["word"] ["word","sign"]
 iD:FT K mg "split_at" Oh a.Xh a.Gi ["row","sign"] ["row","sign","parts","byte"]
 h9:FT K mg "read_lines" vY a.VF a.WF ["text","reader"] ["text","reader","parts","number","line","fault"]
 X9:FT K mg "fields_behind" nR a.tR a.zR ["word","line"] ["word","line","fields"]
 V6:FT K mg "field_behind" YT a.cU a.jU ["word","line"] ["word","line","fields"]
 r9:FT K mg "number_in" LQ a.Cc a.Lc ["field"] ["field","byte","number"]
 J8:FT K mg "number_from_to" GP a.NP a.WP ["field","least","most"] ["field","least","most","number"]
 mB:FT K mg "digit_from_to" oR a.uR a.DR ["field","least","most"] ["field","least","most"]
 JE:FT K mg "name_in" YW a.Aq a.Gq ["field"] ["field","byte"]
 qA:FT K mg "capitals_in" yM a.BV a.GV ["field"] ["field","byte"]
 gF:FT K mg "read_bond" Xb a.Dc a.Mc ["text"] ["text","reader"]
 ME:FT K mg "makes_in" Ph a.Yh a.Hi ["field"] ["field","pieces","number"]
 dB:FT K mg "pattern_in" gO a.yY a.DY ["field"] ["field","pieces","piece"]
 t9:FT K mg "pieces_in" uL a.Ec a.Nc ["field"] ["field","letters","byte"]
 W7:FT K mg "rows_keeping" ZT a.dU a.kU ["bond","course","length"] ["bond","course","length","rows","made_up","by_length","left","start"]
 B6:FT K mg "made_up_rows" vL a.eU a.lU ["bond"] ["bond","rows","longest","longer","row","piece"]
 D9:FT K mg "rows_by_length" HP a.OP a.ZP ["rows"] ["rows","by_length","row"]
 c6:FT K mg "rows_begun" iO a.zY a.EY ["left","pattern","start","length","by_length"] ["left","pattern","start","length","by_length","rows","begun","rest","number","right","piece"]
 iF:FT K mg "read_wall" Yb a.Fc a.Oc ["text"] ["text","reader"]
 YD:FT K mg "head_value" wY a.AY a.FY ["number","line"] ["number","line","field"]
 NI:FT K mg "end_in" Mv a.Qv a.Sv ["field"] ["field","number","word"]
 i9:FT K mg "opening_in" IJ a.BY a.GY ["line","length","height","before"] ["line","length","height","before","numbers","field","opening","other"]
 W8:FT K mg "stretches_of" aU a.fU a.mU ["wall","course"] ["wall","course","stretches","first","place"]
 u9:FT K mg "panels_of" MQ a.Gc a.Pc ["wall"] ["wall","rows","course","panels","row","stretch"]
 LA:FT K mg "courses_with" bU a.gU a.nU ["stretch","rows"] ["stretch","rows","count"]
 cG:FT K mg "ends_of" Vp a.Bq a.Hq ["wall","panel"] ["wall","panel","left","right"]
 K8:FT K mg "pieces_counted" IP a.PP a.aQ ["courses"] ["courses","counts","course","laid"]
 B7:FT K mg "fill_wall" wL a.Hc a.Qc ["bond","wall"] ["bond","wall","courses","course","number","panel","rows","step","row"]
 RB:FT K mg "row_laid" Qh a.Zh a.Ii ["row","first"] ["row","first","laid","place","piece"]
 eB:FT K mg "floor_of" Rh a.Ai a.Ji ["wall","panel","courses"] ["wall","panel","courses","floor","place","piece","within"]
 oC:FT K mg "begins_stretch" JP a.QP a.bQ ["wall","place","course"] ["wall","place","course"]
 P5:FT K mg "filling_told" DG a.hU a.oU ["bond","panel","ends","floor"] ["bond","panel","ends","floor","top","rows","piles","joints","course","pile"]
 jD:FT K mg "order_of" Sh a.Bi a.Ki ["pile"] ["pile"]
 dG:FT K mg "rows_of" Xp a.Cq a.Iq ["pile"] ["pile","rows"]
 SB:FT K mg "rows_for" Th a.Ci a.Li ["bond","course","length","ends"] ["bond","course","length","ends","rows","row","joints"]
 PJ:FT K mg "ends_fit" Uh a.Di a.Mi ["row","course","ends"] ["row","course","ends"]
 JG:FT K mg "end_fits" Vh a.Ei a.Ni ["piece","course","end"] ["piece","course","end"]
 W6:FT K mg "piles_under" xV a.CV a.IV ["piles","rows","lap"] ["piles","rows","lap","ordered","with_joint","found","joints","borne","place"]
 C7:FT K mg "piles_by_joint" KP a.RP a.cQ ["ordered"] ["ordered","with_joint","number","pile","place"]
 XF:FT K mg "lowest_bit" xY a.CY a.HY ["bits"] ["bits"]
 OI:FT K mg "counts" Nv a.AL a.HG ["b","t"] ["b","t","courses","refusal"]
 KC:FT K mg "refuse_long" yV a.DV a.JV ["rows"] ["rows","row"]
 fM:FT K mg "refused" Yp a.Dq a.Jq ["refusal"] ["refusal"]
 GL:FT K mg "answer" Ov a.Rv a.Tv ["number","row","signs"] ["number","row","signs"]
 L8:MT K a.f8 "__init__" "Refusal.__init__" WM a.FG a.bN ["self","number","told"] ["self","number","told"]
 K9:MT K a.lC "__init__" "TooLong.__init__" XM a.ZM a.cN ["self"] ["self"]
 C6:MT K a.U4 "__init__" "TextFault.__init__" xL a.BL a.EL ["self","line","kind"] ["self","line","kind"]
 D6:MT K a.C4 "__init__" "CannotFillPanel.__init__" EG a.GG a.IG ["self","panel"] ["self","panel"]
 X8:MT K a.j2 "__init__" "LineFault.__init__" yL a.DL a.FL ["self","kind"] ["self","kind"]
 nB:MT K a.fD "__init__" "Bond.__init__" pR a.vR a.ER ["self","lap","most","makes","patterns"] ["self","lap","most","makes","patterns"]
 X7:MT K a.fD "pattern_of" "Bond.pattern_of" jO a.nO a.qO ["self","course"] ["self","course"]
 w8:MT K a.M4 "__init__" "BondReader.__init__" uK a.yK a.CK ["self"] ["self"]
 iA:MT K a.M4 "take" "BondReader.take" kO a.oO a.rO ["self","line"] ["self","line"]
 V5:MT K a.M4 "take_course" "BondReader.take_course" MH a.NH a.OH ["self","field"] ["self","field","pattern"]
 Y7:MT K a.M4 "take_rest" "BondReader.take_rest" JJ a.LJ a.NJ ["self","rest"] ["self","rest"]
 L9:MT K a.T3 "__init__" "Opening.__init__" YM a.aN a.dN ["self","numbers"] ["self","numbers"]
 B8:MT K a.T3 "lies_within" "Opening.lies_within" vK a.zK a.DK ["self","length","height"] ["self","length","height"]
 K7:MT K a.T3 "stands_behind" "Opening.stands_behind" II a.JI a.LI ["self","other"] ["self","other"]
 d9:MT K a.T3 "meets" "Opening.meets" qR a.wR a.FR ["self","other"] ["self","other","side_by_side","one_above_another"]
 MA:MT K a.T3 "covers" "Opening.covers" LP a.UP a.dQ ["self","place","course"] ["self","place","course"]
 oB:MT K a.cB "__init__" "Wall.__init__" rR a.xR a.GR ["self","head","openings"] ["self","head","openings"]
 Z7:MT K a.cB "is_open" "Wall.is_open" zL a.iU a.pU ["self","place","course"] ["self","place","course","opening"]
 NA:MT K a.zB "__init__" "Panel.__init__" MP a.VP a.eQ ["self","place","course","length","courses"] ["self","place","course","length","courses"]
 C8:MT K a.d5 "__init__" "WallReader.__init__" wK a.AK a.EK ["self"] ["self"]
 Z5:MT K a.d5 "has_head" "WallReader.has_head" xK a.BK a.FK ["self"] ["self"]
 a9:MT K a.d5 "take" "WallReader.take" mO a.pO a.sO ["self","line"] ["self","line"]
 a8:MT K a.d5 "take_rest" "WallReader.take_rest" KJ a.MJ a.OJ ["self","rest"] ["self","rest"]
 f9:MT K a.V7 "__init__" "Pile.__init__" sR a.yR a.IR ["self","row","joints","above"] ["self","row","joints","above"]
 Mq:D3 K a.f8 "number"
 Vv:D3 K a.f8 "told"
 QI:D3 K a.lC "number"
 HL:D3 K a.lC "told"
 fQ:D3 K a.U4 "kind"
 gQ:D3 K a.U4 "line"
 KG:D3 K a.U4 "number"
 RI:D3 K a.U4 "told"
 LC:D3 K a.C4 "number"
 SI:D3 K a.C4 "panel"
 ZD:D3 K a.C4 "told"
 OE:D3 K a.j2 "kind"
 eN:D3 K a.fD "lap"
 vO:D3 K a.fD "makes"
 NQ:D3 K a.fD "most"
 AF:D3 K a.fD "patterns"
 QE:D3 K a.M4 "lap"
 kD:D3 K a.M4 "makes"
 AB:D3 K a.M4 "most"
 D8:D3 K a.M4 "patterns"
 M8:D3 K a.M4 "taken"
 TB:D3 K a.T3 "high"
 UB:D3 K a.T3 "wide"
 VB:D3 K a.T3 "x"
 WB:D3 K a.T3 "y"
 RH:D3 K a.cB "height"
 OQ:D3 K a.cB "left"
 VE:D3 K a.cB "length"
 Vc:D3 K a.cB "name"
 iK:D3 K a.cB "openings"
 SH:D3 K a.cB "reveal"
 wO:D3 K a.cB "right"
 M9:D3 K a.zB "course"
 jK:D3 K a.zB "courses"
 XB:D3 K a.zB "length"
 sB:D3 K a.zB "place"
 b8:D3 K a.d5 "head"
 mD:D3 K a.d5 "lines"
 P9:D3 K a.d5 "openings"
 yO:D3 K a.V7 "above"
 vH:D3 K a.V7 "cuts"
 TH:D3 K a.V7 "joints"
 WE:D3 K a.V7 "pieces"
 fN:D3 K a.V7 "row"
 pD:CAt K a.f8 "__init__" a.FG
 Ul:exmOne K (.ref a.f8) (.ref a.f8)=some true
 zO:exmOne K (.ref a.lC) (.ref a.f8)=some true
 nM:exmOne K (.ref a.U4) (.ref a.f8)=some true
 XG:exmOne K (.ref a.C4) (.ref a.f8)=some true
 Ff:exmOne K (.ref a.j2) (.ref a.f8)=some false
 Gf:exmOne K (.ref a.f8) (.ref a.j2)=some false
 Hf:exmOne K (.ref a.lC) (.ref a.j2)=some false
 pZ:exmOne K (.ref a.U4) (.ref a.j2)=some false
 pS:exmOne K (.ref a.C4) (.ref a.j2)=some false
 tE:exmOne K (.ref a.j2) (.ref a.j2)=some true
 c7:mg "OTHER_LINE"= some (.int 1 a.IY)
 TC:mg "OUT_OF_BOUNDS"= some (.int 2 a.JR)
 zU:mg "OUT_OF_ORDER"= some (.int 3 a.qU)
 AO:mg "PLACE_IN_COMMON"= some (.int 4 a.uO)
 Qi:mg "TOO_MANY"= some (.int 5 a.Oi)
 LG:mg "WRONG_LETTER"= some (.int 3 a.sU)
 AU:mg "NINTH_COURSE"= some (.int 4 a.tU)
 ZW:mg "LETTERS"= some (.str "SHTBC" a.Lq)
 gM:mg "LENGTHS"= some (.ref a.rB)
 iM:∀H:Hp,S9 K H a.rB [.int 4,.int 2,.int 3,.int 2,.int 1]
 LY:mg "BRICK_SIDE"= some (.int 0 a.JY)
 Xc:mg "BRICK_END"= some (.int 1 a.Rc)
 Yc:mg "FIRST_CUT"= some (.int 2 a.Sc)
 Zc:mg "LINE_FEED"= some (.int 10 a.Tc)
 zar:mg "BLANK"= some (.int 32 a.zap)
 BU:mg "NOUGHT"= some (.int 48 a.Uv)
 zc3:mg "NINE"= some (.int 57 a.zc1)
 PR:mg "FIRST_CAPITAL"= some (.int 65 a.MR)
 CU:mg "LAST_CAPITAL"= some (.int 90 a.uU)
 DU:mg "FIRST_LETTER"= some (.int 97 a.vU)
 PV:mg "LAST_LETTER"= some (.int 122 a.LV)
 QV:mg "MOST_DIGITS"= some (.int 5 a.MV)
 oM:mg "MOST_NAME_LETTERS"= some (.int 15 a.mM)
 Ri:mg "MOST_LAP"= some (.int 3 a.Pi)
 Cd:mg "MOST_MOST"= some (.int 2 a.Uc)
 EU:mg "MOST_COURSES"= some (.int 8 a.wU)
 FU:mg "MOST_PATTERN"= some (.int 8 a.xU)
 BO:mg "HEAD_WORDS"= some (.ref a.mC)
 DO:∀H:Hp,S9 K H a.mC [.str "wall",.str "long",.str "high",.str "left",.str "right",.str "reveal"]
 GU:mg "OPENING_WORD"= some (.str "open" a.yU)
 Dd:mg "END_WORDS"= some (.ref a.fF)
 PQ:∀H:Hp,S9 K H a.fF [.str "free",.str "side",.str "end"]
 zc4:mg "FREE"= some (.int 0 a.zc2)
 RV:mg "MOST_LENGTH"= some (.int 32 a.NV)
 SV:mg "MOST_HEIGHT"= some (.int 8 a.OV)
 QR:mg "MOST_OPENINGS"= some (.int 8 a.NR)
 MY:mg "MOST_BYTES"= some (.int 4096 a.KY)
 Ed:mg "all"= none
 zbm:mg "any"= none
 wD:mg "enumerate"= none
 UA:mg "len"= none
 ze4:mg "min"= none
 ze5:mg "ord"= none
 wH:mg "range"= none
 Fd:mg "sorted"= none
 ze6:mg "sum"= none
 zas:mg "tuple"= none
 bt:∀(s:Shared)(us:List Value),us.length=(["b","t"]:List Str).length->BindsTo s a.HG ⟨us,[]⟩ ((["b","t"]:List Str).zip us)
theorem zc5{K:Frag}{fa:Addr}{a:Ad}(hfa:mg "counts"= some (.ref fa)) (T:oA K mg a):∃a:Ad,fa=a.AL/\oA K mg a/\∀(s:Shared)(us:List Value),us.length=(["b","t"]:List Str).length->BindsTo s a.HG ⟨us,[]⟩ ((["b","t"]:List Str).zip us):=⟨a,Value.ref.inj (J0 (hfa.symm.trans T.OI.m)),T,T.bt⟩
theorem ln1(h:∀a:Value,P [a]):∀us:List Value,us.length=1->P us
 |[_],_=>h _
theorem ln2(h:∀a b:Value,P [a,b]):∀us:List Value,us.length=2->P us
 |[_,_],_=>h _ _
theorem ln3(h:∀a b c:Value,P [a,b,c]):∀us:List Value,us.length=3->P us
 |[_,_,_],_=>h _ _ _
theorem ln4(h:∀a b c d:Value,P [a,b,c,d]):∀us:List Value,us.length=4->P us
 |[_,_,_,_],_=>h _ _ _ _
theorem ln5(h:∀a b c d e:Value,P [a,b,c,d,e]):∀us:List Value,us.length=5->P us
 |[_,_,_,_,_],_=>h _ _ _ _ _
def iB(b:Bytes):List V:=b.map λc=>V.int ((c.toNat:Nat):Int)
def aX(H H':Hp):Prop:=∀b o,H b=some o->(∀φ,o≠.ext φ)->H' b=some o
theorem _root_.L2.Same.thenM{H2:Hp}(a:Same H H1) (b:aX H1 H2):aX H H2:=λc o h n=>b c o (a c o h) n
theorem _root_.L2.Same.new{o:HO}(s:Same H H') (h:H' p=Option.none):Same H (upd H' p o):=λb u e=>by
 rw[M0 (C1 (s b u e) h)];exact s b u e
theorem _root_.L2.Same.set{o:HO}(s:Same H H') (h:H p=Option.none):Same H (upd H' p o):=λb u e=>by
 rw[M0 (C1 e h)];exact s b u e
theorem _root_.L2.Same.tup{K:Frag}(e:Same H H') (h:S9 K H a xs):S9 K H' a xs:=by
 rcases h with(h|⟨o,h⟩)|h
 .exact .inl (.inl (e _ _ h))
 .exact .inl (.inr ⟨o,e _ _ h⟩)
 .exact .inr h
abbrev Rows(H:Hp):List Addr->List Bytes->Prop:=Paired λa b=>H a=some (.lst (iB b))
theorem Rows.same{bs:List Bytes}(s:Same H H') (r:Rows H as bs):Rows H' as bs:=Paired.mapP r λ_ _ h=>s _ _ h
theorem Rows.get:∀{as:List Addr}{bs:List Bytes}{i:Nat}{b:Bytes},Rows H as bs->bs[i]?=some b->∃a,as[i]?=some a/\H a=some (.lst (iB b))
 |_,_,_,_,.nil,h=>by simp at h
 |_,_,0,_,.cons h t,e=>by
  have e':=J0 e;subst e';exact⟨_,rfl,h⟩
 |_,_,i+1,b,.cons h t,e=>by
  obtain⟨a,h1,h2⟩:=Rows.get (i:=i) (b:=b) t e;exact⟨a,h1,h2⟩
theorem b9(h:(ts.map V.ref)[i]?=some v):∃u,ts[i]?=some u/\v=.ref u:=by
 rw[P1]at h;cases e:ts[i]? with
 |none=>rw[e]at h;cases h
 |some u=>rw[e]at h;exact⟨u,rfl,(J0 h).symm⟩
theorem Rows.upd{H:Hp}{z:Addr}{o:HO}:∀{as:List Addr}{bs:List Bytes},Rows H as bs->z∉as->Rows (upd H z o) as bs
 |_,_,.nil,_=>.nil
 |_,_,.cons h t,n=>.cons (by rw[M0 (λq=>n (by simp[q]))];exact h) (Rows.upd t λq=>n (by simp[q]))
def BB(C:Addr)(E:XK)(H:Hp)(k:Nat):Prop:=∀(d:Addr)(H':Hp),aX H H'->H' d=some (.xd [("kind",.int (k:Int))])->E (C,true) (some d) H'
theorem BB.same{E:XK}{k:Nat}(f:BB C E H k) (s:Same H H1):BB C E H1 k:=λd H' m e=>f d H' (s.thenM m) e
inductive Si(C:Addr)(f:Str)(vs:List V)(H:Hp)(Q:VK)(E':XK):Prop
 |mk (p:Addr) (v:V) (fr:Bool) (tb:Value):vs=[.ref p,v]->H p=some (xO C fr none tb p)->(∀(d:Addr)(H':Hp),H d=none->d≠p->H' p=some (xO C fr (some d) tb p)->H' d=some (.xd [(f,v)])->(∀b,b≠p->b≠d->H' b=H b)->Q .non H')->Si C f vs H Q E'
section
variable {P:Program}{w:World}{K:Frag}{a:Ad}
theorem GK(T:oA K mg a):Mo mg P w base cm T.X8 1 (Si a.j2 "kind"):=by
 refine T.X8.F.kk T.X8.S λH vs Q E h=>?_;obtain⟨p,v,fr,tb,rfl,hp,k⟩:=h;refine⟨rfl,λhr=>?_⟩;refine⟨_,(X0 (bM (pv 0) (pv 1) rfl)),?_⟩;exact⟨_,rfl,_,rfl,p,_,fr,none,tb,rfl,hp,T.o9.D,T.OE,.inl ⟨rfl,k⟩⟩
def HU{X:Cx}{W:WX}{e:Expr}{te:TE}{p q pos:Pos}(T:oA X.K X.mg a) (tk:GC X W) (hr:N8 cm 2 X.A) (he:PE X e te) (hg:Gl X "LineFault":= by rfl) (hc:X.calm=true:=by rfl) (h1:starEach [e] X.env=[(false,eval e X.env)]:=by rfl):=SS (pos:=q) tk hc (LN (p:=p) (pos:=pos) (T.o9.k0 T.X8) (GK (P:=X.prog) (w:=X.w) (base:=X.base) (cm:=cm) T) hr hg T.o9.m T.X8.b tk (F0 he Z0 h1) (by decide) h1 rfl)
inductive zbn(K:Frag)(vs:List V)(H:Hp)(Q:VK)(E':XK):Prop
 |mk (p C:Addr) (v u:V) (fr:Bool) (tb:Value):vs=[.ref p,v,u]->eY K C->D3 K C "number" -> D3 K C "told" -> H p=some (xO C fr none tb p)->(∀(d:Addr)(H':Hp),H d=none->d≠p->H' p=some (xO C fr (some d) tb p)->H' d=some (.xd [("number",v),("told",u)])->(∀b,b≠p->b≠d->H' b=H b)->Q .non H')->zbn K vs H Q E'
theorem BC(T:oA K mg a):Mo mg P w base cm T.L8 1 (zbn K):=by
 refine T.L8.F.kk T.L8.S λH vs Q E h=>?_;obtain⟨p,C,v,u,fr,tb,rfl,xc,na,nb,hp,k⟩:=h;refine⟨rfl,λhr=>?_⟩;refine⟨_,(T0 (bM (pv 0) (pv 1) rfl)
  (X0 (bM (pv 0) (pv 2) rfl))),?_⟩
 refine⟨_,rfl,_,rfl,p,C,fr,none,tb,rfl,hp,xc,na,.inl ⟨rfl,λd H1 nd dp e1 e2 kp=>?_⟩⟩;refine⟨_,rfl,_,rfl,p,C,fr,some d,tb,rfl,e1,xc,nb,.inr ⟨d,_,rfl,e2,(by show 1<1000;decide),?_⟩⟩;refine k d _ nd dp (by rw[M0 (K2 dp)];exact e1) ?_ λb hb hd=>by rw[M0 hd];exact kp b hb hd
 rw[C0];rfl
def rfF(n:Int)(q:Addr):List (Str×V):=[("number",.int n),("told",.ref q)]
inductive Ti(C:Addr)(n:Int)(vs:List V)(H:Hp)(Q:VK)(E':XK):Prop
 |mk (p:Addr) (fr:Bool) (tb:Value):vs=[.ref p]->H p=some (xO C fr none tb p)->(∀(d q:Addr)(H':Hp),H d=none->H q=none->d≠p->H' p=some (xO C fr (some d) tb p)->H' d=some (.xd (rfF n q))->H' q=some (.lst [])->(∀b,b≠p->b≠d->b≠q->H' b=H b)->Q .non H')->Ti C n vs H Q E'
theorem pM(T:oA K mg a):Mo mg P w base cm T.K9 2 (Ti a.lC (-1)):=by
 refine T.K9.F.kk T.K9.S λH vs Q E h=>?_;obtain⟨p,fr,tb,rfl,hp,k⟩:=h;refine⟨rfl,λhr=>?_⟩;refine⟨_,(X0 (L6 (XS (BC T) hr.mo rfl T.eM.m T.pD T.L8.b O1.passes (F0 (pv 0) (F0 (bK jG A2) (F0 (d6 Z0) Z0)))))),?_⟩;refine⟨_,rfl,_,rfl,E1 _,λq nq=>?_⟩;have pq:p≠q:=C1 hp nq;refine⟨p,_,_,_,fr,tb,rfl,T.MI.D,T.QI,T.HL,by rw[M0 pq];exact hp,λd H1 nd dp e1 e2 kp=>?_⟩;have dq:d≠q:=λe=>by rw[e,C0]at nd;cases nd
 refine k d q H1 (by rw[M0 dq]at nd;exact nd) nq dp e1 e2 (by rw[kp q (K2 pq) (K2 dq)];exact C0) λb h1 h2 h3=>by rw[kp b h1 h2,M0 h3]
def wfF(q:Addr)(i k:V):List (Str×V):=[("number",.int (-6)),("told",.ref q),("line",i),("kind",k)]
inductive QQ(C:Addr)(vs:List V)(H:Hp)(Q:VK)(E':XK):Prop
 |mk (p:Addr) (i k:V) (fr:Bool) (tb:Value):vs=[.ref p,i,k]->H p=some (xO C fr none tb p)->(∀(d q:Addr)(H':Hp),H d=none->H q=none->d≠p->H' p=some (xO C fr (some d) tb p)->H' d=some (.xd (wfF q i k))->H' q=some (.lst [])->(∀b,b≠p->b≠d->b≠q->H' b=H b)->Q .non H')->QQ C vs H Q E'
theorem uE(T:oA K mg a):Mo mg P w base cm T.C6 2 (QQ a.U4):=by
 refine T.C6.F.kk T.C6.S λH vs Q E h=>?_;obtain⟨p,i,kk,fr,tb,rfl,hp,k⟩:=h;refine⟨rfl,λhr=>?_⟩;refine⟨_,(T0 (L6 (XS (BC T) hr.mo rfl T.eM.m T.pD T.L8.b O1.passes (F0 (pv 0) (F0 (bK jG A2) (F0 (d6 Z0) Z0)))))
  (T0 (bM (pv 0) (pv 1) rfl)
  (X0 (bM (pv 0) (pv 2) rfl)))),?_⟩
 refine⟨_,rfl,_,rfl,E1 _,λq nq=>?_⟩;have pq:p≠q:=C1 hp nq;refine⟨p,_,_,_,fr,tb,rfl,T.n9.D,T.KG,T.RI,by rw[M0 pq];exact hp,λd H1 nd dp e1 e2 kp=>?_⟩;have dq:d≠q:=λe=>by rw[e,C0]at nd;cases nd
 refine⟨_,rfl,_,rfl,p,_,fr,some d,tb,rfl,e1,T.n9.D,T.gQ,.inr ⟨d,_,rfl,e2,(by show 2<1000;decide),?_⟩⟩;have e3:upd H1 d (.xd (lG "line" i [("number",.int (-6)),("told",.ref q)])) p=some (xO a.U4 fr (some d) tb p):=by
  rw[M0 (K2 dp)];exact e1
 refine⟨_,rfl,_,rfl,p,_,fr,some d,tb,rfl,e3,T.n9.D,T.fQ,.inr ⟨d,_,rfl,C0,(by show 3<1000;decide),?_⟩⟩;rw[V4];refine k d q _ (by rw[M0 dq]at nd;exact nd) nq dp (by rw[M0 (K2 dp)];exact e1) ?_ (by rw[M0 (K2 dq),kp q (K2 pq) (K2 dq)];exact C0) λb hb hd hq=>by rw[M0 hd,kp b hb hd,M0 hq]
 rw[C0];rfl
theorem F4(T:oA K mg a){E:XK}{k:Nat}{D:MK}(h:BB a.j2 E H k) :
  cY K (λ_=>E) (US a.j2 (Si a.j2 "kind") (λ_=>E) (Bk (tC (.int (k:Int))) yZ)) D σ H:=by
 refine⟨(by show 1<=1000;decide),λx hx=>⟨x,_,true,.none,rfl,C0,λd H' nd dx e1 e2 kp=>⟨rfl,x,_,some d,rfl,e1,T.o9.E,?_⟩⟩⟩;refine h d _ (λb o e n=>?_) (LD e2 λφ q=>nomatch q);have bx:b≠x:=C1 e hx;have nd':H d=none:=by
  rw[M0 dx]at nd;exact nd
 refine LD ?_ n;rw[kp b bx (C1 e nd'),M0 bx];exact e
def Wv(C:Addr)(n:Int)(E:XK)(H:Hp):Prop:=∀(d q:Addr)(H':Hp),aX H H'->H' d=some (.xd (rfF n q))->H' q=some (.lst [])->E (C,true) (some d) H'
theorem Ui{n:Int}(hE:To K C) {E:XK}{D:MK}(h:Wv C n E H) :
  cY K (λ_=>E) (US C (Ti C n) (λ_=>E) yZ) D σ H:=by
 refine⟨(by show 0<=1000;decide),λx hx=>⟨x,true,.none,rfl,C0,λd q H' nd nq dx e1 e2 e3 kp=>⟨rfl,x,_,some d,rfl,e1,hE,?_⟩⟩⟩;refine h d q _ (λb o e n=>?_) (LD e2 λφ q=>nomatch q) (LD e3 λφ q=>nomatch q);have bx:b≠x:=C1 e hx;have nd':H d=none:=by
  rw[M0 dx]at nd;exact nd
 have qx:q≠x:=λe=>by
  rw[e,C0]at nq;cases nq
 have nq':H q=none:=by
  rw[M0 qx]at nq;exact nq
 refine LD ?_ n;rw[kp b bx (C1 e nd') (C1 e nq'),M0 bx];exact e
end
section
variable {K:Frag}{tb:TS}{D:MK}
theorem gN:1000000<=sizeLine:=by decide
theorem IL(Pv:Nat->L2.St->Hp->Prop)(h0:Pv 0 σ H)(hl:∀i σ H,i<=xs.length->Pv i σ H->SqL K H a xs)
 (hs:∀i x σ H T,xs[i]?=some x->Pv i σ H->H T=none->g (.ref T) σ (upd H T (.tup [.int (i:Nat),x])) λσ2 H2=>tb {D with nx:=Pv (i+1),ct:=Pv (i+1),bk:=D.nx} σ2 H2) (hd:∀σ H,Pv xs.length σ H->D.nx σ H) :
   ∃W:Nat->Nat->L2.St->Hp->Prop,(∃m,W 0 m σ H)/\∀i m σ H,W i m σ H->
    ((Ite K a).stop i H/\D.nx σ H)\/((Ite K a).go i H/\∃N:L2.St->Hp->Prop,(∀σ' H',N σ' H'->∃m',m'<m/\W (i+1) m' σ' H')/\∀x H',(Ite K a).yld i H x H'->g x σ H' λσ2 H2=>tb {D with nx:=N,ct:=N,bk:=D.nx} σ2 H2):=by
  refine⟨λi m σ H=>m=xs.length-i/\i<=xs.length/\Pv i σ H,⟨xs.length,by simp,E1 _,h0⟩,?_⟩;rintro i m σ H ⟨rfl,hi,p⟩;have q:=hl i σ H hi p;by_cases UC:i<xs.length
  .refine .inr ⟨⟨xs,xs[i],q,by simp[UC]⟩,Pv (i+1),λσ' H' p'=>⟨xs.length-(i+1),by lia,rfl,UC,p'⟩,λx H' y=>?_⟩;obtain⟨t,z,rfl,ht,rfl,y⟩:=y;exact hs i z σ H t (y xs q) p ht
  .have e:i=xs.length:=by lia
   subst e;exact .inl ⟨⟨xs,q,j1 _⟩,hd σ H p⟩
theorem Nq(Pv:Nat->L2.St->Hp->Prop)(h0:Pv 0 σ H)(hl:∀i σ H,i<=xs.length->Pv i σ H->S9 K H a xs)
 (hs:∀i x σ H T,xs[i]?=some x->Pv i σ H->H T=none->g (.ref T) σ (upd H T (.tup [.int (i:Nat),x])) λσ2 H2=>tb {D with nx:=Pv (i+1),ct:=Pv (i+1),bk:=D.nx} σ2 H2) (hd:∀σ H,Pv xs.length σ H->D.nx σ H) :
   ∃W:Nat->Nat->L2.St->Hp->Prop,(∃m,W 0 m σ H)/\∀i m σ H,W i m σ H->
    ((Eu K a).stop i H/\D.nx σ H)\/((Eu K a).go i H/\∃N:L2.St->Hp->Prop,(∀σ' H',N σ' H'->∃m',m'<m/\W (i+1) m' σ' H')/\∀x H',(Eu K a).yld i H x H'->g x σ H' λσ2 H2=>tb {D with nx:=N,ct:=N,bk:=D.nx} σ2 H2):=by
  refine⟨λi m σ H=>m=xs.length-i/\i<=xs.length/\Pv i σ H,⟨xs.length,by simp,E1 _,h0⟩,?_⟩;rintro i m σ H ⟨rfl,hi,p⟩;have q:=hl i σ H hi p;by_cases UC:i<xs.length
  .refine .inr ⟨⟨xs,xs[i],q,by simp[UC]⟩,Pv (i+1),λσ' H' p'=>⟨xs.length-(i+1),by lia,rfl,UC,p'⟩,λx H' y=>?_⟩;obtain⟨t,z,rfl,ht,rfl,y⟩:=y;exact hs i z σ H t (y xs q) p ht
  .have e:i=xs.length:=by lia
   subst e;exact .inl ⟨⟨xs,q,j1 _⟩,hd σ H p⟩
end
section
variable {Dl:Addr}
theorem Q3{α:Type}:∀{l:List α}{i:Nat}{x:α},l[i]?=some x->l.take (i+1)=l.take i++[x]
 |[],i,x,h=>by simp at h
 |a::l,0,x,h=>by
  have e:a=x:=J0 h;subst e;rfl
 |a::l,i+1,x,h=>by
  have ih:=Q3 (l:=l) (i:=i) (x:=x) h;show a::l.take (i+1)=a::l.take i++[x];rw[ih];rfl
theorem Vi{K:Frag}(f:V->V) (hq:SqL K H1 a xs) (hl:xs.length<1000000) (hn:H1 Dl=none)
 (he:∀x∈xs,∀(H':Hp)(R:VK),R (f x) H'->g x (T8 σ vs) H' λσ2 H2=>T8 σ2 vs=T8 σ vs/\H2=H'/\te σ2 H' R)
 (hg:∀x H' (R R':L2.St->Hp->Prop),(∀σ2 H2,R σ2 H2->R' σ2 H2)->g x (T8 σ vs) H' R->g x (T8 σ vs) H' R')
 (hd:Qd (upd H1 Dl (.lst (xs.map f)))) :
   ∃W:Nat->Nat->Hp->Prop,(∃m,W 0 m (upd H1 Dl (.lst [])))/\∀i m H,W i m H->
    ((Is K a).stop i H/\Qd H)\/((Is K a).go i H/\∃Nx:Hp->Prop,(∀H',Nx H'->∃m',m'<m/\W (i+1) m' H')/\∀x H',(Is K a).yld i H x H'->g x (T8 σ vs) H' λσ2 H2=>T8 σ2 vs=T8 σ vs/\Hg σ2 H2 λb H3=>
      if b=true then te σ2 H3 λy H4=>∃acc,H4 Dl=some (.lst acc)/\acc.length<sizeLine/\Nx (upd H4 Dl (.lst (acc++[y])))else Nx H3):=by
  refine RF (xs:=xs) (λi H=>H=upd H1 Dl (.lst ((xs.take i).map f))) rfl (λi H hi e=>?_) (λi x H hx e=>?_) λH e=>?_
  .rw[e];exact Same.seq (λb o z=>by rw[M0 (C1 z hn)];exact z) hq
  .subst e;refine hg x _ _ _ ?_ (he x (N1 hx) (upd H1 Dl (.lst ((xs.take i).map f))) (λy H4=>∃acc,H4 Dl=some (.lst acc)/\acc.length<sizeLine/\upd H4 Dl (.lst (acc++[y]))=upd H1 Dl (.lst ((xs.take (i+1)).map f)))
    ⟨_,C0,by rw[B0,Z1];exact F9 (yE _ _) (O2 hl gN),by rw[V4,Q3 hx,V0];rfl⟩)
   rintro σ2 H2 ⟨w1,rfl,q⟩;exact⟨w1,q⟩
  .rw[e,V1];exact hd
theorem Oq{z:Str}(f:Nat->V) (hl:z.cps.toList.length<1000000) (hn:H1 Dl=none)
 (he:∀(c:Nat)(H':Hp)(R:VK),R (f c) H'->g (.str ⟨#[c]⟩) (T8 σ vs) H' λσ2 H2=>T8 σ2 vs=T8 σ vs/\H2=H'/\te σ2 H' R)
 (hg:∀x H' (R R':L2.St->Hp->Prop),(∀σ2 H2,R σ2 H2->R' σ2 H2)->g x (T8 σ vs) H' R->g x (T8 σ vs) H' R')
 (hd:Qd (upd H1 Dl (.lst (z.cps.toList.map f)))) :
   ∃W:Nat->Nat->Hp->Prop,(∃m,W 0 m (upd H1 Dl (.lst [])))/\∀i m H,W i m H->
    ((Its z).stop i H/\Qd H)\/((Its z).go i H/\∃Nx:Hp->Prop,(∀H',Nx H'->∃m',m'<m/\W (i+1) m' H')/\∀x H',(Its z).yld i H x H'->g x (T8 σ vs) H' λσ2 H2=>T8 σ2 vs=T8 σ vs/\Hg σ2 H2 λb H3=>
      if b=true then te σ2 H3 λy H4=>∃acc,H4 Dl=some (.lst acc)/\acc.length<sizeLine/\Nx (upd H4 Dl (.lst (acc++[y])))else Nx H3):=by
  have hz:z.cps.toList.length=z.cps.size:=IF;refine⟨λi m H=>m=z.cps.size-i/\i<=z.cps.size/\H=upd H1 Dl (.lst ((z.cps.toList.take i).map f)),⟨z.cps.size,by simp,E1 _,rfl⟩,?_⟩;rintro i m H ⟨rfl,hi,rfl⟩;by_cases UC:i<z.cps.size
  .refine .inr ⟨UC,λH'=>H'=upd H1 Dl (.lst ((z.cps.toList.take (i+1)).map f)),λH' p'=>⟨z.cps.size-(i+1),by lia,rfl,UC,p'⟩,λx H' y=>?_⟩;obtain⟨rfl,c,hc,rfl⟩:=y;have hx:z.cps.toList[i]?=some c:=by simpa using hc
   refine hg _ _ _ _ ?_ (he c _ (λy H4=>∃acc,H4 Dl=some (.lst acc)/\acc.length<sizeLine/\upd H4 Dl (.lst (acc++[y]))=upd H1 Dl (.lst ((z.cps.toList.take (i+1)).map f)))
    ⟨_,C0,by rw[B0,Z1];exact F9 (yE _ _) (O2 hl gN),by rw[V4,Q3 hx,V0];rfl⟩)
   rintro σ2 H2 ⟨w1,rfl,q⟩;exact⟨w1,q⟩
  .have e:i=z.cps.size:=by lia
   subst e;refine .inl ⟨j1 _,?_⟩;rw[<-hz,V1];exact hd
end
inductive Gd(vs:List V)(H:Hp)(Q:VK)(E':XK):Prop
 |mk (n:Int) (r s:Addr) (rs ss:List Int):vs=[.int n,.ref r,.ref s]->H r=some (.lst (rs.map V.int))->H s=some (.lst (ss.map V.int))->rs.length<=100000->ss.length<=100000->(∀(H':Hp)(p:Addr),Same H H'->H' p=some (.lst ((n::(rs.length:Int)::(rs++(ss.length:Int)::ss)).map V.int))->Q (.ref p) H')->Gd vs H Q E'
inductive bX(vs:List V)(H:Hp)(Q:VK)(E':XK):Prop
 |mk (z:Str):vs=[.str z]->z.cps.toList.length<1000->(∀(H':Hp)(p:Addr),Same H H'->H p=none->H' p=some (.lst (z.cps.toList.map λn=>V.int ((n:Nat):Int)))->Q (.ref p) H')->bX vs H Q E'
inductive Vl(K:Frag)(vs:List V)(H:Hp)(Q:VK)(E':XK):Prop
 |mk (l:Addr) (b:Bytes) (c:UInt8):vs=[.ref l,.int c.toNat]->SqL K H l (iB b)->b.length<=10000->(∀(H':Hp)(p:Addr)(as:List Addr),Same H H'->H p=none->(∀x∈as,H x=none)->H' p=some (.lst (as.map V.ref))->Rows H' as (F8 c b)->Q (.ref p) H')->Vl K vs H Q E'
section
variable {P:Program}{w:World}{K:Frag}{a:Ad}
theorem cX(T:oA K mg a):Fo P w base cm T.GL 1 Gd:=by
 refine T.GL.F.kk T.GL.S λH vs Q E h=>?_;obtain⟨n,r,s,rs,ss,rfl,h1,h2,l1,l2,k⟩:=h;refine⟨rfl,λhr=>?_⟩;refine⟨_,(X0 (S3 (W4 Cg (W4 Cg (W4 Cg (d6 (F0 (pv 0) (F0 (oS T.UA (pv 1)) Z0))) (pv 1)) (d6 (F0 (oS T.UA (pv 2)) Z0))) (pv 2)))),?_⟩;have zl:=gN;refine⟨_,rfl,_,rfl,r,_,rfl,.inl (SqL.of h1),(by show 2<=sizeLine;decide),λp1 n1=>?_⟩;have s1:Same H (upd H p1 (.lst [.int n,.int ((rs.map V.int).length:Nat)])):=(Same.refl _).new n1;refine⟨_,rfl,p1,r,_,_,rfl,rfl,C0,s1 _ _ h1,(by simp;lia),λp2 n2=>?_⟩;have s2:=s1.new (o:=.lst ([.int n,.int ((rs.map V.int).length:Nat)]++rs.map V.int)) n2;refine⟨_,rfl,s,_,rfl,.inl (SqL.of (s2 _ _ h2)),(by show 1<=sizeLine;decide),λp3 n3=>?_⟩;have s3:=s2.new (o:=.lst [.int ((ss.map V.int).length:Nat)]) n3;refine⟨p2,p3,_,_,rfl,rfl,(by rw[M0 (C1 C0 n3)];exact C0),C0,(by simp;lia),λp4 n4=>?_⟩;have s4:=s3.new (o:=.lst ([.int n,.int ((rs.map V.int).length:Nat)]++rs.map V.int++[.int ((ss.map V.int).length:Nat)])) n4;refine⟨_,rfl,p4,s,_,_,rfl,rfl,C0,s4 _ _ h2,(by simp;lia),λp5 n5=>?_⟩;refine k _ p5 (s4.new n5) ?_;rw[C0];simp
theorem JL(T:oA K mg a):Fo P w base true T.QB 1 bX:=by
 refine T.QB.F.kk T.QB.S λH vs Q E h=>?_;obtain⟨z,rfl,hl,k⟩:=h;refine⟨rfl,λhr=>?_⟩;refine⟨_,(X0 (S3 (bD O1 rfl rfl (own:=[("sign",1)]) rfl T.QB.S.nd (zcv (pv 0)) (WW ["word","sign"] (Z3 WT) [("sign",1)]) (λtk=>(SE 1 T.QB.S)) (λtk=>cA) (λtk=>(FA Rs rfl T.ze5 zcZ (F0 (pv 1) Z0)))))),?_⟩;refine⟨_,rfl,z,rfl,λDl hD=>?_⟩;refine Oq (λn=>V.int ((n:Nat):Int)) (by lia) hD (λc H' R q=>?_) (λx H' R R' m q=>m _ _ q) ?_
 .exact⟨rfl,rfl,_,rfl,_,rfl,rfl,q⟩
 .exact k _ Dl ((Same.refl _).new hD) hD C0
inductive dX(K:Frag)(vs:List V)(H:Hp)(Q:VK)(E':XK):Prop
 |mk (ea C d q:Addr) (fr:Bool) (tb:Value) (F:List (Str×V)) (n:Int) (ns:List Int):vs=[.ref ea]->H ea=some (xO C fr (some d) tb ea)->H d=some (.xd F)->eY K C->D3 K C "number" -> D3 K C "told" -> F.lookup ("number": Str)=some (.int n)->F.lookup ("told": Str)=some (.ref q)->H q=some (.lst (ns.map V.int))->ns.length<=1000->(∀(H':Hp)(p:Addr),Same H H'->H' p=some (.lst ((n::(ns.length:Int)::(ns++[0])).map V.int))->Q (.ref p) H')->dX K vs H Q E'
theorem Wi(T:oA K mg a):Fo P w base cm T.fM 2 (dX K):=by
 refine T.fM.F.kk T.fM.S λH vs Q E h=>?_;obtain⟨ea,C,d,q,fr,tb,F,n,ns,rfl,l1,ed,xc,na,nb,f1,f2,hq,hl,k⟩:=h;refine⟨rfl,λhr=>?_⟩;refine⟨_,(X0 (S3 (JC T.GL (cX T) hr (F0 (MN (K:=K) rfl (pv 0) rfl) (F0 (MN (K:=K) rfl (pv 0) rfl) (F0 (d6 Z0) Z0)))))),?_⟩;refine⟨_,rfl,ea,C,fr,d,tb,F,_,rfl,l1,ed,xc,na,f1,_,rfl,ea,C,fr,d,tb,F,_,rfl,l1,ed,xc,nb,f2,E1 _,λs Lf=>?_⟩;refine⟨n,q,s,ns,[],rfl,by rw[M0 (C1 hq Lf)];exact hq,C0,by lia,by decide,λH' p s1 e=>k H' p (λb o z=>s1 b o (((Same.refl H).new Lf) b o z)) e⟩
end
def jB(b:Bytes):List Int:=b.map λc=>((c.toNat:Nat):Int)
def RQ(t:Bytes):Except Bd.Fault BS:=vG vA UN (0,rE) (fl 10 t)
def rA(l:List Piece):List Nat:=PIECES.map λp=>fV p l
def UI(b t:Bytes):List Int:=if 4096<b.length\/4096<t.length then[-1,0,0]else match RQ b with
 |.error _=>[-6,0,0]
 |.ok s=>match MF (fl 10 t)with
  |.error _=>[-6,0,0]
  |.ok x=>match Bd.buildFrom s.2 (NF x.1 x.2) (NF x.1 x.2).parts []with
   |.error i=>[-3,1,(i:Int),0]
   |.ok F=>0::5::((rA (allPieces F)).map (λ(n:Nat)=>(n:Int))++[0])
inductive VI(K:Frag)(vs:List V)(H:Hp)(Q:VK)(E':XK):Prop
 |mk (lb lt:Addr) (b t:Bytes):vs=[.ref lb,.ref lt]->SqL K H lb (iB b)->b.length<=6000->SqL K H lt (iB t)->t.length<=6000->(∀(H':Hp)(p:Addr),H' p=some (.lst ((UI b t).map V.int))->Q (.ref p) H')->VI K vs H Q E'
structure HkE where
 (P:Program) (w:World) (K:Frag) (mg:Str->Option Value) (base:Heap) (a:Ad)
abbrev HkD(e:HkE):Prop:=xA e.P e.w e.K e.mg e.base (kR e.P e.w) true 17 e.a.AL e.a.HG ["b","t"] (VI e.K)
theorem ze8:Nonempty Ad:=⟨by constructor<;>exact default⟩
instance:Nonempty HkE:=ze8.elim λa=>⟨⟨default,⟨λ_ _=>0,{strHash:=λ_=>0,shareClass:=λ_=>0,mergeTok:=id,idOf:=λ_=>0,idOfShared:=λ_ _=>0,followText:=λ_=>false,idOfImm:=λ_=>0}⟩,[],λ_=>none,default,a⟩⟩
@[irreducible] noncomputable def Xv:HkE:=Classical.epsilon λe=>oA e.K e.mg e.a/\¬HkD e
noncomputable def Pq:Program:=Xv.P
noncomputable def wq:World:=Xv.w
noncomputable def Kq:Frag:=Xv.K
noncomputable def g9:Str->Option Value:=Xv.mg
noncomputable def bq:Heap:=Xv.base
noncomputable def aq:Ad:=Xv.a
theorem zhB(h:oA Kq g9 aq->xA Pq wq Kq g9 bq (kR Pq wq) true 17 aq.AL aq.HG ["b","t"] (VI Kq))(e:HkE)(T:oA e.K e.mg e.a):HkD e:=sC λn=>by
 have z:oA Xv.K Xv.mg Xv.a/\¬HkD Xv:=by
  unfold Xv;exact UD (p:=λe=>oA e.K e.mg e.a/\¬HkD e) ⟨e,T,n⟩
 exact z.2 (h z.1)
theorem NY{b:Bytes}{x:V}(h:(iB b)[i]?=some x):∃c,b[i]?=some c/\x=.int c.toNat:=by
 unfold iB at h;rw[P1]at h;cases e:b[i]? with
 |none=>rw[e]at h;cases h
 |some c=>
  rw[e]at h;exact⟨c,rfl,(J0 h).symm⟩
theorem aE(b:Bytes):(iB b).length=b.length:=B0 _
theorem zat(b:Bytes)(c:UInt8):iB (b++[c])=iB b++[.int c.toNat]:=by
 grind [iB]
theorem toNat_inj{c d:UInt8}:V.int c.toNat=V.int d.toNat↔c=d:=by
 constructor
 .intro h;have h1:(c.toNat:Int)=(d.toNat:Int):=V.int.inj h;exact qF.mp (by lia)
 .intro h;rw[h]
theorem Yv(c:UInt8)(t:Bytes):(fl c t).1.length<=t.length/\(fl c t).2.length<=t.length:=by
 suffices h:∀(t:Bytes)(p:List Bytes×Bytes),(t.foldl (Qr c) p).1.length<=p.1.length+t.length/\(t.foldl (Qr c) p).2.length<=p.2.length+t.length by
  have z:=h t ([],[]);simpa[fl]using z
 intro t
 induction t with
 |nil=>intro p;exact⟨j1 _,j1 _⟩
 |cons x t ih=>
  intro p;rw[OC];have z:=ih (Qr c p x);have e:(Qr c p x).1.length<=p.1.length+1/\(Qr c p x).2.length<=p.2.length+1:=by
   unfold Qr;by_cases q:x=c
   .rw[K0 q];simp
   .rw[D0 q];simp
  simp only[M1]
  lia
theorem Zv{x:V}{l:List V}:kM (x::l) (some 1) none=l:=by
 show((x::l).drop (min 1 (l.length+1))).take (l.length+1-min 1 (l.length+1))=l;grind
theorem Aw{x:V}{l:List V}:kM (l++[x]) none (some (-1))=l:=by
 show((l++[x]).drop 0).take (((-1:Int)+((l++[x]).length:Int)).toNat-0)=l;rw[jL,show((-1:Int)+((l++[x]).length:Int)).toNat-0=l.length by simp;lia,List.take_left'];rfl
def dI(ns:List Int):PyData:=.list (ns.map PyData.int)
theorem Wl{K:Frag}{H:Hp}:∀ns:List Int,vQ K H (ns.map V.int) (ns.map PyData.int)
 |[]=>.nil
 |n::r=>.cons (.int n) (Wl r)
theorem ze9{K:Frag}{ns:List Int}(h:SqL K H p (ns.map V.int)):Dp K H (.ref p) (dI ns):=.lst h (Wl ns)
theorem TQ:∀ns ms:List Int,PyData.eqvAll (ns.map PyData.int) (ms.map PyData.int)=decide (ns=ms)
 |[],[]=>rfl
 |[],_::_=>rfl
 |_::_,[]=>rfl
 |n::r,m::q=>by
  have ih:=TQ r q;show(PyData.eqv (.int n) (.int m)&&PyData.eqvAll (r.map PyData.int) (q.map PyData.int))=_;rw[ih,Z2];simp[PyData.eqv]
theorem zc6(ns ms:List Int):PyData.eqv (dI ns) (dI ms)=decide (ns=ms):=TQ ns ms
theorem UQ:∀ns:List Int,PyData.canLayAll0 (ns.map PyData.int)=true
 |[]=>by simp[PyData.canLayAll0]
 |n::r=>by simp[PyData.canLayAll0,PyData.canLay0,UQ r]
theorem IU:∀ns:List Int,PyData.depthAll (ns.map PyData.int)<=1
 |[]=>by simp[PyData.depthAll]
 |n::r=>by
  have ih:=IU r;simp[PyData.depthAll,PyData.depth]
  lia
theorem Y9(ns:List Int):SeqAt.shaped (dI ns)=true:=by
 grind [UQ,IU,PyData.canLay0,PyData.depth,SeqAt.shaped,dI]
theorem zfa(b:Bytes):iB b=(jB b).map V.int:=by
 unfold iB jB;rw[B3];rfl
theorem zc7{a b:Bytes}:jB a=jB b↔a=b:=by
 grind [jB,eD,qF.mp]
theorem kK{K:Frag}{b:Bytes}(h:SqL K H p (iB b)):Dp K H (.ref p) (dI (jB b)):=ze9 (by rw[<-zfa];exact h)
theorem iQ(a b:Bytes):PyData.eqv (dI (jB a)) (dI (jB b))=decide (a=b):=by
 grind [zc6,zc7]
def Z4(te:TE)(σ:L2.St)(H:Hp)(v:V):Prop:=∀R:VK,R v H->te σ H R
theorem KL{i k:Int}{Q:VK}(ha:Z4 ta σ H (.int i)) (hb:Z4 tb σ H (.int j)) (hc:Z4 tc σ H (.int k)) (h:Q (.bl (decide (i<=j)&&decide (j<=k))) H) :
  fP (eV λi j=>.bl (decide (i<=j))) (eV λi j=>.bl (decide (i<=j))) ta tb tc σ H Q:=by
 refine ha _ (hb _ ⟨_,_,rfl,rfl,_,rfl,?_⟩);by_cases q:i<=j
 .rw[F1 q]at h ⊢;exact b7 (hc _ ⟨_,_,rfl,rfl,by simpa using h⟩)
 .rw[Y0 q]at h ⊢;exact S7 (by simpa using h)
theorem eX{i k:Int}(ha:Z4 ta σ H (.int i)) (hb:Z4 tb σ H (.int j)) (hc:Z4 tc σ H (.int k)) (h:Q (decide (i<=j)&&decide (j<=k)) H) :
  Qs (fP (eV λi j=>.bl (decide (i<=j))) (eV λi j=>.bl (decide (i<=j))) ta tb tc) σ H Q:=KL ha hb hc ⟨_,rfl,h⟩
def Hd(tt:TT)(σ:L2.St)(H:Hp)(b:Bool):Prop:=∀R:Bool->Hp->Prop,R b H->tt σ H R
theorem OY{ta tb:TT}(ha:Hd ta σ H x) (hb:x=true->Hd tb σ H y) (h:Q (x&&y) H):zb5 ta tb σ H Q:=by
 refine ha _ ?_;cases x with
 |true=>exact b7 (hb rfl _ h)
 |false=>exact S7 h
theorem zfb{ta tb:TT}(ha:Hd ta σ H x) (hb:x=false->Hd tb σ H y) (h:Q (x||y) H):tOr ta tb σ H Q:=by
 refine ha _ ?_;cases x with
 |true=>exact b7 h
 |false=>exact S7 (hb rfl _ h)
theorem Xl{Q:VK}(ha:Z4 ta σ H (.bl x)) (hb:x=true->Z4 tb σ H (.bl y)) (h:Q (.bl (x&&y)) H):Es ta tb σ H Q:=by
 refine ha _ ⟨x,rfl,?_⟩;cases x with
 |true=>exact b7 (hb rfl _ h)
 |false=>exact S7 h
theorem Bw{Q:VK}(ha:Z4 ta σ H (.bl x)) (hb:x=false->Z4 tb σ H (.bl y)) (h:Q (.bl (x||y)) H):zb6 ta tb σ H Q:=by
 refine ha _ ⟨x,rfl,?_⟩;cases x with
 |true=>exact b7 h
 |false=>exact S7 (hb rfl _ h)
theorem fX(c:UInt8)(t:Bytes):(F8 c t).length<=t.length+1/\∀x∈F8 c t,x.length<=t.length:=by
 suffices h:∀t:Bytes,(F8 c t).length<=t.length+1/\∀x∈F8 c t,x.length<=t.length by exact h t
 intro t
 induction t with
 |nil=>exact⟨j1 _,λx hx=>by rw[Q1.mp hx];exact j1 _⟩
 |cons d r ih=>
  obtain⟨y,l,e⟩:=dA c r;rw[e]at ih;unfold F8;rw[e];by_cases h:d=c
  .rw[K0 h];refine⟨by simpa using ih.1,λx hx=>?_⟩;rcases S1.mp hx with z|z
   .rw[z];exact E1 _
   .have:=ih.2 x z;rw[M1]
    lia
  .rw[D0 h];refine⟨by have:=ih.1;simp at this ⊢;lia,λx hx=>?_⟩;rcases S1.mp hx with z|z
   .rw[z];have:=ih.2 y (by simp);simp
    lia
   .have:=ih.2 x (by simp[z]);rw[M1]
    lia
theorem JU{wd:Bytes}{r:List Bytes}(h:B4 wd line=some r):r.length<=line.length/\∀x∈r,x.length<=line.length:=by
 grind [fX,B4]
theorem VQ(T:oA Kq g9 aq):Fo Pq wq bq true T.iD 1 (Vl Kq):=by
 refine T.iD.F.kk T.iD.S λH vs Q E h=>?_;obtain⟨l,b,c,rfl,hS,hl,k⟩:=h;refine⟨rfl,λhr=>?_⟩;have zl:=gN;refine⟨_,(T0 (RC 2 T.iD.S (d6 (F0 (d6 Z0) Z0)))
  (T0 (E8 O1.po rfl (L7 (pv 0)) (SE 3 T.iD.S) (X0 (Q6 (V3 qC (pv 3) (pv 1) (U3 _)) (X0 (L6 (mE P2 K3 L3 V9 (pv 2) (F0 (d6 Z0) Z0)))) (X0 (L6 (mE P2 K3 L3 V9 (O7 Z6 (pv 2) (bK jG A2) (λ_ _=>rfl)) (F0 (pv 3) Z0)))))))
  (X0 (S3 (pv 2))))),?_⟩
 refine⟨E1 _,λz nz=>⟨(by show 1<=sizeLine;decide),λp np=>?_⟩⟩;have zp:z≠p:=C1 (C0 (H:=H) (a:=z) (o:=.lst [])) np;have np':H p=Option.none:=by
  rw[M0 (K2 zp)]at np;exact np
 have s0':Same H (upd (upd H z (.lst [])) p (.lst [.ref z])):=((Same.refl _).new nz).new np;refine⟨_,rfl,l,rfl,⟨_,s0'.seq hS⟩,DA (K:=Kq) (a:=l) (xs:=iB b) (λi σ H'=>E3 λ(v:Option V)(as:List Addr)(z:Addr)=>A9 (σ=[some (.ref l),some (.int c.toNat),some (.ref p),v]) (Same H H') (H' p=some (.lst ((as++[z]).map V.ref))) (Rows H' as (fl c (b.take i)).1) (H' z=some (.lst (iB (fl c (b.take i)).2))) (z∉as) (p≠z) (p∉as) (∀x∈as++[z],H x=none))
  ⟨none,[],z,rfl,s0',C0,.nil,by rw[M0 zp];exact C0,by simp,K2 zp,by simp,by simpa using nz⟩ (by rintro i σ H' _ ⟨_,_,_,_,s5,_⟩;exact s5.seq hS) ?_ ?_⟩
 .rintro i y σ H' hi ⟨v,as,z,rfl,s5,hp,SL,hz,nza,npz,npa,fr⟩;obtain⟨d,hd,rfl⟩:=NY hi;have lt:i<b.length:=(N0.mp hd).1;have len1:=Yv c (b.take i);have lr:=K1 SL;rw[Z1]at len1;have et:fl c (b.take (i+1))=Qr c (fl c (b.take i)) d:=by rw[Q3 hd,Vz]
  refine⟨_,rfl,_,rfl,rfl,_,rfl,zhr (λq=>?_) (λq=>?_)⟩
  ·
   have q':d=c:=toNat_inj.mp (Y4 q);have et2:fl c (b.take (i+1))=((fl c (b.take i)).1++[(fl c (b.take i)).2],[]):=by rw[et];exact K0 q'
   refine⟨_,rfl,.inl ⟨rfl,_,SqL.of hp⟩,E1 _,λz' nz'=>?_⟩;have hp':upd H' z' (.lst []) p=some (.lst ((as++[z]).map V.ref)):=by
    rw[M0 (C1 hp nz')];exact hp
   refine⟨p,_,_,rfl,rfl,hp',(by simp;lia),?_⟩;have z'p:z'≠p:=K2 (C1 hp nz');have z'z:z≠z':=C1 hz nz';have nH:H z'=Option.none:=s5.free nz';have zfQ:z'∉as:=λm=>by
    have ⟨i2,hi2,e2⟩:=List.getElem_of_mem m;have hb:(fl c (b.take i)).1[i2]?=some ((fl c (b.take i)).1[i2]'(by lia)):=O0 _;obtain⟨a2,ha2,h2⟩:=Rows.get SL hb;have e3:a2=z':=by
     rw[O0 hi2,e2]at ha2;exact(J0 ha2).symm
    rw[e3,nz']at h2;cases h2
   refine⟨_,as++[z],z',rfl,(s5.new nz').set np',?_,?_,?_,?_,K2 z'p,?_,?_⟩
   .rw[C0,V0 (f:=V.ref) (l₁:=as++[z])];rfl
   .rw[et2];have r1:Rows (upd (upd H' z' (.lst [])) p (.lst ((as++[z]).map V.ref++[.ref z']))) as (fl c (b.take i)).1:=Rows.upd (Rows.upd SL zfQ) npa;refine K4 r1 ?_;rw[M0 (K2 npz),M0 z'z];exact hz
   .rw[et2,M0 z'p];exact C0
   .simp only[N2,Q1,dL];exact⟨zfQ,K2 z'z⟩
   .simp only[N2,Q1,dL];exact⟨npa,npz⟩
   .intro x hx;rcases N2.mp hx with m|m
    .exact fr x m
    .rw[Q1.mp m];exact nH
  ·
   have q':¬d=c:=λe=>q (F1 (toNat_inj.mpr e));have et2:fl c (b.take (i+1))=((fl c (b.take i)).1,(fl c (b.take i)).2++[d]):=by rw[et];exact D0 q'
   refine⟨_,rfl,_,rfl,p,_,_,.ref z,rfl,rfl,SqL.of hp,(by rw[V0];exact BN _ _),.inl ⟨rfl,_,SqL.of hz⟩,_,rfl,z,_,_,rfl,rfl,hz,(by rw[aE];lia),?_⟩;refine⟨_,as,z,rfl,s5.set (fr z (by simp)),?_,?_,?_,nza,npz,npa,fr⟩
   .rw[M0 npz];exact hp
   .rw[et2];exact Rows.upd SL nza
   .rw[et2,C0];show some (HO.lst (iB (fl c (b.take i)).2++[.int d.toNat]))=some (HO.lst (iB ((fl c (b.take i)).2++[d])));rw[zat]
 .rintro σ H' ⟨v,as,z,rfl,s5,hp,SL,hz,nza,npz,npa,fr⟩;rw[aE,V1]at SL hz;refine⟨_,rfl,?_⟩;refine k H' p (as++[z]) s5 np' fr hp ?_;rw[<-cT];exact K4 SL hz
inductive Jd(Kq:Frag)(C:Addr)(vs:List V)(H:Hp)(Q:VK)(E:XK):Prop
 |mk (z:Str) (l:Addr) (wd line:Bytes):vs=[.str z,.ref l]->z.cps.toList=wd.map (·.toNat)->wd.length<1000->SqL Kq H l (iB line)->line.length<=10000->(match B4 wd line with
 |none=>BB C E H 1
 |some r=>∀(H':Hp)(p:Addr)(as:List Addr),Same H H'->H p=none->(∀x∈as,H x=none)->H' p=some (.lst (as.map V.ref))->Rows H' as r->Q (.ref p) H')->Jd Kq C vs H Q E
theorem WI(T:oA Kq g9 aq):Fo Pq wq bq true T.X9 3 (Jd Kq aq.j2):=by
 refine T.X9.F.kk T.X9.S λH vs Q E h=>?_;obtain⟨z,l,wd,line,rfl,hw,hwl,hS,hl,k⟩:=h;refine⟨rfl,λhr=>?_⟩;refine⟨_,(T0 (RC 2 T.X9.S (JC T.iD (VQ T) hr (F0 (pv 1) (F0 (qG T.zar) Z0))))
  (T0 (Q6 (V3 (Fg hr.units) (O7 Z6 (pv 2) A2 (λ_ _=>rfl)) (JC T.QB (JL T) hr (F0 (pv 0) Z0)) (U3 _)) (X0 (HU T O1 hr.mo (qG T.c7))) T4)
  (X0 (S3 (zN PX (pv 2) (fS A2) eS))))),?_⟩
 refine⟨_,rfl,l,line,32,rfl,hS,hl,λH1 p as s1 np fr hp rows=>?_⟩;obtain⟨x,r,ex⟩:=dA 32 line;rw[ex]at rows;unfold B4 at k;rw[ex]at k;dsimp only at k;cases rows with
 |cons hx rr=>
  rename_i x0 as';refine⟨_,rfl,p,_,_,_,rfl,rfl,SqL.of hp,S5 (j:=0) rfl,_,rfl,z,rfl,(by rw[hw,B0];exact hwl),λH2 p2 s2 n2 e2=>?_⟩;have ez:(z.cps.toList.map λn=>V.int ((n:Nat):Int))=iB wd:=by
   rw[hw,B3];rfl
  rw[ez]at e2;refine⟨_,_,kK (SqL.of (s2 _ _ hx)),kK (SqL.of e2),Y9 _,Y9 _,_,rfl,?_⟩;rw[iQ];by_cases q:x=wd
  .rw[K0 q]at k;rw[F1 q];refine⟨_,rfl,1,rfl,p,_,rfl,SqL.of (s2 _ _ hp),λp3 n3=>?_⟩;have s3:=((s1.trans s2).new (o:=.lst (kM (V.ref x0::as'.map V.ref) (some 1) none)) n3)
   refine k _ p3 as' s3 ((s1.trans s2).free n3) (λy hy=>fr y (by simp[hy])) ?_ ?_
   .rw[C0,C3,Zv]
   .exact Rows.same (λb o e=>by rw[M0 (C1 (s2 _ _ e) n3)];exact s2 _ _ e) rr
  .rw[D0 q]at k;rw[Y0 q];refine b7 ?_;exact F4 T (k.same (s1.trans s2))
inductive Yl(Kq:Frag)(C:Addr)(vs:List V)(H:Hp)(Q:VK)(E:XK):Prop
 |mk (z:Str) (l:Addr) (wd line:Bytes):vs=[.str z,.ref l]->z.cps.toList=wd.map (·.toNat)->wd.length<1000->SqL Kq H l (iB line)->line.length<=10000->(match tK wd line with
 |none=>BB C E H 1
 |some x=>∀(H':Hp)(p:Addr),Same H H'->H p=none->H' p=some (.lst (iB x))->x.length<=10000->Q (.ref p) H')->Yl Kq C vs H Q E
theorem Z9(T:oA Kq g9 aq):Fo Pq wq bq true T.V6 4 (Yl Kq aq.j2):=by
 refine T.V6.F.kk T.V6.S λH vs Q E h=>?_;obtain⟨z,l,wd,line,rfl,hw,hwl,hS,hl,k⟩:=h;refine⟨rfl,λhr=>?_⟩;refine⟨_,(T0 (RC 2 T.V6.S (JC T.X9 (WI T) hr (F0 (pv 0) (F0 (pv 1) Z0))))
  (T0 (Q6 (V3 Vj (oS T.UA (pv 2)) A2 (U3 _)) (X0 (HU T O1 hr.mo (qG T.c7))) T4)
  (X0 (S3 (O7 Z6 (pv 2) A2 (λ_ _=>rfl)))))),?_⟩
 refine⟨_,rfl,_,rfl,z,l,wd,line,rfl,hw,hwl,hS,hl,?_⟩;unfold tK at k;cases hf:B4 wd line with
 |none=>
  rw[hf]at k;exact k
 |some r=>
  rw[hf]at k;have fln:=JU hf;intro H1 p fs s1 np fr hp rows;have fll:fs.length=r.length:=K1 rows;refine⟨_,rfl,p,_,rfl,.inl (SqL.of hp),rfl,_,rfl,?_⟩;by_cases h1:r.length=1
  rotate_left
  .rw[show(!decide (V.int (((fs.map V.ref).length:Nat):Int)=V.int 1))=true by
    rw[Y0]
    .rfl
    .intro z;have z':=V.int.inj z;rw[B0]at z'
     lia]
   refine b7 (F4 T ?_)
   match r,h1,k with
   |[],_,k=>exact k.same s1
   |[_],h1,_=>exact absurd rfl h1
   |_::_::_,_,k=>exact k.same s1
  rw[show(!decide (V.int (((fs.map V.ref).length:Nat):Int)=V.int 1))=false by
   rw[F1]
   .rfl
   .rw[B0,fll,h1];rfl]
  refine S7 ?_;obtain⟨x,rfl⟩:∃x,r=[x]:=by
   match r,h1 with
   |[x],_=>exact⟨x,rfl⟩
  have Nf:=fln.2 x (by simp);cases rows with
  |cons hx rr=>
   cases rr;rename_i f;exact⟨_,rfl,p,_,_,_,rfl,rfl,SqL.of hp,S5 (j:=0) rfl,k H1 f s1 (fr f (by simp)) hx (by lia)⟩
inductive Kd(K:Frag)(C:Addr)(vs:List V)(H:Hp)(Q:VK)(E:XK):Prop
 |mk (l:Addr) (x:Bytes):vs=[.ref l]->SqL K H l (iB x)->x.length<=10000->(match readNumber x with
 |none=>BB C E H 1
 |some n=>∀H':Hp,Same H H'->Q (.int n) H')->Kd K C vs H Q E
inductive Cw(K:Frag)(C:Addr)(vs:List V)(H:Hp)(Q:VK)(E:XK):Prop
 |mk (l:Addr) (x:Bytes):vs=[.ref l]->SqL K H l (iB x)->x.length<=10000->(match mH x with
 |.error k=>BB C E H k
 |.ok _=>∀H':Hp,Same H H'->Q (.ref l) H')->Cw K C vs H Q E
inductive Zl(K:Frag)(C:Addr)(vs:List V)(H:Hp)(Q:VK)(E:XK):Prop
 |mk (l:Addr) (x:Bytes) (jF most:Nat):vs=[.ref l,.int jF,.int most]->SqL K H l (iB x)->x.length<=10000->(match xJ x jF most with
 |.error k=>BB C E H k
 |.ok n=>∀H':Hp,Same H H'->Q (.int n) H')->Zl K C vs H Q E
inductive zbo(K:Frag)(C:Addr)(vs:List V)(H:Hp)(Q:VK)(E:XK):Prop
 |mk (l:Addr) (x:Bytes):vs=[.ref l]->SqL K H l (iB x)->x.length<=10000->(match gL x with
 |none=>BB C E H 1
 |some n=>∀H':Hp,Same H H'->Q (.int n) H')->zbo K C vs H Q E
def inB(lo hi:Int):V->V
 |.int n=>.bl (decide (lo<=n)&&decide (n<=hi))
 |_=>.bl false
theorem PY(lo hi:Int)(x:Bytes):(iB x).map (inB lo hi)=(x.map λc=>decide (lo<=((c.toNat:Nat):Int))&&decide (((c.toNat:Nat):Int)<=hi)).map V.bl:=by
 unfold iB;rw[B3,B3];rfl
theorem Qq(x:Bytes):((x.map λc=>decide ((48:Int)<=((c.toNat:Nat):Int))&&decide (((c.toNat:Nat):Int)<=57)).all id)=x.all isDigit:=by
 rw[FD];refine P7 (λf=>x.all f) (funext λc=>?_);unfold isDigit;show(decide ((48:Int)<=(c.toNat:Int))&&decide ((c.toNat:Int)<=57))=_;rw[Z2];simp only[D1,P0]
 lia
theorem Rq(x:Bytes):((x.map λc=>decide ((97:Int)<=((c.toNat:Nat):Int))&&decide (((c.toNat:Nat):Int)<=122)).all id)=x.all isSmall:=by
 rw[FD];refine P7 (λf=>x.all f) (funext λc=>?_);unfold isSmall;show(decide ((97:Int)<=(c.toNat:Int))&&decide ((c.toNat:Int)<=122))=_;rw[Z2];simp only[D1,P0]
 lia
theorem QY{x:Bytes}(h:v∈iB x):∃n:Int,v=.int n:=by
 grind [iB]
theorem EO(T:oA Kq g9 aq):Fo Pq wq bq true T.r9 3 (Kd Kq aq.j2):=by
 refine T.r9.F.kk T.r9.S λH vs Q E h=>?_;obtain⟨l,x,rfl,hS,hl,k⟩:=h;refine⟨rfl,λhr=>?_⟩;rw[uM]at k;have Nj:xI x=false->BB aq.j2 E H 1:=λz=>by
  rw[D0 (by rw[z];decide)]at k;exact k
 refine⟨_,(T0 (Q6 (gG (xZ DC DC A2 (oS T.UA (pv 0)) (qG T.QV))) (X0 (HU T O1 hr.mo (qG T.c7))) T4)
  (T0 (Q6 (gG (VC (FA (HS rfl) rfl T.Ed VT (F0 (bD O1 rfl rfl (own:=[("byte",1)]) rfl T.r9.S.nd (L7 (pv 0)) (WW ["field","byte","number"] (Z3 LQ) [("byte",1)]) (λtk=>(SE 1 T.r9.S)) (λtk=>cA) (λtk=>(aI DC DC (qG T.BU) (pv 1) (qG T.zc3)))) Z0)))) (X0 (HU T O1 hr.mo (qG T.c7))) T4)
  (T0 (Q6 (PW.pt (uS (V3 qC (O7 Z6 (pv 0) A2 (λ_ _=>rfl)) (qG T.BU) (U3 _)) (tN (V3 sQ (oS T.UA (pv 0)) A2 (U3 _))))) (X0 (HU T O1 hr.mo (qG T.c7))) T4)
  (T0 (RC 2 T.r9.S A2)
  (T0 (E8 O1.po rfl (L7 (pv 0)) (SE 1 T.r9.S) (X0 (RC 2 T.r9.S (W4 vC (W4 uC (W4 zcf (pv 2) A2) (pv 1)) (qG T.BU)))))
  (X0 (S3 (pv 2)))))))),?_⟩
 refine eX (i:=1) (j:=(x.length:Nat)) (k:=5) (λR r=>r) (λR r=>⟨_,rfl,l,_,rfl,.inl hS,by rw[aE];exact r⟩) (λR r=>r) ?_;by_cases h1:1<=x.length/\x.length<=5
 rotate_left
 .rw[show(decide ((1:Int)<=(x.length:Int))&&decide ((x.length:Int)<=5))=false by
   rw[Q4];intro z;simp only[D1,P0]at z
   lia]
  refine b7 (F4 T (Nj ?_));rw[Q4];intro z;unfold xI at z;simp only[D1,P0]at z
  lia
 rw[show(decide ((1:Int)<=(x.length:Int))&&decide ((x.length:Int)<=5))=true by
  simp only[D1,P0]
  lia]
 refine S7 ?_;refine⟨_,rfl,l,rfl,⟨_,hS⟩,λDl hD=>Vi (inB 48 57) hS (by rw[aE];lia) hD (λv hv H' R q=>?_) (λx H' R R' m q=>m _ _ q) ?_⟩
 .obtain⟨n,rfl⟩:=QY hv;exact⟨rfl,rfl,KL (λR r=>r) (λR r=>⟨_,rfl,r⟩) (λR r=>r) q⟩
 rw[PY];refine⟨Dl,_,rfl,SqL.of C0,_,rfl,?_⟩;rw[Qq];have s1:Same H (upd H Dl (.lst ((x.map λc=>decide ((48:Int)<=((c.toNat:Nat):Int))&&decide (((c.toNat:Nat):Int)<=57)).map V.bl))):=(Same.refl _).new hD;cases h2:x.all isDigit with
 |false=>
  refine b7 (F4 T ((Nj ?_).same s1));unfold xI;rw[h2];simp
 |true=>
  refine S7 ?_;have lZ:=s1.seq hS;generalize upd H Dl (.lst ((x.map λc=>decide ((48:Int)<=((c.toNat:Nat):Int))&&decide (((c.toNat:Nat):Int)<=57)).map V.bl))=H1 at s1 lZ;obtain⟨c0,xr,rfl⟩:∃c0 xr,x=c0::xr:=by
   cases x with
   |nil=>simp at h1
   |cons c0 xr=>exact⟨c0,xr,rfl⟩
  dsimp only[aK,iR,jV];refine OY (x:=decide (V.int c0.toNat=V.int 48)) (y:=decide ((1:Int)<(((c0::xr).length:Nat):Int))) (λR r=>⟨_,rfl,l,_,_,_,rfl,rfl,lZ,S5 (j:=0) rfl,rfl,_,rfl,r⟩)
   (λ_ R r=>⟨_,rfl,l,_,rfl,.inl lZ,_,_,rfl,rfl,_,rfl,by rw[aE];exact r⟩) ?_
  have nn:(decide (V.int c0.toNat=V.int 48)&&decide ((1:Int)<(((c0::xr).length:Nat):Int)))=uG (c0::xr):=by
   unfold uG;rw[Z2];simp only[List.headD_cons,D1,L4,P0];have z:V.int c0.toNat=V.int 48↔c0=48:=toNat_inj (c:=c0) (d:=48);rw[z];refine and_congr jC ?_
   lia
  rw[nn];cases hn:uG (c0::xr)with
  |true=>exact b7 (F4 T ((Nj (by unfold xI;rw[hn];simp)).same s1))
  |false=>
   refine S7 ?_;rw[K0 (by
    unfold xI;rw[h2,hn];simp only[D1,P0,Bool.not_false,FH]
    lia)]at k
   generalize hx:c0::xr=x at *;refine⟨_,rfl,l,rfl,⟨_,lZ⟩,DA (K:=Kq) (a:=l) (xs:=iB x) (λi σ H'=>∃(v:Option V),σ=[some (.ref l),v,some (.int (valueOf (x.take i)))]/\H'=H1)
    ⟨none,rfl,rfl⟩ (λi σ H' _ ⟨_,_,e⟩=>by rw[e];exact lZ) ?_ ?_⟩
   .rintro i y σ H' hi ⟨v,rfl,rfl⟩;obtain⟨d,hd,rfl⟩:=NY hi;have dd:isDigit d=true:=(t7.mp h2) d (N1 hd);unfold isDigit at dd;simp only[D1,P0]at dd;have vl:valueOf (x.take i)<100000:=Ug _ (by rw[Z1];lia) (t7.mpr λc hc=>(t7.mp h2) c (List.mem_of_mem_take hc));refine⟨_,rfl,_,_,rfl,rfl,.inl ⟨by lia,by lia⟩,_,rfl,_,_,rfl,rfl,_,_,rfl,rfl,?_⟩;refine⟨some (V.int d.toNat),?_,rfl⟩;rw[Q3 hd,vJ];show[some (V.ref l),some (V.int d.toNat),some (V.int ((valueOf (x.take i):Int)*10+(d.toNat:Int)-48))]=_;rw[show(valueOf (x.take i):Int)*10+(d.toNat:Int)-48=((10*valueOf (x.take i)+(d.toNat-48):Nat):Int) by lia]
   .rintro σ H' ⟨v,rfl,rfl⟩;rw[aE,V1];exact⟨_,rfl,k _ s1⟩
theorem KU(T:oA Kq g9 aq):Fo Pq wq bq true T.JE 3 (Cw Kq aq.j2):=by
 refine T.JE.F.kk T.JE.S λH vs Q E h=>?_;obtain⟨l,x,rfl,hS,hl,k⟩:=h;refine⟨rfl,λhr=>?_⟩;unfold mH at k;refine⟨_,(T0 (Q6 (PW.pt (vS (V3 (Eg hr.units) (pv 0) (d6 Z0) (U3 _)) (HM (gG (VC (FA (HS rfl) rfl T.Ed VT (F0 (bD O1 rfl rfl (own:=[("byte",1)]) rfl T.JE.S.nd (L7 (pv 0)) (WW ["field","byte"] (Z3 YW) [("byte",1)]) (λtk=>(SE 1 T.JE.S)) (λtk=>cA) (λtk=>(aI DC DC (qG T.DU) (pv 1) (qG T.PV)))) Z0))))))) (X0 (HU T O1 hr.mo (qG T.c7))) T4)
  (T0 (Q6 (V3 sQ (oS T.UA (pv 0)) (qG T.oM) (U3 _)) (X0 (HU T O1 hr.mo (qG T.TC))) T4)
  (X0 (S3 (pv 0))))),?_⟩
 refine⟨_,rfl,E1 _,λp1 n1=>?_⟩;have s1:Same H (upd H p1 (.lst [])):=(Same.refl _).new n1;have lZ:=s1.seq hS;have e1:SqL Kq (upd H p1 (.lst [])) p1 (iB []):=SqL.of C0;generalize upd H p1 (.lst [])=H1 at s1 lZ e1;refine⟨_,_,kK lZ,kK e1,Y9 _,Y9 _,_,rfl,?_⟩;rw[iQ];by_cases h0:x=[]
 .rw[F1 h0];rw[K0 (.inl h0)]at k;exact b7 (b7 (F4 T (k.same s1)))
 .rw[Y0 h0];refine⟨_,rfl,l,rfl,⟨_,lZ⟩,λDl hD=>Vi (inB 97 122) lZ (by rw[aE];lia) hD (λv hv H' R q=>?_) (λx H' R R' m q=>m _ _ q) ?_⟩
  .obtain⟨n,rfl⟩:=QY hv;exact⟨rfl,rfl,KL (λR r=>r) (λR r=>⟨_,rfl,r⟩) (λR r=>r) q⟩
  rw[PY];refine⟨Dl,_,rfl,SqL.of C0,_,rfl,?_⟩;rw[Rq];have s2:Same H (upd H1 Dl (.lst ((x.map λc=>decide ((97:Int)<=((c.toNat:Nat):Int))&&decide (((c.toNat:Nat):Int)<=122)).map V.bl))):=s1.new hD;have hS2:=s2.seq hS;cases h2:x.all isSmall with
  |false=>
   rw[K0 (.inr h2)]at k;exact b7 (F4 T (k.same s2))
  |true=>
   rw[D0 (by rintro(z|z);exact h0 z;rw[h2]at z;cases z)]at k;refine⟨_,rfl,l,_,rfl,.inl hS2,_,_,rfl,rfl,_,rfl,?_⟩;rw[aE];by_cases h3:15<x.length
   .rw[K0 h3]at k;rw[F1 (show(15:Int)<(x.length:Int) by lia)];exact b7 (F4 T (k.same s2))
   .rw[D0 h3]at k;rw[Y0 (show ¬(15:Int)<(x.length:Int) by lia)];exact S7 ⟨_,rfl,k _ s2⟩
theorem bE(T:oA Kq g9 aq):Fo Pq wq bq true T.J8 4 (Zl Kq aq.j2):=by
 refine T.J8.F.kk T.J8.S λH vs Q E h=>?_;obtain⟨l,x,m0,m,rfl,hS,hl,k⟩:=h;refine⟨rfl,λhr=>?_⟩;unfold xJ at k;refine⟨_,(T0 (RC 3 T.J8.S (JC T.r9 (EO T) hr (F0 (pv 0) Z0)))
  (T0 (Q6 (gG (xZ DC DC (pv 1) (pv 3) (pv 2))) (X0 (HU T O1 hr.mo (qG T.TC))) T4)
  (X0 (S3 (pv 3))))),?_⟩
 refine⟨_,rfl,l,x,rfl,hS,hl,?_⟩;cases hn:readNumber x with
 |none=>
  rw[hn]at k;exact k
 |some n=>
  rw[hn]at k;dsimp only at k ⊢;intro H1 s1;refine eX (i:=(m0:Nat)) (j:=(n:Nat)) (k:=(m:Nat)) (λR r=>⟨_,rfl,r⟩) (λR r=>⟨_,rfl,r⟩) (λR r=>⟨_,rfl,r⟩) ?_;by_cases q:n<m0\/m<n
  .rw[K0 q]at k;rw[show(decide ((m0:Int)<=(n:Int))&&decide ((n:Int)<=(m:Int)))=false by
    rw[Q4];intro z;simp only[D1,P0]at z
    lia]
   exact b7 (F4 T (k.same s1))
  .rw[D0 q]at k;rw[show(decide ((m0:Int)<=(n:Int))&&decide ((n:Int)<=(m:Int)))=true by
    simp only[D1,P0]
    lia]
   exact S7 ⟨_,rfl,k _ s1⟩
def Md(i:Nat):Bytes:=([ascii "free",ascii "side",ascii "end"]:List Bytes).getD i []
theorem Sq(T:oA Kq g9 aq):Fo Pq wq bq true T.NI 3 (zbo Kq aq.j2):=by
 refine T.NI.F.kk T.NI.S λH vs Q E h=>?_;obtain⟨l,x,rfl,hS,hl,k⟩:=h;refine⟨rfl,λhr=>?_⟩;refine⟨_,(T0 (E8 O1.po rfl (Fu rfl T.wD (F0 (aC (v:=.ref aq.fF) rfl T.Dd rfl) Z0)) (IM rfl (aA (SE 1 T.NI.S) (aA (SE 2 T.NI.S) gJ))) (X0 (Q6 (V3 (Eg hr.units) (pv 0) (JC T.QB (JL T) hr (F0 (pv 2) Z0)) (U3 _)) (X0 (S3 (pv 1))) T4)))
  (X0 (HU T O1 hr.mo (qG T.c7)))),?_⟩
 refine⟨aq.fF,_,rfl,T.PQ _,Nq (K:=Kq) (a:=aq.fF) (xs:=[.str "free",.str "side",.str "end"])
  (λi σ H'=>E2 λ(u v:Option V)=>A3 (σ=[some (.ref l),u,v]) (Same H H') (∀j<i,¬x=Md j)) ⟨none,none,rfl,(Same.refl _),λj hj=>absurd hj (by lia)⟩ (λi σ H' _ _=>T.PQ _) ?_ ?_⟩
 .rintro i y σ H' t hi ⟨u,v,rfl,s1,ne⟩ ht;obtain⟨z,rfl,hz,hi3⟩:∃z:Str,y=.str z/\z.cps.toList=(Md i).map (·.toNat)/\i<3:=by
   match i,hi with
   |0,hi=>exact⟨_,(J0 hi).symm,by decide,by decide⟩
   |1,hi=>exact⟨_,(J0 hi).symm,by decide,by decide⟩
   |2,hi=>exact⟨_,(J0 hi).symm,by decide,by decide⟩
   |i+3,hi=>simp at hi
  have wl:(Md i).length<1000:=by
   match i,hi3 with
   |0,_=>decide
   |1,_=>decide
   |2,_=>decide
  have s2:=s1.new (o:=.tup [.int (i:Nat),.str z]) ht;refine⟨t,_,rfl,.inl (.inl C0),rfl,_,_,rfl,_,_,rfl,rfl,?_⟩;refine⟨_,rfl,_,rfl,z,rfl,(by rw[hz,B0];exact wl),λH2 p2 s3 n2 e2=>?_⟩;have ez:(z.cps.toList.map λn=>V.int ((n:Nat):Int))=iB (Md i):=by
   rw[hz,B3];rfl
  rw[ez]at e2;refine⟨_,_,kK ((s2.trans s3).seq hS),kK (SqL.of e2),Y9 _,Y9 _,_,rfl,?_⟩;rw[iQ];by_cases q:x=Md i
  .rw[F1 q];refine b7 ⟨_,rfl,?_⟩;have ek:gL x=some i:=by
    match i,hi3,q,ne with
    |0,_,q,_=>rw[q];rfl
    |1,_,q,_=>rw[q];rfl
    |2,_,q,_=>rw[q];rfl
   rw[ek]at k;exact k _ (s2.trans s3)
  .rw[Y0 q];refine S7 ⟨_,_,rfl,s2.trans s3,λj hj=>?_⟩;by_cases e:j=i
   .rw[e];exact q
   .exact ne j (by lia)
 .rintro σ H' ⟨u,v,rfl,s1,ne⟩;have ek:gL x=none:=by
   unfold gL;have n0:¬x=ascii "free":= ne 0 (by decide);have n1:¬x=ascii "side":= ne 1 (by decide);have n2:¬x=ascii "end":= ne 2 (by decide);rw[D0 n0,D0 n1,D0 n2]
  rw[ek]at k;dsimp only[aK,iR];exact F4 T (k.same s1)
def opF(o:Opening):List (Str×V):=[("x",.int o.x),("y",.int o.y),("wide",.int o.w),("high",.int o.h)]
def FO(C:Addr)(H:Hp)(p:Addr)(o:Opening):Prop:=∃dx,H p=some (.ins C dx (opF o))
theorem FO.same{o:Opening}(s:Same H H') (h:FO C H p o):FO C H' p o:=let ⟨dx,e⟩:=h;⟨dx,s _ _ e⟩
abbrev Ur(C:Addr)(H:Hp):List Addr->List Opening->Prop:=Paired (FO C H)
theorem Ur.same(s:Same H H')(r:Ur C H as os):Ur C H' as os:=Paired.mapP r λ_ _ h=>h.same s
theorem Paired.get{F:α->β->Prop}:∀{as:List α}{bs:List β}{i:Nat}{x:α},Paired F as bs->as[i]?=some x->∃b,bs[i]?=some b/\F x b
 |_,_,_,_,.nil,h=>by simp at h
 |_,_,0,_,.cons h t,e=>by
  have e':=J0 e;subst e';exact⟨_,rfl,h⟩
 |_,_,i+1,x,.cons h t,e=>Paired.get (i:=i) (x:=x) t e
inductive Nd(C:Addr)(vs:List V)(H:Hp)(Q:VK)(E':XK):Prop
 |mk (p dx l:Addr) (n0 n1 n2 n3:Nat):vs=[.ref p,.ref l]->H p=some (.ins C dx [])->H l=some (.lst (([n0,n1,n2,n3]:List Nat).map λn=>V.int ((n:Nat):Int)))->(∀H':Hp,H' p=some (.ins C dx (opF ⟨n0,n1,n2,n3⟩))->(∀b,b≠p->H' b=H b)->Q .non H')->Nd C vs H Q E'
inductive Od(C:Addr)(vs:List V)(H:Hp)(Q:VK)(E':XK):Prop
 |mk (p:Addr) (o:Opening) (l n:Nat):vs=[.ref p,.int l,.int n]->FO C H p o->Q (.bl (o.within l n)) H->Od C vs H Q E'
inductive Pd(C:Addr)(vs:List V)(H:Hp)(Q:VK)(E':XK):Prop
 |mk (p q:Addr) (o u:Opening):vs=[.ref p,.ref q]->FO C H p o->FO C H q u->(∀H':Hp,Same H H'->Q (.bl (u.before o)) H')->Pd C vs H Q E'
inductive Am(C:Addr)(vs:List V)(H:Hp)(Q:VK)(E':XK):Prop
 |mk (p q:Addr) (o u:Opening):vs=[.ref p,.ref q]->FO C H p o->FO C H q u->Q (.bl (u.meets o)) H->Am C vs H Q E'
theorem qM(T:oA Kq g9 aq):Mo g9 Pq wq bq true T.L9 1 (Nd aq.T3):=by
 refine T.L9.F.kk T.L9.S λH vs Q E h=>?_;obtain⟨p,dx,l,n0,n1,n2,n3,rfl,hp,hl,k⟩:=h;refine⟨rfl,λhr=>?_⟩;have lp:l≠p:=XE hl hp (by intro z;cases z);refine⟨_,(T0 (r6 (pv 0) (O7 Z6 (pv 1) A2 (λ_ _=>rfl)) rfl)
  (T0 (r6 (pv 0) (O7 Z6 (pv 1) A2 (λ_ _=>rfl)) rfl)
  (T0 (r6 (pv 0) (O7 Z6 (pv 1) A2 (λ_ _=>rfl)) rfl)
  (X0 (r6 (pv 0) (O7 Z6 (pv 1) A2 (λ_ _=>rfl)) rfl))))),?_⟩
 refine⟨_,rfl,l,_,_,_,rfl,rfl,SqL.of hl,S5 (j:=0) rfl,_,rfl,p,_,dx,_,rfl,hp,T.i4.c,T.VB,(by show 0<1000;decide),?_⟩;refine⟨_,rfl,l,_,_,_,rfl,rfl,SqL.of (by rw[M0 lp];exact hl),S5 (j:=1) rfl,_,rfl,p,_,dx,_,rfl,C0,T.i4.c,T.WB,(by show 1<1000;decide),?_⟩;rw[V4];refine⟨_,rfl,l,_,_,_,rfl,rfl,SqL.of (by rw[M0 lp];exact hl),S5 (j:=2) rfl,_,rfl,p,_,dx,_,rfl,C0,T.i4.c,T.UB,(by show 2<1000;decide),?_⟩;rw[V4];refine⟨_,rfl,l,_,_,_,rfl,rfl,SqL.of (by rw[M0 lp];exact hl),S5 (j:=3) rfl,_,rfl,p,_,dx,_,rfl,C0,T.i4.c,T.TB,(by show 3<1000;decide),?_⟩;rw[V4];exact k _ C0 λb hb=>M0 hb
theorem xB{fs:List (Str×V)}{f:Str}(hs:σ[i]?=some (some (.ref p))) (hp:H p=some (.ins C dx fs)) (c:Ao Kq C) (n:D3 Kq C f) (l:fs.lookup f=some v):Z4 (yH Kq (OF i) f) σ H v:=
 λR r=>⟨_,hs,p,C,dx,fs,v,rfl,hp,c,n,l,r⟩
theorem QJ{i:Int}(ha:Z4 ta σ H (.int i)) (hb:Z4 tb σ H (.int j)):Z4 (tOp (eV λi j=>.int (i+j)) ta tb) σ H (.int (i+j)):=λR r=>ha _ (hb _ ⟨_,_,rfl,rfl,r⟩)
theorem gX{i:Int}(ha:Z4 ta σ H (.int i)) (hb:Z4 tb σ H (.int j)):Z4 (tOp (eV λi j=>.bl (decide (i<=j))) ta tb) σ H (.bl (decide (i<=j))):=λR r=>ha _ (hb _ ⟨_,_,rfl,rfl,r⟩)
theorem zbp{i:Int}(ha:Z4 ta σ H (.int i)) (hb:Z4 tb σ H (.int j)):Z4 (tOp (eV λi j=>.bl (decide (j<i))) ta tb) σ H (.bl (decide (j<i))):=λR r=>ha _ (hb _ ⟨_,_,rfl,rfl,r⟩)
theorem GO(ha:Z4 ta σ H (.bl x))(hb:Z4 tb σ H (.bl y)):Z4 (Es ta tb) σ H (.bl (x&&y)):=λ_ r=>Xl ha (λ_=>hb) r
theorem Ew(ha:Z4 ta σ H (.bl x))(hb:Z4 tb σ H (.bl y)):Z4 (zb6 ta tb) σ H (.bl (x||y)):=λ_ r=>Bw ha (λ_=>hb) r
theorem jQ(hs:σ[i]?=some (some v)):Z4 (OF i) σ H v:=λR r=>⟨v,hs,r⟩
theorem zfc:Z4 (tC v) σ H v:=λR r=>r
theorem RJ(T:oA Kq g9 aq):Mo g9 Pq wq bq true T.B8 1 (Od aq.T3):=by
 refine T.B8.F.kk T.B8.S λH vs Q E h=>?_;obtain⟨p,o,l,n,rfl,⟨dx,hp⟩,k⟩:=h;refine⟨rfl,λhr=>?_⟩;refine⟨_,(X0 (S3 (dP (yA sQ (Q2 (pv 0) rfl) A2 (U3 _)) (dP (yA sQ (Q2 (pv 0) rfl) A2 (U3 _)) (dP (yA DC (W4 uC (Q2 (pv 0) rfl) (Q2 (pv 0) rfl)) (pv 1) (U3 _)) (NK (yA DC (W4 uC (Q2 (pv 0) rfl) (Q2 (pv 0) rfl)) (pv 2) (U3 _)))))))),?_⟩;have fx:Z4 (yH Kq (OF 0) "x") (start ["self","length","height"] [.ref p,.int l,.int n]) H (.int o.x):=xB rfl hp T.i4.c T.VB rfl;have fy:Z4 (yH Kq (OF 0) "y") (start ["self","length","height"] [.ref p,.int l,.int n]) H (.int o.y):=xB rfl hp T.i4.c T.WB rfl;have fw:Z4 (yH Kq (OF 0) "wide") (start ["self","length","height"] [.ref p,.int l,.int n]) H (.int o.w):=xB rfl hp T.i4.c T.UB rfl;have fh:Z4 (yH Kq (OF 0) "high") (start ["self","length","height"] [.ref p,.int l,.int n]) H (.int o.h):=xB rfl hp T.i4.c T.TB rfl;refine GO (zbp fw zfc) (GO (zbp fh zfc) (GO (gX (QJ fx fw) (jQ rfl)) (gX (QJ fy fh) (jQ rfl)))) _ ?_;have e:(decide ((0:Int)<(o.w:Int))&&(decide ((0:Int)<(o.h:Int))&&(decide ((o.x:Int)+(o.w:Int)<=(l:Int))&&decide ((o.y:Int)+(o.h:Int)<=(n:Int)))))=o.within l n:=by
  unfold Opening.within;rw[Z2];simp only[D1,P0]
  lia
 rw[e];exact k
theorem UH(T:oA Kq g9 aq):Mo g9 Pq wq bq true T.K7 1 (Pd aq.T3):=by
 refine T.K7.F.kk T.K7.S λH vs Q E h=>?_;obtain⟨p,q,o,u,rfl,⟨dx,hp⟩,⟨dy,hq⟩,k⟩:=h;refine⟨rfl,λhr=>?_⟩;refine⟨_,(X0 (S3 (yA (zcC hr.units0) (AD (F0 (Q2 (pv 0) rfl) (F0 (Q2 (pv 0) rfl) Z0))) (AD (F0 (Q2 (pv 1) rfl) (F0 (Q2 (pv 1) rfl) Z0))) (U3 _)))),?_⟩;refine⟨_,rfl,p,_,dx,_,_,rfl,hp,T.i4.c,T.WB,rfl,_,rfl,p,_,dx,_,_,rfl,hp,T.i4.c,T.VB,rfl,(by show 2<=sizeLine;decide),λt1 n1=>?_⟩;have s1:Same H (upd H t1 (.tup [.int o.y,.int o.x])):=(Same.refl _).new n1;have oK:=s1 _ _ hq;refine⟨_,rfl,q,_,dy,_,_,rfl,oK,T.i4.c,T.WB,rfl,_,rfl,q,_,dy,_,_,rfl,oK,T.i4.c,T.VB,rfl,(by show 2<=sizeLine;decide),λt2 n2=>?_⟩;have s2:=s1.new (o:=.tup [.int u.y,.int u.x]) n2;refine⟨t1,t2,[(o.y:Int),(o.x:Int)],[(u.y:Int),(u.x:Int)],rfl,rfl,.inl (.inl (by rw[M0 (C1 C0 n2)];exact C0)),.inl (.inl C0),?_⟩;have e:HT.lexGt [(o.y:Int),(o.x:Int)] [(u.y:Int),(u.x:Int)]=u.before o:=by
  unfold Opening.before;rw[HT.lexGt_cons,HT.lexGt_cons,HT.lexGt_nil_nil,Z2];by_cases e1:(o.y:Int)=(u.y:Int)
  .rw[K0 e1];by_cases e2:(o.x:Int)=(u.x:Int)
   .rw[K0 e2];simp only[W3,D1,P0,L4];constructor
    .intro z;cases z
    .lia
   .rw[D0 e2];simp only[W3,D1,P0,L4]
    lia
  .rw[D0 e1];simp only[W3,D1,P0,L4]
   lia
 rw[e];exact k _ s2
theorem kQ(T:oA Kq g9 aq):Mo g9 Pq wq bq true T.d9 1 (Am aq.T3):=by
 refine T.d9.F.kk T.d9.S λH vs Q E h=>?_;obtain⟨p,q,o,u,rfl,⟨dx,hp⟩,⟨dy,hq⟩,k⟩:=h;refine⟨rfl,λhr=>?_⟩;refine⟨_,(T0 (RC 2 T.d9.S (Qj (yA DC (W4 uC (Q2 (pv 0) rfl) (Q2 (pv 0) rfl)) (Q2 (pv 1) rfl) (U3 _)) (NK (yA DC (W4 uC (Q2 (pv 1) rfl) (Q2 (pv 1) rfl)) (Q2 (pv 0) rfl) (U3 _)))))
  (T0 (RC 3 T.d9.S (Qj (yA DC (W4 uC (Q2 (pv 0) rfl) (Q2 (pv 0) rfl)) (Q2 (pv 1) rfl) (U3 _)) (NK (yA DC (W4 uC (Q2 (pv 1) rfl) (Q2 (pv 1) rfl)) (Q2 (pv 0) rfl) (U3 _)))))
  (X0 (S3 (dP (Gs (pv 2)) (NK (Gs (pv 3)))))))),?_⟩
 have fld:∀(σ:L2.St)(v v':Option V),σ=[some (.ref p),some (.ref q),v,v']->Z4 (yH Kq (OF 0) "x") σ H (.int o.x)/\Z4 (yH Kq (OF 0) "y") σ H (.int o.y)/\Z4 (yH Kq (OF 0) "wide") σ H (.int o.w)/\Z4 (yH Kq (OF 0) "high") σ H (.int o.h)/\
   Z4 (yH Kq (OF 1) "x") σ H (.int u.x)/\Z4 (yH Kq (OF 1) "y") σ H (.int u.y)/\Z4 (yH Kq (OF 1) "wide") σ H (.int u.w)/\Z4 (yH Kq (OF 1) "high") σ H (.int u.h):=by
  rintro σ v v' rfl;exact⟨xB rfl hp T.i4.c T.VB rfl,xB rfl hp T.i4.c T.WB rfl,xB rfl hp T.i4.c T.UB rfl,xB rfl hp T.i4.c T.TB rfl,
   xB rfl hq T.i4.c T.VB rfl,xB rfl hq T.i4.c T.WB rfl,xB rfl hq T.i4.c T.UB rfl,xB rfl hq T.i4.c T.TB rfl⟩
 obtain⟨f1,f2,f3,f4,g1,g2,g3,g4⟩:=fld [some (.ref p),some (.ref q),none,none] none none rfl;refine Ew (gX (QJ f1 f3) g1) (gX (QJ g1 g3) f1) _ ?_;generalize hb1:(decide ((o.x:Int)+(o.w:Int)<=(u.x:Int))||decide ((u.x:Int)+(u.w:Int)<=(o.x:Int)))=b1;obtain⟨_,f2,_,f4,_,g2,_,g4⟩:=fld [some (.ref p),some (.ref q),some (.bl b1),none] _ none rfl;refine Ew (gX (QJ f2 f4) g2) (gX (QJ g2 g4) f2) _ ?_;generalize hb2:(decide ((o.y:Int)+(o.h:Int)<=(u.y:Int))||decide ((u.y:Int)+(u.h:Int)<=(o.y:Int)))=b2;dsimp only[aH,zek];refine GO (x:=!b1) (y:=!b2) (λR r=>⟨_,rfl,_,rfl,r⟩) (λR r=>⟨_,rfl,_,rfl,r⟩) _ ?_;have e:(!b1&&!b2)=u.meets o:=by
  rw[<-hb1,<-hb2];unfold Opening.meets;rw[Z2];simp only[D1,O3,Bool.or_eq_false_iff,P0,j5]
  lia
 rw[e];exact k
inductive iX(K:Frag)(C CL:Addr)(vs:List V)(H:Hp)(Q:VK)(E:XK):Prop
 |mk (l bl:Addr) (line:Bytes) (long high:Nat) (as:List Addr) (os:List Opening):vs=[.ref l,.int long,.int high,.ref bl]->SqL K H l (iB line)->line.length<=10000->H bl=some (.lst (as.map V.ref))->Ur C H as os->os.length<=8->(match vM line long high os with
 |.error k=>BB CL E H k
 |.ok o=>∀(H':Hp)(p:Addr),Same H H'->H p=none->FO C H' p o->Q (.ref p) H')->iX K C CL vs H Q E
theorem jX:∀{r:List Bytes}{i:Nat}{x:Bytes},r[i]?=some x->readNumber x=none->r.mapM readNumber=none
 |[],i,x,h,_=>by simp at h
 |y::r,0,x,h,e=>by
  have h':y=x:=J0 h;subst h';rw[U8,e];rfl
 |y::r,i+1,x,h,e=>by
  have ih:=jX (r:=r) (i:=i) h e;rw[U8,ih];cases readNumber y<;>rfl
theorem kX:∀{r:List Bytes}{x:Bytes}{ns:List Nat}{n:Nat},r.mapM readNumber=some ns->readNumber x=some n->(r++[x]).mapM readNumber=some (ns++[n])
 |[],x,ns,n,h,e=>by
  have h':[]=ns:=J0 h;subst h';show[x].mapM readNumber=_;rw[U8,e];rfl
 |y::r,x,ns,n,h,e=>by
  rw[U8]at h;cases hy:readNumber y with
  |none=>rw[hy]at h;cases h
  |some m=>
   cases hr:r.mapM readNumber with
   |none=>rw[hy,hr]at h;cases h
   |some l=>
    rw[hy,hr]at h;have h':m::l=ns:=J0 h;subst h';show(y::(r++[x])).mapM readNumber=_;rw[U8,hy,kX hr e];rfl
theorem Bm{ta tb:TT}(S:Hp->Prop) (ha:∀R:Bool->Hp->Prop,(∀H1,S H1->R x H1)->ta σ H R) (hb:x=true->∀H1,S H1->∀R:Bool->Hp->Prop,(∀H2,S H2->R y H2)->tb σ H1 R)
 (h:∀H2,S H2->Q (x&&y) H2):zb5 ta tb σ H Q:=by
  refine ha _ λH1 s1=>?_;cases x with
  |true=>exact b7 (hb rfl H1 s1 _ h)
  |false=>exact S7 (h H1 s1)
theorem Paired.last{F:α->β->Prop}{as:List α}{bs:List β}(r:Paired F as bs) (h:bs≠[]):∃as' x bs' y,as=as'++[x]/\bs=bs'++[y]/\F x y:=by
 induction r with
 |nil=>exact absurd rfl h
 |cons f t ih=>
  rename_i x y l1 l2;cases t with
  |nil=>exact⟨[],x,[],y,rfl,rfl,f⟩
  |cons g t=>
   obtain⟨as',x',bs',y',e1,e2,q⟩:=ih (by simp);exact⟨x::as',x',y::bs',y',by rw[e1];rfl,by rw[e2];rfl,q⟩
def iN(ns:List Nat):List V:=ns.map λn=>V.int ((n:Nat):Int)
theorem TV(T:oA Kq g9 aq):Fo Pq wq bq true T.i9 5 (iX Kq aq.T3 aq.j2):=by
 refine T.i9.F.kk T.i9.S λH vs Q E h=>?_;obtain⟨l,bl,line,long,high,as,os,rfl,hS,hl,hb,ho,hol,k⟩:=h;refine⟨rfl,λhr=>?_⟩;have zl:=gN;unfold vM at k;refine⟨_,(T0 (wI (i:=4) O1 rfl rfl (own:=[("field",5)]) rfl T.i9.S.nd rfl rfl rfl (L7 (JC T.X9 (WI T) hr (F0 (aC (v:=.str "open") rfl T.GU ⟨_,rfl⟩) (F0 (pv 0) Z0)))) (WW ["line","length","height","before","numbers","field","opening","other"] (Z3 IJ) [("field",5)]) (λtk=>(SE 5 T.i9.S)) (λtk=>cA) (λtk=>(pcg T.r9 (EO T) hr.mo tk.passes (F0 (pv 5) Z0))))
  (T0 (Q6 (V3 Vj (oS T.UA (pv 4)) A2 (U3 _)) (X0 (HU T O1 hr.mo (qG T.c7))) T4)
  (T0 (RC 6 T.i9.S (VL (T.i4.k0 T.L9) (qM T) hr.mo rfl T.i4.m T.L9.b .nil O1.passes (F0 (pv 4) Z0)))
  (T0 (Q6 (gG (VC (BD (pv 6) T.i4.c T.B8.M (RJ T) hr.mo T.B8.b .nil O1.passes (F0 (pv 1) (F0 (pv 2) Z0))))) (X0 (HU T O1 hr.mo (qG T.TC))) T4)
  (T0 (Q6 (PW.pt (uS (V3 (zcE hr.units0) (pv 3) (d6 Z0) (U3 _)) (tN (gG (VC (BD (pv 6) T.i4.c T.K7.M (UH T) hr.mo T.K7.b .nil O1.passes (F0 (O7 Z6 (pv 3) (bK jG A2) (λ_ _=>rfl)) Z0))))))) (X0 (HU T O1 hr.mo (qG T.zU))) T4)
  (T0 (Q6 (VC (FA (Bt rfl) rfl T.zbm Kv (F0 (bD O1 rfl rfl (own:=[("other",7)]) rfl T.i9.S.nd (L7 (pv 3)) (WW ["line","length","height","before","numbers","field","opening","other"] (Z3 IJ) [("other",7)]) (λtk=>(SE 7 T.i9.S)) (λtk=>cA) (λtk=>(BD (pv 6) T.i4.c T.d9.M (kQ T) hr.mo T.d9.b .nil tk.passes (F0 (pv 7) Z0)))) Z0))) (X0 (HU T O1 hr.mo (qG T.AO))) T4)
  (T0 (Q6 (V3 qC (oS T.UA (pv 3)) (qG T.QR) (U3 _)) (X0 (HU T O1 hr.mo (qG T.Qi))) T4)
  (X0 (S3 (pv 6)))))))))),?_⟩
 refine⟨_,rfl,"open",l,ascii "open",line,rfl,(by decide),(by decide),hS,hl,?_⟩;cases hf:B4 (ascii "open") line with
 |none=>
  rw[hf]at k;exact k
 |some r=>
  rw[hf,o4]at k;dsimp only;have fln:=JU hf;intro H1 p fs s1 np fr hp rows;have fll:fs.length=r.length:=K1 rows;refine⟨p,rfl,⟨_,SqL.of hp⟩,λDl hD=>?_⟩;refine RF (K:=Kq) (a:=p) (xs:=fs.map V.ref) (λi H'=>∃ns,A3 ((r.take i).mapM readNumber=some ns) (Same H1 H') (H' Dl=some (.lst (iN ns))))
   ⟨[],rfl,(Same.refl _).new hD,C0⟩ (by rintro i H' _ ⟨_,_,s2,_⟩;exact s2.seq (SqL.of hp)) ?_ ?_
  .rintro i y H' hi ⟨ns,hns,s2,hDl⟩;obtain⟨f,hfi,rfl⟩:=b9 hi;obtain⟨x,hx,hfx⟩:=Paired.get rows hfi;refine⟨rfl,?_⟩;have Nf:=fln.2 x (N1 hx);refine⟨_,rfl,f,x,rfl,SqL.of (s2 _ _ hfx),(by lia),?_⟩;cases hn:readNumber x with
   |none=>
    rw[jX hx hn]at k;exact k.same (s1.trans s2)
   |some n=>
    intro H2 s3;have nsl:ns.length<=i:=by
     have z:=SN hns;rw[Z1]at z
     lia
    have il:i<r.length:=(N0.mp hx).1;refine⟨_,s3 _ _ hDl,(by unfold iN;rw[B0];lia),ns++[n],?_,?_,?_⟩
    .rw[Q3 hx];exact kX hns hn
    .exact(s2.trans s3).set hD
    .rw[C0];unfold iN;rw[V0];rfl
  .rintro H2 ⟨ns,hns,s2,hDl⟩;rw[B0,fll,V1]at hns;rw[hns]at k;have UG:=s1.trans s2;refine⟨_,rfl,Dl,_,rfl,.inl (SqL.of hDl),rfl,_,rfl,?_⟩;by_cases h4:ns.length=4
   rotate_left
   .rw[show(!decide (V.int (((iN ns).length:Nat):Int)=V.int 4))=true by
     rw[Y0]
     .rfl
     .intro z;have z':=V.int.inj z;unfold iN at z';rw[B0]at z'
      lia]
    refine b7 (F4 T ?_)
    match ns,h4,k with
    |[],_,k=>exact k.same UG
    |[_],_,k=>exact k.same UG
    |[_,_],_,k=>exact k.same UG
    |[_,_,_],_,k=>exact k.same UG
    |[_,_,_,_],h4,_=>exact absurd rfl h4
    |_::_::_::_::_::_,_,k=>exact k.same UG
   rw[show(!decide (V.int (((iN ns).length:Nat):Int)=V.int 4))=false by
    rw[F1]
    .rfl
    .unfold iN;rw[B0,h4];rfl]
   refine S7 ?_;obtain⟨n0,n1,n2,n3,rfl⟩:∃n0 n1 n2 n3,ns=[n0,n1,n2,n3]:=by
    match ns,h4 with
    |[n0,n1,n2,n3],_=>exact⟨_,_,_,_,rfl⟩
   dsimp only at k;refine⟨_,rfl,λx dx nx Vx dxx=>⟨x,dx,Dl,n0,n1,n2,n3,rfl,C0,?_,λH3 e3 kp=>⟨rfl,?_⟩⟩⟩
   .have q1:Dl≠x:=C1 hDl nx;have q2:Dl≠dx:=C1 hDl Vx;rw[M0 q1,M0 q2];exact hDl
   have s3:Same H2 H3:=λb o e=>by
    have q1:b≠x:=C1 e nx;have q2:b≠dx:=C1 e Vx;rw[kp b q1,M0 q1,M0 q2];exact e
   have s03:=UG.trans s3;have hx:FO aq.T3 H3 x ⟨n0,n1,n2,n3⟩:=⟨dx,e3⟩
   have nxH:H x=Option.none:=UG.free nx;have hb3:=s03 _ _ hb;have ho3:=Ur.same s03 ho;generalize hoo:(⟨n0,n1,n2,n3⟩:Opening)=o at *;refine⟨_,rfl,x,dx,_,rfl,e3,rfl,_,rfl,_,rfl,x,o,long,high,rfl,hx,_,rfl,?_⟩;cases hw:o.within long high with
   |false=>
    rw[K0 hw]at k;exact b7 (F4 T (k.same s03))
   |true=>
    rw[D0 (by rw[hw];decide)]at k;refine S7 ?_;have nem:(!(as.map V.ref).isEmpty)=!os.isEmpty:=by
     have z:=K1 ho;cases as<;>cases os<;>first|rfl|(simp at z)
    dsimp only[aK,iR,jV];refine Bm (x:=!os.isEmpty) (y:=os.getLast?.any λ(p:Opening)=>!p.before o) (λH'=>Same H3 H') (λR r=>?_) (λJK H4 s4 R r=>?_) λH5 s5=>?_
    .refine⟨_,rfl,E1 _,λp4 n4=>⟨bl,p4,_,rfl,rfl,SqL.of (by rw[M0 (C1 hb3 n4)];exact hb3),SqL.of C0,_,rfl,?_⟩⟩;rw[nem];exact r _ ((Same.refl _).new n4)
    .have one:os≠[]:=λz=>by rw[z]at JK;cases JK
     obtain⟨as',al,os',ol,ea,eo,hal⟩:=Paired.last ho one;obtain⟨dal,zir⟩:=id (hal.same (s03.trans s4));refine⟨_,rfl,x,dx,_,rfl,s4 _ _ e3,rfl,_,rfl,_,rfl,bl,_,_,.ref al,rfl,rfl,SqL.of (s4 _ _ hb3),(by rw[ea,V0];exact BN _ _),x,al,o,ol,rfl,hx.same s4,⟨dal,zir⟩,λH5 s5=>⟨_,rfl,?_⟩⟩;have e:(os.getLast?.any λ(p:Opening)=>!p.before o)=!ol.before o:=by
      rw[eo];simp
     rw[e]at r;exact r _ (s4.trans s5)
    have s05:=s03.trans s5;have ee:(!os.isEmpty&&os.getLast?.any λ(p:Opening)=>!p.before o)=os.getLast?.any λ(p:Opening)=>!p.before o:=by
     cases os<;>rfl
    rw[ee];cases hbf:(os.getLast?.any λ(p:Opening)=>!p.before o)with
    |true=>
     rw[K0 hbf]at k;exact b7 (F4 T (k.same s05))
    |false=>
     rw[D0 (by rw[hbf];decide)]at k;refine S7 ?_;refine⟨_,rfl,bl,rfl,⟨_,SqL.of (s5 _ _ hb3)⟩,λD2 hD2=>?_⟩;have s6:∀ys,Same H5 (upd H5 D2 (.lst ys)):=λys=>(Same.refl _).new hD2;refine RF (K:=Kq) (a:=bl) (xs:=as.map V.ref) (λi H'=>H'=upd H5 D2 (.lst ((os.take i).map λu=>V.bl (u.meets o)))) rfl (λi H' _ e=>by rw[e];exact SqL.of (s6 _ _ _ (s5 _ _ hb3))) ?_ ?_
     .rintro i y H' hi rfl;obtain⟨f,hfi,rfl⟩:=b9 hi;obtain⟨u,hu,hfu⟩:=Paired.get ho hfi;have sa:=s05.trans (s6 ((os.take i).map λu=>V.bl (u.meets o)));refine⟨rfl,_,rfl,x,dx,_,rfl,s6 _ _ _ (s5 _ _ e3),rfl,_,rfl,x,f,o,u,rfl,(hx.same s5).same (s6 _),hfu.same sa,?_⟩;refine⟨_,C0,(by rw[B0,Z1];lia),?_⟩;rw[V4,Q3 hu,V0];rfl
     .rintro H6 rfl;rw[B0,K1 ho,V1];refine⟨D2,os.map λu=>u.meets o,rfl,SqL.of (by rw[C0,B3];rfl),_,rfl,?_⟩;have em:((os.map λu=>u.meets o).any id)=os.any λ(p:Opening)=>p.meets o:=by
       rw[EN];rfl
      rw[em];have s06:=s05.trans (s6 (os.map λu=>V.bl (u.meets o)));have hx6:=(hx.same s5).same (s6 (os.map λu=>V.bl (u.meets o)));cases hme:(os.any λ(p:Opening)=>p.meets o)with
      |true=>
       rw[K0 hme]at k;exact b7 (F4 T (k.same s06))
      |false=>
       rw[D0 (by rw[hme];decide)]at k;refine S7 ?_;refine⟨_,rfl,bl,_,rfl,.inl (SqL.of (s06 _ _ hb)),rfl,_,rfl,?_⟩;have lo:=K1 ho;by_cases h8:8<=os.length
       .rw[K0 h8]at k;rw[F1 (show V.int (((as.map V.ref).length:Nat):Int)=V.int 8 by rw[B0,lo,show os.length=8 by lia];rfl)];exact b7 (F4 T (k.same s06))
       .rw[D0 h8]at k;rw[Y0 (show ¬V.int (((as.map V.ref).length:Nat):Int)=V.int 8 from λz=>by
         have z':=V.int.inj z;rw[B0]at z'
         lia)]
        exact S7 ⟨_,rfl,k _ x s06 nxH hx6⟩
def RY(H:Hp)(v:V):HV->Prop
 |.nm b=>∃p,v=.ref p/\H p=some (.lst (iB b))
 |.num n=>v=.int n
theorem RY.same{x:HV}(s:Same H H') (h:RY H v x):RY H' v x:=by
 cases x with
 |nm b=>obtain⟨p,e,q⟩:=h;exact⟨p,e,s _ _ q⟩
 |num n=>exact h
def Fw(v:V)(l:List Addr):Prop:=∀p,v=.ref p->p∉l
inductive Gw(K:Frag)(CL:Addr)(vs:List V)(H:Hp)(Q:VK)(E:XK):Prop
 |mk (i:Nat) (l:Addr) (line:Bytes):vs=[.int i,.ref l]->i<6->SqL K H l (iB line)->line.length<=10000->(match KF i line with
 |.error k=>BB CL E H k
 |.ok x=>∀(H':Hp)(v:V),Same H H'->RY H' v x->(∀p,v=.ref p->H p=none)->Q v H')->Gw K CL vs H Q E
def SY(i:Nat):Str:=(["wall","long","high","left","right","reveal"]:List Str).getD i ""
theorem Tq(i:Nat)(line:Bytes):KF i line=match tK (ascii (fY i)) line with
  |none=>.error 1
  |some x=>sF i x:=by
 unfold KF tK
 match B4 (ascii (fY i)) line with
 |none=>rfl
 |some []=>rfl
 |some [_]=>rfl
 |some (_::_::_)=>rfl
theorem UV(T:oA Kq g9 aq):Fo Pq wq bq true T.YD 5 (Gw Kq aq.j2):=by
 refine T.YD.F.kk T.YD.S λH vs Q E h=>?_;obtain⟨i,l,line,rfl,hi,hS,hl,k⟩:=h;refine⟨rfl,λhr=>?_⟩;refine⟨_,(T0 (RC 2 T.YD.S (JC T.V6 (Z9 T) hr (F0 (O7 XC (aC (v:=.ref aq.mC) rfl T.BO rfl) (pv 0) (λ_ _=>rfl)) (F0 (pv 1) Z0))))
  (T0 (Q6 (V3 qC (pv 0) A2 (U3 _)) (X0 (S3 (JC T.JE (KU T) hr (F0 (pv 2) Z0)))) T4)
  (T0 (Q6 (V3 qC (pv 0) A2 (U3 _)) (X0 (S3 (JC T.J8 (bE T) hr (F0 (pv 2) (F0 A2 (F0 (qG T.RV) Z0)))))) T4)
  (T0 (Q6 (V3 qC (pv 0) A2 (U3 _)) (X0 (S3 (JC T.J8 (bE T) hr (F0 (pv 2) (F0 A2 (F0 (qG T.SV) Z0)))))) T4)
  (X0 (S3 (JC T.NI (Sq T) hr (F0 (pv 2) Z0)))))))),?_⟩
 have hw:(SY i).cps.toList=(ascii (fY i)).map (·.toNat)/\(ascii (fY i)).length<1000/\([V.str "wall",.str "long",.str "high",.str "left",.str "right",.str "reveal"]:List V)[i]?=some (.str (SY i)):=by
  match i,hi with
  |0,_=>exact⟨by decide,by decide,rfl⟩
  |1,_=>exact⟨by decide,by decide,rfl⟩
  |2,_=>exact⟨by decide,by decide,rfl⟩
  |3,_=>exact⟨by decide,by decide,rfl⟩
  |4,_=>exact⟨by decide,by decide,rfl⟩
  |5,_=>exact⟨by decide,by decide,rfl⟩
  |n+6,h=>lia
 refine⟨_,rfl,aq.mC,_,_,_,rfl,rfl,T.DO _,S5 hw.2.2,_,rfl,SY i,l,ascii (fY i),line,rfl,hw.1,hw.2.1,hS,hl,?_⟩;rw[Tq]at k;cases hf:tK (ascii (fY i)) line with
 |none=>
  rw[hf]at k;exact k
 |some x=>
  rw[hf]at k;intro H1 f s1 fH hx Nf;dsimp only at k;unfold sF at k;refine⟨_,rfl,rfl,_,rfl,?_⟩;by_cases i0:i=0
  .subst i0;rw[K0 rfl]at k;refine b7 ⟨_,rfl,f,x,rfl,SqL.of hx,Nf,?_⟩;cases hn:mH x with
   |error e=>
    rw[hn]at k;exact k.same s1
   |ok b=>
    rw[hn]at k;intro H2 s2;have eb:b=x:=by
     unfold mH at hn;by_cases q1:x=[]\/x.all isSmall=false
     .rw[K0 q1]at hn;cases hn
     .rw[D0 q1]at hn;by_cases q2:15<x.length
      .rw[K0 q2]at hn;cases hn
      .rw[D0 q2]at hn;exact(b3 hn).symm
    subst eb;exact k H2 (.ref f) (s1.trans s2) ⟨f,rfl,s2 _ _ hx⟩ (λq e=>by cases e;exact fH)
  .rw[D0 i0]at k;rw[Y0 (show ¬V.int i=V.int 0 from λz=>i0 (by have:=V.int.inj z;lia))];refine S7 ⟨_,rfl,rfl,_,rfl,?_⟩;by_cases i1:i=1
   .subst i1;rw[K0 rfl]at k;refine b7 ⟨_,rfl,f,x,1,32,rfl,SqL.of hx,Nf,?_⟩;cases hn:qE x 32 with
    |error e=>
     rw[hn]at k;rw[show xJ x 1 32=.error e from hn];exact k.same s1
    |ok n=>
     rw[hn]at k;rw[show xJ x 1 32=.ok n from hn];exact λH2 s2=>k H2 _ (s1.trans s2) rfl (λq e=>nomatch e)
   .rw[D0 i1]at k;rw[Y0 (show ¬V.int i=V.int 1 from λz=>i1 (by have:=V.int.inj z;lia))];refine S7 ⟨_,rfl,rfl,_,rfl,?_⟩;by_cases i2:i=2
    .subst i2;rw[K0 rfl]at k;refine b7 ⟨_,rfl,f,x,1,8,rfl,SqL.of hx,Nf,?_⟩;cases hn:qE x 8 with
     |error e=>
      rw[hn]at k;rw[show xJ x 1 8=.error e from hn];exact k.same s1
     |ok n=>
      rw[hn]at k;rw[show xJ x 1 8=.ok n from hn];exact λH2 s2=>k H2 _ (s1.trans s2) rfl (λq e=>nomatch e)
    .rw[D0 i2]at k;rw[Y0 (show ¬V.int i=V.int 2 from λz=>i2 (by have:=V.int.inj z;lia))];refine S7 ⟨_,rfl,f,x,rfl,SqL.of hx,Nf,?_⟩;cases hn:gL x with
     |none=>
      rw[hn]at k;exact k.same s1
     |some n=>
      rw[hn]at k;exact λH2 s2=>k H2 _ (s1.trans s2) rfl (λq e=>nomatch e)
theorem Paired.getR{F:α->β->Prop}:∀{as:List α}{bs:List β}{i:Nat}{y:β},Paired F as bs->bs[i]?=some y->∃x,as[i]?=some x/\F x y
 |_,_,_,_,.nil,h=>by simp at h
 |_,_,0,_,.cons h t,e=>by
  grind
 |_,_,i+1,x,.cons h t,e=>Paired.getR (i:=i) t e
def zM(h:List HV):Prop:=∀(n:Nat)(x:HV),h[n]?=some x->if n=0 then ∃b,x=.nm b else ∃m,x=.num m
theorem zM.snoc{x:HV}(k:zM h) (e:KF h.length line=.ok x):zM (h++[x]):=by
 intro n y hy;by_cases hn:n<h.length
 .rw[j8 hn]at hy;exact k n y hy
 .have en:n=h.length:=by
   have z:=(N0.mp hy).1;simp at z
   lia
  subst en;rw[Q7 (j1 _),TN]at hy;obtain rfl:x=y:=J0 hy;unfold KF at e;generalize B4 (ascii (fY h.length)) line=r at e
  match r,e with
  |none,e=>cases e
  |some [],e=>cases e
  |some (_::_::_),e=>cases e
  |some [z],e=>
   dsimp only at e;unfold sF at e;by_cases h0:h.length=0
   .rw[K0 h0]at e ⊢;cases q:mH z with
    |error k=>rw[q]at e;cases e
    |ok b=>rw[q]at e;exact⟨b,(b3 e).symm⟩
   .rw[D0 h0]at e ⊢;by_cases h1:h.length=1
    .rw[K0 h1]at e;cases q:qE z 32 with
     |error k=>rw[q]at e;cases e
     |ok b=>rw[q]at e;exact⟨b,(b3 e).symm⟩
    .rw[D0 h1]at e;by_cases h2:h.length=2
     .rw[K0 h2]at e;cases q:qE z 8 with
      |error k=>rw[q]at e;cases e
      |ok b=>rw[q]at e;exact⟨b,(b3 e).symm⟩
     .rw[D0 h2]at e;cases q:gL z with
      |none=>grind
      |some b=>rw[q]at e;exact⟨b,(b3 e).symm⟩
theorem zM.num(k:zM h)(hn:n<h.length)(h0:n≠0):∃m,h[n]?=some (.num m)/\HC h n=m:=by
 have e:h[n]?=some h[n]:=O0 hn;have z:=k n _ e;rw[D0 h0]at z;obtain⟨m,z⟩:=z;rw[z]at e;exact⟨m,e,by unfold HC;rw[e]⟩
theorem lX{os':List Opening}(e:oH h os line=.ok (h',os')) (kd:zM h) (h6:h.length<=6) (o8:os.length<=8):h'.length<=6/\os'.length<=8/\zM h':=by
 unfold oH at e;by_cases q:h.length<6
 .rw[K0 q]at e;cases hb:KF h.length line with
  |error k=>grind
  |ok v=>
   rw[hb]at e;have e':(h++[v],os)=(h',os'):=b3 e;obtain⟨rfl,rfl⟩:=KB e';exact⟨by simp;lia,o8,kd.snoc hb⟩
 .rw[D0 q]at e;cases hb:vM line (HC h 1) (HC h 2) os with
  |error k=>grind
  |ok p=>
   rw[hb]at e;have e':(h,os++[p])=(h',os'):=b3 e;obtain⟨rfl,rfl⟩:=KB e';refine⟨h6,?_,kd⟩;have lt:¬8<=os.length:=λz=>by
    unfold vM at hb;generalize ((B4 (ascii "open") line).bind λr=>r.mapM readNumber)=r at hb
    match r,hb with
    |none,hb=>cases hb
    |some [],hb=>cases hb
    |some [_],hb=>cases hb
    |some [_,_],hb=>cases hb
    |some [_,_,_],hb=>cases hb
    |some (_::_::_::_::_::_),hb=>cases hb
    |some [x0,x1,x2,x3],hb=>
     dsimp only at hb;by_cases q1:Opening.within ⟨x0,x1,x2,x3⟩ (HC h 1) (HC h 2)=false
     .grind
     .rw[D0 q1]at hb;by_cases q2:(os.getLast?.any λ(p:Opening)=>!p.before ⟨x0,x1,x2,x3⟩)=true
      .grind
      .rw[D0 q2]at hb
       all_goals grind
   simp
   lia
theorem LU{ta tb:TT}(S:Hp->Prop) (ha:∀R:Bool->Hp->Prop,(∀H1,S H1->R x H1)->ta σ H R) (hb:x=false->∀H1,S H1->∀R:Bool->Hp->Prop,(∀H2,S H2->R y H2)->tb σ H1 R)
 (h:∀H2,S H2->Q (x||y) H2):tOr ta tb σ H Q:=by
  refine ha _ λH1 s1=>?_;cases x with
  |true=>exact b7 (h H1 s1)
  |false=>exact S7 (hb rfl H1 s1 _ h)
def wrF(pl ph po:Addr):List (Str×V):=[("lines",.ref pl),("head",.ref ph),("openings",.ref po)]
structure WRd(Z:List Addr)(CR CO:Addr)(H:Hp)(r dx pl ph po:Addr)(RL:List V)(as cS:List Addr)(s:WS):Prop where
 ob:H r=some (.ins CR dx (wrF pl ph po))
 hd:H ph=some (.lst RL)
 hv:Paired (RY H) RL s.1
 off:∀v∈RL,Fw v Z
 op:H po=some (.lst (as.map V.ref))
 os:Ur CO H as s.2.1
 ln:H pl=some (.lst (cS.map V.ref))
 rows:Rows H cS s.2.2
 lo:∀x∈cS,x∉Z
 z1:pl∈Z
 z2:ph∈Z
 z3:po∈Z
 n1:pl≠ph
 n2:pl≠po
 n3:ph≠po
 h6:s.1.length<=6
 o8:s.2.1.length<=8
 l14:s.2.2.length=s.1.length+s.2.1.length
 kd:zM s.1
def WRz(Z:List Addr)(CR CO:Addr)(H:Hp)(X:List Addr)(r:Addr)(s:WS):Prop:=∃(dx pl ph po:Addr)(RL:List V)(as cS:List Addr),X=[pl,ph,po]/\WRd Z CR CO H r dx pl ph po RL as cS s
def WR(CR CO:Addr)(H:Hp)(X:List Addr)(r:Addr)(s:WS):Prop:=WRz X CR CO H X r s
theorem WRd.keep{CR:Addr}{r pl ph po:Addr}{RL:List V}{cS:List Addr}{s:WS}(U:WRd Z CR CO H r dx pl ph po RL as cS s) (k:Same H H'):WRd Z CR CO H' r dx pl ph po RL as cS s:=
 ⟨k _ _ U.ob,k _ _ U.hd,Paired.mapP U.hv λ_ _ h=>h.same k,U.off,k _ _ U.op,Ur.same k U.os,k _ _ U.ln,Rows.same k U.rows,U.lo,U.z1,U.z2,U.z3,U.n1,U.n2,U.n3,U.h6,U.o8,U.l14,U.kd⟩
theorem JO{H:Hp}{p:Addr}{o:HO}{X:List Addr}(hp:p∈X):∀{l1:List V}{l2:List HV},Paired (RY H) l1 l2->(∀v∈l1,Fw v X)->Paired (RY (upd H p o)) l1 l2
 |_,_,.nil,_=>.nil
 |_,_,.cons (b:=z) f t,off=>.cons (match z,f with
   |.nm b,⟨q,e,f⟩=>⟨q,e,by rw[M0 (λz=>off _ (by simp) q e (by rw[z];exact hp))];exact f⟩
   |.num n,f=>f) (JO hp t λv hv=>off v (by simp[hv]))
theorem Cm(hp:H p=some (.lst xs)):∀{as:List Addr}{os:List Opening},Ur CO H as os->Ur CO (upd H p (.lst ys)) as os:=
 λr=>Paired.mapP r λq o ⟨dq,e⟩=>⟨dq,by rw[M0 (XE e hp (by intro z;cases z))];exact e⟩
inductive KO{S:Type}(Rd:Hp->List Addr->Addr->S->Prop)(step:S->Bytes->Except Nat S)(CL:Addr)(vs:List V)(H:Hp)(Q:VK)(E:XK):Prop
 |mk (r l:Addr) (X:List Addr) (s:S) (line:Bytes):vs=[.ref r,.ref l]->Rd H X r s->H l=some (.lst (iB line))->l∉X->line.length<=10000->(match step s line with
 |.error k=>BB CL E H k
 |.ok s'=>∀(H':Hp)(X':List Addr),(∀b o,H b=some o->b∉X->H' b=some o)->Rd H' X' r s'->(∀x∈X',x∈X\/H x=none)->Q .non H')->KO Rd step CL vs H Q E
inductive LO{S:Type}(Rd:Hp->List Addr->Addr->S->Prop)(fin:S->Bytes->Option Nat)(CL:Addr)(vs:List V)(H:Hp)(Q:VK)(E:XK):Prop
 |mk (r l:Addr) (X:List Addr) (s:S) (line:Bytes):vs=[.ref r,.ref l]->Rd H X r s->H l=some (.lst (iB line))->line.length<=10000->(match fin s line with
 |some k=>BB CL E H k
 |none=>∀H':Hp,Same H H'->Q .non H')->LO Rd fin CL vs H Q E
inductive Dm(CR CO CL:Addr)(vs:List V)(H:Hp)(Q:VK)(E:XK):Prop
 |mk (r l:Addr) (Z X:List Addr) (s:WS) (line:Bytes):vs=[.ref r,.ref l]->WRz Z CR CO H X r s->(∀z∈Z,H z≠none)->H l=some (.lst (iB line))->l∉Z->line.length<=10000->(match wQ s line with
 |.error k=>BB CL E H k
 |.ok s'=>∀H':Hp,(∀b o,H b=some o->b∉X->H' b=some o)->WRz Z CR CO H' X r s'->Q .non H')->Dm CR CO CL vs H Q E
inductive mX(CR CO:Addr)(vs:List V)(H:Hp)(Q:VK)(E':XK):Prop
 |mk (r:Addr) (Z X:List Addr) (s:WS):vs=[.ref r]->WRz Z CR CO H X r s->Q (.bl (decide (s.1.length=6))) H->mX CR CO vs H Q E'
inductive Sd(CR CO:Addr)(vs:List V)(H:Hp)(Q:VK)(E':XK):Prop
 |mk (r dx:Addr):vs=[.ref r]->H r=some (.ins CR dx [])->(∀(H':Hp)(X:List Addr),(∀b o,H b=some o->b≠r->H' b=some o)->WR CR CO H' X r ([],[],[])->(∀x∈X,H x=none)->Q .non H')->Sd CR CO vs H Q E'
def wlF(v0 v1 v2 v3 v4 v5 v6:V):List (Str×V):=[("name",v0),("length",v1),("height",v2),("left",v3),("right",v4),("reveal",v5),("openings",v6)]
inductive MU(C:Addr)(vs:List V)(H:Hp)(Q:VK)(E':XK):Prop
 |mk (p dx hd op:Addr) (v0 v1 v2 v3 v4 v5:V):vs=[.ref p,.ref hd,.ref op]->H p=some (.ins C dx [])->H hd=some (.lst [v0,v1,v2,v3,v4,v5])->(∀H':Hp,H' p=some (.ins C dx (wlF v0 v1 v2 v3 v4 v5 (.ref op)))->(∀b,b≠p->H' b=H b)->Q .non H')->MU C vs H Q E'
def Xi(CW CO:Addr)(H:Hp)(p:Addr)(h:List HV)(os:List Opening):Prop:=∃(dx op:Addr)(v0 v1 v2 v3 v4 v5:V)(as:List Addr),H p=some (.ins CW dx (wlF v0 v1 v2 v3 v4 v5 (.ref op)))/\Paired (RY H) [v0,v1,v2,v3,v4,v5] h/\H op=some (.lst (as.map V.ref))/\Ur CO H as os
theorem SJ(T:oA Kq g9 aq):Mo g9 Pq wq bq true T.C8 1 (Sd aq.d5 aq.T3):=by
 refine T.C8.F.kk T.C8.S λH vs Q E h=>?_;obtain⟨r,dx,rfl,hp,k⟩:=h;refine⟨rfl,λhr=>?_⟩;refine⟨_,(T0 (r6 (pv 0) (d6 Z0) rfl)
  (T0 (r6 (pv 0) (d6 Z0) rfl)
  (X0 (r6 (pv 0) (d6 Z0) rfl)))),?_⟩
 refine⟨E1 _,λpl npl=>⟨_,rfl,r,_,dx,_,rfl,by rw[M0 (C1 hp npl)];exact hp,T.N4.c,T.mD,(by show 0<1000;decide),?_⟩⟩;have rl:r≠pl:=C1 hp npl;refine⟨E1 _,λph nph=>⟨_,rfl,r,_,dx,_,rfl,by rw[M0 (C1 C0 nph)];exact C0,T.N4.c,T.b8,(by show 1<1000;decide),?_⟩⟩;have rh:r≠ph:=C1 C0 nph;have lh:pl≠ph:=λe=>by
  rw[M0 (K2 rh),<-e,C0]at nph;cases nph
 refine⟨E1 _,λpo Iy=>⟨_,rfl,r,_,dx,_,rfl,by rw[M0 (C1 C0 Iy)];exact C0,T.N4.c,T.P9,(by show 2<1000;decide),?_⟩⟩;have ro:r≠po:=C1 C0 Iy;rw[M0 (K2 ro)]at Iy;have ho:ph≠po:=λe=>by
  rw[<-e,C0]at Iy;cases Iy
 rw[M0 (K2 ho),M0 (K2 ro)]at Iy;have lo:pl≠po:=λe=>by
  rw[<-e,C0]at Iy;cases Iy
 rw[M0 (K2 lo)]at Iy;rw[M0 (K2 rh),M0 (K2 lh)]at nph;refine k _ [pl,ph,po] (λb o e br=>?_) ⟨dx,pl,ph,po,[],[],[],rfl,?_,?_,.nil,(by simp),?_,.nil,?_,.nil,(by simp),(by simp),(by simp),(by simp),lh,lo,ho,by decide,by decide,rfl,λn x e=>by simp at e⟩ ?_
 .rw[M0 br,M0 (C1 e Iy),M0 br,M0 (C1 e nph),M0 br,M0 (C1 e npl)];exact e
 .rw[C0];rfl
 .rw[M0 (K2 rh),M0 ho,M0 (K2 rh),C0]
 .rw[M0 (K2 ro),C0];rfl
 .rw[M0 (K2 rl),M0 lo,M0 (K2 rl),M0 lh,M0 (K2 rl),C0];rfl
 all_goals grind
theorem cE(T:oA Kq g9 aq):Mo g9 Pq wq bq true T.Z5 1 (mX aq.d5 aq.T3):=by
 refine T.Z5.F.kk T.Z5.S λH vs Q E h=>?_;obtain⟨r,Z,X,s,rfl,⟨dx,pl,ph,po,RL,as,cS,rfl,U⟩,k⟩:=h;refine⟨rfl,λhr=>?_⟩;refine⟨_,(X0 (S3 (yA qC (oS T.UA (Q2 (pv 0) rfl)) (oS T.UA (aC (v:=.ref aq.mC) rfl T.BO rfl)) (U3 _)))),?_⟩;refine⟨_,rfl,r,_,dx,_,_,rfl,U.ob,T.N4.c,T.b8,rfl,ph,_,rfl,.inl (SqL.of U.hd),aq.mC,_,rfl,.inr (T.DO _),rfl,?_⟩;have len:RL.length=s.1.length:=K1 U.hv;have e:decide (V.int RL.length=V.int ((([V.str "wall",.str "long",.str "high",.str "left",.str "right",.str "reveal"]:List V).length:Nat):Int))=decide (s.1.length=6):=by
  rw[len];refine P3.mpr ⟨λq=>?_,λq=>by rw[q];rfl⟩;have q':(s.1.length:Int)=6:=V.int.inj q
  lia
 rw[e];exact k
theorem rM(T:oA Kq g9 aq):Mo g9 Pq wq bq true T.a9 6 (Dm aq.d5 aq.T3 aq.j2):=by
 refine T.a9.F.kk T.a9.S λH vs Q E h=>?_;obtain⟨r,l,Z,X,⟨h,os,ls⟩,line,rfl,⟨dx,pl,ph,po,RL,as,cS,rfl,U⟩,hZ,hL,nl,hl,k⟩:=h;refine⟨rfl,λhr=>?_⟩;have zl:=gN;have len:RL.length=h.length:=K1 U.hv;have zmg:as.length=os.length:=K1 U.os;have zmh:cS.length=ls.length:=K1 U.rows;have h6:h.length<=6:=U.h6;have o8:os.length<=8:=U.o8;have l14:ls.length=h.length+os.length:=U.l14;have kd:zM h:=U.kd;refine⟨_,(T0 (Q6 (VC (zZ (pv 0) T.N4.c T.Z5.M (cE T) hr.mo T.Z5.b .nil O1.passes)) (X0 (L6 (mE P2 K3 L3 V9 (Q2 (pv 0) rfl) (F0 (JC T.i9 (TV T) hr (F0 (pv 1) (F0 (O7 Z6 (Q2 (pv 0) rfl) A2 (λ_ _=>rfl)) (F0 (O7 Z6 (Q2 (pv 0) rfl) A2 (λ_ _=>rfl)) (F0 (Q2 (pv 0) rfl) Z0))))) Z0)))) (X0 (L6 (mE P2 K3 L3 V9 (Q2 (pv 0) rfl) (F0 (JC T.YD (UV T) hr (F0 (oS T.UA (Q2 (pv 0) rfl)) (F0 (pv 1) Z0))) Z0)))))
  (X0 (L6 (mE P2 K3 L3 V9 (Q2 (pv 0) rfl) (F0 (pv 1) Z0))))),?_⟩
 refine⟨_,rfl,r,dx,_,rfl,U.ob,rfl,r,Z,_,_,rfl,⟨dx,pl,ph,po,RL,as,cS,rfl,U⟩,_,rfl,?_⟩;unfold wQ oH at k;dsimp only at k ⊢;by_cases UC:h.length<6
 .rw[K0 UC]at k;rw[Y0 (show ¬h.length=6 by lia)];refine S7 ⟨_,rfl,r,_,dx,_,_,rfl,U.ob,T.N4.c,T.b8,rfl,.inl ⟨rfl,_,SqL.of U.hd⟩,_,rfl,r,_,dx,_,_,rfl,U.ob,T.N4.c,T.b8,rfl,ph,_,rfl,.inl (SqL.of U.hd),_,rfl,h.length,l,line,(by rw[len];rfl),UC,SqL.of hL,hl,?_⟩;cases hb:KF h.length line with
  |error e=>
   rw[hb]at k;exact k
  |ok x=>
   rw[hb]at k;intro H1 v s1 hv fresh;have U1:=U.keep s1;refine⟨ph,RL,v,rfl,rfl,U1.hd,(by lia),?_⟩;have zfW:Fw v Z:=λp e m=>hZ p m (fresh p e);have nr:r≠ph:=XE U1.ob U1.hd (by intro z;cases z);have e2:upd H1 ph (.lst (RL++[v])) pl=some (.lst (cS.map V.ref)):=by rw[M0 U.n1];exact U1.ln
   have ob2:upd H1 ph (.lst (RL++[v])) r=some (.ins aq.d5 dx (wrF pl ph po)):=by rw[M0 nr];exact U1.ob
   refine⟨_,rfl,r,_,dx,_,_,rfl,ob2,T.N4.c,T.mD,rfl,.inl ⟨rfl,_,SqL.of e2⟩,_,rfl,pl,_,_,rfl,rfl,e2,(by rw[B0];lia),?_⟩;have nrl:r≠pl:=XE U1.ob U1.ln (by intro z;cases z);have hv2:RY (upd (upd H1 ph (.lst (RL++[v]))) pl (.lst (cS.map V.ref++[.ref l]))) v x:=by
    cases x with
    |nm b=>
     obtain⟨p,e,q⟩:=hv;refine⟨p,e,?_⟩;have m:=zfW p e;rw[M0 (λz=>m (by rw[z];exact U.z1)),M0 (λz=>m (by rw[z];exact U.z2))];exact q
    |num n=>exact hv
   refine k _ (λb o e n=>?_) ⟨dx,pl,ph,po,RL++[v],as,cS++[l],rfl,?_,?_,?_,?_,?_,?_,?_,?_,?_,U.z1,U.z2,U.z3,U.n1,U.n2,U.n3,?_,o8,?_,kd.snoc hb⟩
   .simp only[S1,OA,LL,dL]at n;rw[M0 n.1,M0 n.2.1];exact s1 b o e
   .rw[M0 nrl,M0 nr];exact U1.ob
   .rw[M0 (K2 U.n1)];exact C0
   .exact K4 (JO (X:=Z) U.z1 (JO (X:=Z) U.z2 U1.hv U.off) U.off) hv2
   .intro y hy;rcases N2.mp hy with m|m
    .exact U.off y m
    .rw[Q1.mp m];exact zfW
   .rw[M0 (K2 U.n2),M0 (K2 U.n3)];exact U1.op
   .exact Cm e2 (Cm U1.hd U1.os)
   .rw[C0,V0];rfl
   .refine K4 (Rows.upd (Rows.upd U1.rows λm=>U.lo _ m U.z2) λm=>U.lo _ m U.z1) ?_;rw[M0 (λz=>nl (by rw[z];exact U.z1)),M0 (λz=>nl (by rw[z];exact U.z2))];exact s1 _ _ hL
   .intro y hy;rcases N2.mp hy with m|m
    .exact U.lo y m
    .rw[Q1.mp m];exact nl
   .simp
    lia
   .simp
    lia
 .rw[D0 UC]at k;have e6:h.length=6:=by lia
  rw[F1 e6];obtain⟨m1,q1,e1⟩:=kd.num (n:=1) (by lia) (by decide);obtain⟨m2,q2,zfX⟩:=kd.num (n:=2) (by lia) (by decide);rw[e1,zfX]at k;obtain⟨v1,g1,r1⟩:=Paired.getR U.hv q1;obtain⟨v2,g2,r2⟩:=Paired.getR U.hv q2;obtain rfl:v1=.int m1:=r1;obtain rfl:v2=.int m2:=r2;refine b7 ⟨_,rfl,r,_,dx,_,_,rfl,U.ob,T.N4.c,T.P9,rfl,.inl ⟨rfl,_,SqL.of U.op⟩,_,rfl,_,rfl,r,_,dx,_,_,rfl,U.ob,T.N4.c,T.b8,rfl,ph,_,_,_,rfl,rfl,SqL.of U.hd,S5 (j:=1) g1,_,rfl,r,_,dx,_,_,rfl,U.ob,T.N4.c,T.b8,rfl,ph,_,_,_,rfl,rfl,SqL.of U.hd,S5 (j:=2) g2,_,rfl,r,_,dx,_,_,rfl,U.ob,T.N4.c,T.P9,rfl,l,po,line,m1,m2,as,os,rfl,SqL.of hL,hl,U.op,U.os,o8,?_⟩;cases hb:vM line m1 m2 os with
  |error e=>
   rw[hb]at k;exact k
  |ok o=>
   rw[hb]at k;intro H1 p s1 np hp;have U1:=U.keep s1;refine⟨po,_,_,rfl,rfl,U1.op,(by rw[B0];lia),?_⟩;have nr:r≠po:=XE U1.ob U1.op (by intro z;cases z);have e2:upd H1 po (.lst (as.map V.ref++[.ref p])) pl=some (.lst (cS.map V.ref)):=by rw[M0 U.n2];exact U1.ln
   have ob2:upd H1 po (.lst (as.map V.ref++[.ref p])) r=some (.ins aq.d5 dx (wrF pl ph po)):=by rw[M0 nr];exact U1.ob
   refine⟨_,rfl,r,_,dx,_,_,rfl,ob2,T.N4.c,T.mD,rfl,.inl ⟨rfl,_,SqL.of e2⟩,_,rfl,pl,_,_,rfl,rfl,e2,(by rw[B0];lia),?_⟩;have nrl:r≠pl:=XE U1.ob U1.ln (by intro z;cases z);have e9:os.length<8:=by
    have z:=(lX (h:=h) (os:=os) (h':=h) (os':=os++[o]) (line:=line) (by unfold oH;rw[D0 UC,e1,zfX,hb]) kd h6 o8).2.1;simp at z
    lia
   refine k _ (λb o e n=>?_) ⟨dx,pl,ph,po,RL,as++[p],cS++[l],rfl,?_,?_,?_,U.off,?_,?_,?_,?_,?_,U.z1,U.z2,U.z3,U.n1,U.n2,U.n3,h6,?_,?_,kd⟩
   .simp only[S1,OA,LL,dL]at n;rw[M0 n.1,M0 n.2.2];exact s1 b o e
   .rw[M0 nrl,M0 nr];exact U1.ob
   .rw[M0 (K2 U.n1),M0 U.n3];exact U1.hd
   .exact JO (X:=Z) U.z1 (JO (X:=Z) U.z3 U1.hv U.off) U.off
   .rw[M0 (K2 U.n2),C0,V0];rfl
   .have up:∀(q:Addr)(z:Opening),FO aq.T3 H1 q z->FO aq.T3 (upd (upd H1 po (.lst (as.map V.ref++[.ref p]))) pl (.lst (cS.map V.ref++[.ref l]))) q z:=λq z ⟨dq,e⟩=>⟨dq,by rw[M0 (XE e U1.ln (by intro z;cases z)),M0 (XE e U1.op (by intro z;cases z))];exact e⟩
    exact K4 (Paired.mapP U1.os λq o h=>up q o h) (up _ _ hp)
   .rw[C0,V0];rfl
   .refine K4 (Rows.upd (Rows.upd U1.rows λm=>U.lo _ m U.z3) λm=>U.lo _ m U.z1) ?_;rw[M0 (λz=>nl (by rw[z];exact U.z1)),M0 (λz=>nl (by rw[z];exact U.z3))];exact s1 _ _ hL
   .intro y hy;rcases N2.mp hy with m|m
    .exact U.lo y m
    .rw[Q1.mp m];exact nl
   .simp
    lia
   .simp
    lia
theorem WRz.has{CR:Addr}{r:Addr}{s:WS}(h:WRz Z CR CO H X r s):∀x∈X,∃xs,H x=some (.lst xs):=by
 obtain⟨dx,pl,ph,po,RL,as,cS,rfl,U⟩:=h;intro x hx;simp only[S1,OA,LL]at hx;rcases hx with rfl|rfl|rfl
 .exact⟨_,U.ln⟩
 .exact⟨_,U.hd⟩
 .exact⟨_,U.op⟩
theorem WR.has{CR:Addr}{r:Addr}{s:WS}(h:WR CR CO H X r s):∀x∈X,H x≠none:=λx hx e=>by
 obtain⟨xs,e2⟩:=WRz.has h x hx;grind
theorem jN(T:oA Kq g9 aq):Mo g9 Pq wq bq true T.a9 6 (KO (WR aq.d5 aq.T3) wQ aq.j2):=by
 refine(rM T).imp λvs H Q E h=>?_;obtain⟨r,l,X,s,line,rfl,W,hL,nl,hl,k⟩:=h;refine⟨r,l,X,X,s,line,rfl,W,W.has,hL,nl,hl,?_⟩;cases hs:wQ s line with
 |error e=>
  rw[hs]at k;exact k
 |ok s'=>
  rw[hs]at k;exact λH' f W'=>k H' X f W' λx hx=>.inl hx
theorem XI(T:oA Kq g9 aq):Mo g9 Pq wq bq true T.a8 3 (LO (WR aq.d5 aq.T3) Ju aq.j2):=by
 refine T.a8.F.kk T.a8.S λH vs Q E h=>?_;obtain⟨r,l,X,⟨h,os,ls⟩,line,rfl,⟨dx,pl,ph,po,RL,as,cS,rfl,U⟩,hL,hl,k⟩:=h;refine⟨rfl,λhr=>?_⟩;refine⟨_,(X0 (Q6 (PW.pt (vS (V3 (Fg hr.units) (pv 1) (d6 Z0) (U3 _)) (HM (gG (VC (zZ (pv 0) T.N4.c T.Z5.M (cE T) hr.mo T.Z5.b .nil O1.passes)))))) (X0 (HU T O1 hr.mo (qG T.c7))) T4)),?_⟩;have h6:h.length<=6:=U.h6;unfold Ju at k;dsimp only[aK,iR,jV]at k ⊢;refine LU (x:=!decide (line=[])) (y:=!decide (h.length=6)) (λH6=>Same H H6) (λR r'=>?_) (λ_ H6 s6 R r'=>?_) λH6 s6=>?_
 .refine⟨_,rfl,E1 _,λp1 n1=>?_⟩;have s1:Same H (upd H p1 (.lst [])):=(Same.refl _).new n1;refine⟨_,_,kK (SqL.of (s1 _ _ hL)),kK (b:=[]) (SqL.of C0),Y9 _,Y9 _,_,rfl,?_⟩;rw[iQ];exact r' _ s1
 .exact⟨_,rfl,r,dx,_,rfl,s6 _ _ U.ob,rfl,r,_,_,_,rfl,⟨dx,pl,ph,po,RL,as,cS,rfl,U.keep s6⟩,_,rfl,r' _ s6⟩
 .by_cases q:h.length<6\/line≠[]
  .rw[K0 q]at k;rw[show(!decide (line=[])||!decide (h.length=6))=true by
    rw[W3,O3,O3,j5,j5];rcases q with q|q
    .exact .inr (by lia)
    .exact .inl q]
   exact b7 (F4 T (k.same s6))
  .rw[D0 q]at k;rw[show(!decide (line=[])||!decide (h.length=6))=false by
    rw[Q4];intro z;rw[W3,O3,O3,j5,j5]at z;exact q (z.elim .inr λz=>.inl (by lia))]
   exact S7 (k _ s6)
theorem lQ(T:oA Kq g9 aq):Mo g9 Pq wq bq true T.oB 1 (MU aq.cB):=by
 refine T.oB.F.kk T.oB.S λH vs Q E h=>?_;obtain⟨p,dx,l,op,v0,v1,v2,v3,v4,v5,rfl,hp,hl,k⟩:=h;refine⟨rfl,λhr=>?_⟩;have lp:l≠p:=XE hl hp (by intro z;cases z);refine⟨_,(T0 (r6 (pv 0) (O7 Z6 (pv 1) A2 (λ_ _=>rfl)) rfl)
  (T0 (r6 (pv 0) (O7 Z6 (pv 1) A2 (λ_ _=>rfl)) rfl)
  (T0 (r6 (pv 0) (O7 Z6 (pv 1) A2 (λ_ _=>rfl)) rfl)
  (T0 (r6 (pv 0) (O7 Z6 (pv 1) A2 (λ_ _=>rfl)) rfl)
  (T0 (r6 (pv 0) (O7 Z6 (pv 1) A2 (λ_ _=>rfl)) rfl)
  (T0 (r6 (pv 0) (O7 Z6 (pv 1) A2 (λ_ _=>rfl)) rfl)
  (X0 (r6 (pv 0) (pv 2) rfl)))))))),?_⟩
 refine⟨_,rfl,l,_,_,_,rfl,rfl,SqL.of hl,S5 (j:=0) rfl,_,rfl,p,_,dx,_,rfl,hp,T.pA.c,T.Vc,(by show 0<1000;decide),?_⟩;refine⟨_,rfl,l,_,_,_,rfl,rfl,SqL.of (by rw[M0 lp];exact hl),S5 (j:=1) rfl,_,rfl,p,_,dx,_,rfl,C0,T.pA.c,T.VE,(by show 1<1000;decide),?_⟩;rw[V4];refine⟨_,rfl,l,_,_,_,rfl,rfl,SqL.of (by rw[M0 lp];exact hl),S5 (j:=2) rfl,_,rfl,p,_,dx,_,rfl,C0,T.pA.c,T.RH,(by show 2<1000;decide),?_⟩;rw[V4];refine⟨_,rfl,l,_,_,_,rfl,rfl,SqL.of (by rw[M0 lp];exact hl),S5 (j:=3) rfl,_,rfl,p,_,dx,_,rfl,C0,T.pA.c,T.OQ,(by show 3<1000;decide),?_⟩;rw[V4];refine⟨_,rfl,l,_,_,_,rfl,rfl,SqL.of (by rw[M0 lp];exact hl),S5 (j:=4) rfl,_,rfl,p,_,dx,_,rfl,C0,T.pA.c,T.wO,(by show 4<1000;decide),?_⟩;rw[V4];refine⟨_,rfl,l,_,_,_,rfl,rfl,SqL.of (by rw[M0 lp];exact hl),S5 (j:=5) rfl,_,rfl,p,_,dx,_,rfl,C0,T.pA.c,T.SH,(by show 5<1000;decide),?_⟩;rw[V4];refine⟨_,rfl,_,rfl,p,_,dx,_,rfl,C0,T.pA.c,T.iK,(by show 6<1000;decide),?_⟩;rw[V4];exact k _ C0 λb hb=>M0 hb
def zc9(C:Addr)(E:XK)(H:Hp)(X:List Addr)(i k:Nat):Prop:=∀(fr:Bool)(d q:Addr)(H':Hp),(∀b o,H b=some o->b∉X->(∀φ,o≠.ext φ)->H' b=some o)->H' d=some (.xd (wfF q (.int i) (.int k)))->H' q=some (.lst [])->E (C,fr) (some d) H'
def Hw(C:Addr)(E:XK)(H:Hp)(i k:Nat):Prop:=∀(fr:Bool)(d q:Addr)(H':Hp),aX H H'->H' d=some (.xd (wfF q (.int i) (.int k)))->H' q=some (.lst [])->E (C,fr) (some d) H'
inductive qS{S:Type}(K:Frag)(Rd:Hp->List Addr->Addr->S->Prop)(step:S->Bytes->Except Nat S)(fin:S->Bytes->Option Nat)(CF:Addr)(vs:List V)(H:Hp)(Q:VK)(E:XK):Prop
 |mk (l r:Addr) (X:List Addr) (s0:S) (t:Bytes):vs=[.ref l,.ref r]->SqL K H l (iB t)->t.length<=6000->Rd H X r s0->(∀x∈X,H x≠none)->(match vG step fin s0 (fl 10 t)with
 |.error e=>zc9 CF E H X e.1 e.2
 |.ok s=>∀(H':Hp)(X':List Addr),(∀b o,H b=some o->b∉X->H' b=some o)->Rd H' X' r s->(∀x∈X',x∈X\/H x=none)->Q .non H')->qS K Rd step fin CF vs H Q E
theorem VV{X:Cx}{K:Frag}(hK:X.K=K):QK X (.builtin "len") (λxs H Q=>∃p ys,xs=[V.ref p]/\(SqL K H p ys\/S9 K H p ys)/\Q (V.int ys.length) H):=by
 subst hK;exact DN
theorem Iw{X:Cx}{K:Frag}(hK:X.K=K):IxR X (zck K):=by
 grind [Z6]
theorem Em{X:Cx}{K:Frag}{f:Str}(hK:X.K=K) (he:PE X e ta) (hb:attributeBase e f X.env (eval e X.env)=eval e X.env):PE X (.Attribute e f pos) (yH K ta f):=by
 subst hK;exact Q2 he hb
theorem Rows.init:∀{A1:List Addr}{B1:List Bytes}{a1:Addr}{b1:Bytes},A1.length=B1.length->Rows H (A1++[a1]) (B1++[b1])->Rows H A1 B1
 |[],[],_,_,_,_=>.nil
 |[],_::_,_,_,h,_=>by simp at h
 |_::_,[],_,_,h,_=>by simp at h
 |_::_,_::_,_,_,h,.cons f t=>.cons f (Rows.init (by simpa using h) t)
theorem AM{S:Type}{Rd:Hp->List Addr->Addr->S->Prop}{step:S->Bytes->Except Nat S}{fin:S->Bytes->Option Nat}{ft fr:Addr}{dt dr:FuncData}{kt kr:Nat}(T:oA Kq g9 aq) (hC:Ao Kq C)
 (zaX:Bo Kq C "take" ft) (mZ:Bo Kq C "take_rest" fr) (zaY:yB Kq dt ["self","line"] []) (nZ:yB Kq dr ["self","rest"] [])
 (G1:xA Pq wq Kq g9 bq (kR Pq wq) true kt ft dt ["self","line"] (KO Rd step aq.j2)) (G2:xA Pq wq Kq g9 bq (kR Pq wq) true kr fr dr ["self","rest"] (LO Rd fin aq.j2)) (hkt:kt<=12) (hkr:kr<=12)
 (obj:∀H X r s,Rd H X r s->∃dx fs,H r=some (.ins C dx fs)/\fs.lookup ("take": Str)=none/\fs.lookup ("take_rest": Str)=none) (keep:∀H H' X r s,Rd H X r s->Same H H'->Rd H' X r s) :
   xA Pq wq Kq g9 bq (kR Pq wq) true 13 aq.VF aq.WF ["text","reader"] (qS Kq Rd step fin aq.U4):=by
  have zdy:xA Pq wq Kq g9 bq (kR Pq wq) true 12 ft dt ["self","line"] (KO Rd step aq.j2):=G1.mono hkt;have Df:xA Pq wq Kq g9 bq (kR Pq wq) true 12 fr dr ["self","rest"] (LO Rd fin aq.j2):=G2.mono hkr;refine T.h9.F.kk T.h9.S λH vs Q E h=>?_;obtain⟨l,r,X,s0,t,rfl,hS,hl,R0,hX,k⟩:=h;refine⟨rfl,λhr=>?_⟩;obtain⟨wt2,zdz⟩:∃wt2:WX,wt2=λσ c dx m=>∃(d:Addr)(i kk:Nat),c=(aq.j2,true)/\dx=some d/\m d=some (.xd [("kind",.int kk)])/\σ.length=6/\σ[3]?=some (some (.int i))/\vG step fin s0 (fl 10 t)=.error (i,kk)/\(∀b o,H b=some o->b∉X->(∀φ,o≠.ext φ)->m b=some o):=⟨_,rfl⟩
  obtain⟨wt1,oZ⟩:∃wt1:WX,wt1=λσ c dx m=>∃(d p:Addr)(xs:List V)(kk:Nat),c=(aq.j2,true)/\dx=some d/\m d=some (.xd [("kind",.int kk)])/\σ.length=6/\σ[2]?=some (some (.ref p))/\m p=some (.lst xs)/\vG step fin s0 (fl 10 t)=.error (xs.length-1,kk)/\1<=xs.length/\(∀b o,H b=some o->b∉X->(∀φ,o≠.ext φ)->m b=some o):=⟨_,rfl⟩
  refine⟨_,(T0 (RC 2 T.h9.S (JC T.iD (VQ T) hr (F0 (pv 0) (F0 (qG T.Zc) Z0))))
   (T0 (E8 O1.po rfl (HN rfl T.wD (F0 (zN PX (pv 2) eS (fS (bK jG A2))) Z0)) (IM rfl (aA (SE 3 T.h9.S) (aA (SE 4 T.h9.S) gJ))) (X0 (Pg (Wt:=wt2) rfl rfl (λpn xe tk2=>(X0 (L6 (BD (pv 1) hC zaX zdy hr.mo zaY .nil tk2.passes (F0 (pv 4) Z0))))) (Vt (i:=5) O1 rfl rfl T.h9.S.nd rfl rfl rfl T.o9.m (λea pn xe zfY=>(X0 (bT (K:=Kq) rfl zfY rfl (LN (T.n9.k0 T.C6) (uE T) (hr.mark).mo rfl T.n9.m T.C6.b zfY (F0 (pv 3) (F0 (MN (K:=Kq) rfl (pv 5) rfl) Z0))) (pv 5)))) (Og O1)))))
   (X0 (Pg (Wt:=wt1) rfl rfl (λpn xe tk1=>(X0 (L6 (BD (pv 1) hC mZ Df hr.mo nZ .nil tk1.passes (F0 (O7 (Iw (K:=Kq) rfl) (pv 2) (bK jG A2) (λ_ _=>rfl)) Z0))))) (Vt (i:=5) O1 rfl rfl T.h9.S.nd rfl rfl rfl T.o9.m (λea pn xe zaZ=>(X0 (bT (K:=Kq) rfl zaZ rfl (LN (T.n9.k0 T.C6) (uE T) (hr.mark).mo rfl T.n9.m T.C6.b zaZ (F0 (W4 vC (FA (VV (K:=Kq) rfl) rfl T.UA Nh (F0 (pv 2) Z0)) A2) (F0 (MN (K:=Kq) rfl (pv 5) rfl) Z0))) (pv 5)))) (Og O1)))))),?_⟩
  refine⟨_,rfl,l,t,10,rfl,hS,(by lia),λH1 p as s1 np fr hp rows=>?_⟩;have zfZ:=cT 10 t;rw[<-zfZ]at rows;unfold parts at rows;have tln:=Yv 10 t;generalize hz:fl 10 t=z at *;obtain⟨vE,N7⟩:=z;dsimp only at rows k oZ zdz tln;obtain⟨ri,x,li,y,eas,eli,hx⟩:=Paired.last rows (by simp);obtain⟨e1,e2⟩:=List.append_inj' eli rfl;obtain rfl:N7=y:=by simpa using e2
  subst e1 eas;have zbQ:Rows H1 ri vE:=Rows.init (by have q:=K1 rows;simpa using q) rows;have lri:ri.length=vE.length:=K1 zbQ;have R1:=keep _ _ _ _ _ R0 s1;have hX1:∀b,H b=none->b∉X:=λb e m=>hX b m e;refine⟨_,rfl,_,rfl,_,rfl,p,_,rfl,SqL.of hp,λsl nsl=>?_⟩;rw[V0,C3,fC,Aw];have s2:Same H1 (upd H1 sl (.lst (ri.map V.ref))):=(Same.refl _).new nsl;have hsl:upd H1 sl (.lst (ri.map V.ref)) sl=some (.lst (ri.map V.ref)):=C0;have ziw:sl∉X:=hX1 sl (s1.free nsl);generalize upd H1 sl (.lst (ri.map V.ref))=H2 at s2 hsl;have R2:=keep _ _ _ _ _ R1 s2;have npX:p∉X:=hX1 p np;have Wx:∀{H':Hp},(∀b o,H2 b=some o->b∉X->H' b=some o)->∀b o,H b=some o->b∉X->H' b=some o:=λf b o e n=>f b o (s2 b o (s1 b o e)) n;have zf0:∀q∈ri++[x],q∉X:=λq hq=>hX1 q (fr q hq);have zf1:∀{H6:Hp}{ea d Tb:Addr}{i kk:Nat},H6 ea=some (xO aq.j2 true (some d) (.ref Tb) ea)->(∀b o,H b=some o->b∉X->(∀φ,o≠.ext φ)->ZC H6 b=some o)->vG step fin s0 (vE,N7)=.error (i,kk)->
    ∀xn,H6 xn=none->∀(d' q':Addr)(H7:Hp),upd H6 xn (xO aq.U4 true none .none xn) d'=none->upd H6 xn (xO aq.U4 true none .none xn) q'=none->d'≠xn->H7 d'=some (.xd (wfF q' (.int i) (.int kk)))->H7 q'=some (.lst [])->
     (∀b,b≠xn->b≠d'->b≠q'->H7 b=upd H6 xn (xO aq.U4 true none .none xn) b)->E (aq.U4,false) (some d') (ZC H7)/\H7 ea=H6 ea/\ea≠xn:=by
   intro H6 ea d Tb i kk l1 sm er xn hxn d' q' H7 nd nq dxn e2 e3 kp;rw[er]at k;have q1:ea≠xn:=C1 l1 hxn;have off:∀{c:Addr}{o:HO},H6 c=some o->c≠d'/\c≠q':=λ{c}{o} e=>by
    have cx:c≠xn:=C1 e hxn;constructor
    .intro z;rw[<-z,M0 cx,e]at nd;cases nd
    .intro z;rw[<-z,M0 cx,e]at nq;cases nq
   refine⟨k false d' q' _ (λb o e n m=>?_) (LD e2 λφ q=>nomatch q) (LD e3 λφ q=>nomatch q),?_,q1⟩
   .have e6:=aG (sm b o e n m);have q1:b≠xn:=C1 e6 hxn;refine LD ?_ m;rw[kp b q1 (off e6).1 (off e6).2,M0 q1];exact e6
   .rw[kp ea q1 (off l1).1 (off l1).2,M0 q1]
  refine⟨sl,_,rfl,SqL.of hsl,IL (K:=Kq) (a:=sl) (xs:=ri.map V.ref) (λi σ H'=>E5 λ(v3 v4 v5:Option V)(X':List Addr)(s:S)=>A5 (σ=[some (.ref l),some (.ref r),some (.ref p),v3,v4,v5]) (Rd H' X' r s) (∀x∈X',x∈X\/H2 x=none) (∀b o,H2 b=some o->b∉X->H' b=some o) (mR step (vE.drop i) i s=mR step vE 0 s0))
   ⟨none,none,none,X,s0,rfl,R2,λx hx=>.inl hx,λb o e _=>e,rfl⟩
   (by rintro i σ H' _ ⟨_,_,_,_,_,_,_,_,f,_⟩;exact SqL.of (f _ _ hsl ziw)) ?_ ?_⟩
  .rintro i y σ H' tp hi ⟨v3,v4,v5,X',s,rfl,R3,hX',f,run⟩ ntp;obtain⟨q,hq,rfl⟩:=b9 hi;obtain⟨line,GM,hql⟩:=Paired.get zbQ hq;have lll:line.length<=10000:=by
    have m:=(fX 10 t).2 line (by rw[<-zfZ];exact n6 _ (N1 GM))
    lia
   have il:i<vE.length:=(N0.mp GM).1;have ed:vE.drop i=line::vE.drop (i+1):=by
    rw[O6 il];congr 1;rw[O0 il]at GM;exact J0 GM
   rw[ed,mR]at run;refine⟨tp,_,rfl,.inl (.inl C0),rfl,_,_,rfl,_,_,rfl,rfl,?_⟩;have zf3:Same H' (upd H' tp (.tup [.int i,.ref q])):=(Same.refl _).new ntp;have R5:=keep _ _ _ _ _ R3 zf3;have f5:∀b o,H2 b=some o->b∉X->upd H' tp (.tup [.int i,.ref q]) b=some o:=λb o e n=>zf3 _ _ (f b o e n);have qX:q∉X:=zf0 q (n6 _ (N1 hq));have Jy:=s2 _ _ hql;have Jr:=f5 _ _ Jy qX;have qX':q∉X':=λm=>(hX' q m).elim qX λe=>by
    rw[Jy]at e;cases e
   have fresh:∀z,upd H' tp (.tup [.int i,.ref q]) z=none->z∈X\/H2 z=none:=λz e=>by
    by_cases m:z∈X
    .exact .inl m
    .refine .inr ?_;cases e2:H2 z with
     |none=>rfl
     |some o=>
      rw[f5 z o e2 m]at e;cases e
   obtain⟨dx,fs,ob,lk,_⟩:=obj _ _ _ _ R5;refine⟨⟨_,rfl,r,dx,fs,rfl,ob,lk,_,rfl,r,q,X',s,line,rfl,R5,Jr,qX',lll,?_⟩,?_⟩
   .cases ht:step s line with
    |error e=>
     rw[ht]at run;intro d H6 sm ek;rw[zdz];refine⟨d,i,e,rfl,rfl,ek,rfl,rfl,?_,λb o e n m=>sm b o (Wx f5 b o e n) m⟩;unfold vG;rw[<-run]
    |ok s'=>
     rw[ht]at run;intro H6 X6 f6 R6 hX6;exact⟨_,_,_,X6,s',rfl,R6,λz hz=>(hX6 z hz).elim (hX' z) (fresh z),λb o e n=>f6 b o (f5 b o e n) λm=>(hX' b m).elim n (λz=>by rw[e]at z;cases z),run⟩
   .intro ea C' fr' Er σ' H6 live wt;rw[zdz]at wt;obtain⟨d,i',kk,ec,rfl,ed',ls,Zr,zdC,sm⟩:=wt;obtain⟨rfl,rfl⟩:=KB ec;have ed2:=aG ed';obtain⟨Tb,hT,l1,l2⟩:=live;refine⟨true,T.tE,?_⟩;have g3:(σ'.set 5 (some (.ref ea)))[3]?=some (some (.int i')):=by
     rw[S8 (by decide)];exact Zr
    have g5:(σ'.set 5 (some (.ref ea)))[5]?=some (some (.ref ea)):=K6 (by lia);refine⟨_,g3,_,g5,ea,_,true,d,.ref Tb,_,_,rfl,l1,ed2,T.o9.D,T.OE,rfl,(by show 2<=1000;decide),λxn hxn=>?_⟩;refine⟨xn,_,_,true,.none,rfl,C0,λd' q' H7 nd nq dxn e1 e2 e3 kp=>?_⟩;obtain⟨w1,w2,w3⟩:=zf1 l1 sm zdC xn hxn d' q' H7 nd nq dxn e2 e3 kp;exact⟨rfl,_,g5,xn,_,some d',aq.j2,some d,.ref Tb,rfl,rfl,K2 w3,e1,w2.trans l1,T.n9.E,T.o9.E,w1⟩
  .rintro σ H' ⟨v3,v4,v5,X',s,rfl,R3,hX',f,run⟩;rw[B0,lri,iC,mR]at run;have rd:vG step fin s0 (vE,N7)=match fin s N7 with
     |some k=>.error (vE.length,k)
     |none=>.ok s:=by
    unfold vG;rw[<-run]<;>rfl
   have hp':=f _ _ (s2 _ _ hp) npX;have Bs:=f _ _ (s2 _ _ hx) (zf0 x (by simp));have rll:N7.length<=10000:=by
    lia
   obtain⟨dx,fs,ob,_,lk⟩:=obj _ _ _ _ R3;refine⟨⟨_,rfl,r,dx,fs,rfl,ob,lk,_,rfl,_,rfl,p,_,_,.ref x,rfl,rfl,SqL.of hp',(by rw[V0];exact BN _ _),r,x,X',s,N7,rfl,R3,Bs,rll,?_⟩,?_⟩
   .cases ht:fin s N7 with
    |some e=>
     rw[ht]at rd;intro d H6 sm ek;rw[oZ];refine⟨d,p,_,e,rfl,rfl,ek,rfl,rfl,sm _ _ hp' (λφ q=>nomatch q),?_,by simp,λb o e n m=>sm b o (Wx f b o e n) m⟩;rw[rd,B0,Y1,lri];rfl
    |none=>
     rw[ht]at rd;rw[rd]at k;intro H6 s6;refine k H6 X' (λb o e n=>s6 b o (Wx f b o e n)) (keep _ _ _ _ _ R3 s6) λz hz=>(hX' z hz).imp_right λe=>s1.free (s2.free e)
   .intro ea C' fr' Er σ' H6 live wt;rw[oZ]at wt;obtain⟨d,p',xs,kk,ec,rfl,ed',ls,s2',hp6,zdC,x1,sm⟩:=wt;obtain⟨rfl,rfl⟩:=KB ec;have ed2:=aG ed';have hp7:=aG hp6;obtain⟨Tb,hT,l1,l2⟩:=live;refine⟨true,T.tE,?_⟩;have g2:(σ'.set 5 (some (.ref ea)))[2]?=some (some (.ref p')):=by
     rw[S8 (by decide)];exact s2'
    have g5:(σ'.set 5 (some (.ref ea)))[5]?=some (some (.ref ea)):=K6 (by lia);refine⟨_,g2,p',xs,rfl,.inl (SqL.of hp7),_,_,rfl,rfl,_,g5,ea,_,true,d,.ref Tb,_,_,rfl,l1,ed2,T.o9.D,T.OE,rfl,(by show 2<=1000;decide),λxn hxn=>?_⟩;have ex:V.int ((xs.length-1:Nat):Int)=(λi j=>V.int (i-j)) (xs.length:Int) 1:=P7 V.int (show((xs.length-1:Nat):Int)=(xs.length:Int)-1 by lia);refine⟨xn,.int ((xs.length-1:Nat):Int),_,true,.none,(by rw[ex]),C0,λd' q' H7 nd nq dxn e1 e2 e3 kp=>?_⟩;obtain⟨w1,w2,w3⟩:=zf1 l1 sm zdC xn hxn d' q' H7 nd nq dxn e2 e3 kp;exact⟨rfl,_,g5,xn,_,some d',aq.j2,some d,.ref Tb,rfl,rfl,K2 w3,e1,w2.trans l1,T.n9.E,T.o9.E,w1⟩
inductive Jw(K:Frag)(CW CO CF:Addr)(vs:List V)(H:Hp)(Q:VK)(E:XK):Prop
 |mk (l:Addr) (t:Bytes):vs=[.ref l]->SqL K H l (iB t)->t.length<=6000->(match MF (fl 10 t)with
 |.error e=>Hw CF E H e.1 e.2
 |.ok x=>∀(H':Hp)(p:Addr),Same H H'->Xi CW CO H' p x.1 x.2->Q (.ref p) H')->Jw K CW CO CF vs H Q E
theorem WR.obj{CR:Addr}(H:Hp) (X:List Addr) (r:Addr) (s:WS) (h:WR CR CO H X r s):∃dx fs,H r=some (.ins CR dx fs)/\fs.lookup ("take": Str)=none/\fs.lookup ("take_rest": Str)=none:=by
 obtain⟨dx,pl,ph,po,RL,as,cS,rfl,U⟩:=h;exact⟨dx,_,U.ob,rfl,rfl⟩
theorem WR.keep{CR:Addr}(H H':Hp) (X:List Addr) (r:Addr) (s:WS) (h:WR CR CO H X r s) (k:Same H H'):WR CR CO H' X r s:=by
 obtain⟨dx,pl,ph,po,RL,as,cS,rfl,U⟩:=h;exact⟨dx,pl,ph,po,RL,as,cS,rfl,U.keep k⟩
theorem TY(T:oA Kq g9 aq):Fo Pq wq bq true T.iF 14 (Jw Kq aq.cB aq.T3 aq.U4):=by
 have TJ:xA Pq wq Kq g9 bq (kR Pq wq) true 13 aq.VF aq.WF ["text","reader"] (qS Kq (WR aq.d5 aq.T3) wQ Ju aq.U4):=
  AM T T.N4.c T.a9.M T.a8.M T.a9.b T.a8.b (jN T) (XI T) (by decide) (by decide) WR.obj WR.keep
 refine T.iF.F.kk T.iF.S λH vs Q E h=>?_;obtain⟨l,t,rfl,hS,hl,k⟩:=h;refine⟨rfl,λhr=>?_⟩;refine⟨_,(T0 (RC 1 T.iF.S (BZ (T.N4.k0 T.C8) (SJ T) hr.mo rfl T.N4.m T.C8.b .nil O1.passes))
  (T0 (L6 (JC T.h9 TJ hr (F0 (pv 0) (F0 (pv 1) Z0))))
  (X0 (S3 (VL (T.pA.k0 T.oB) (lQ T) hr.mo rfl T.pA.m T.oB.b .nil O1.passes (F0 (Q2 (pv 1) rfl) (F0 (Q2 (pv 1) rfl) Z0))))))),?_⟩
 refine λr dx nr Vx ndr=>⟨r,dx,rfl,C0,λH1 X f1 W0 fr=>⟨rfl,?_⟩⟩
 have s1:Same H H1:=λb o e=>f1 b o (by rw[M0 (C1 e nr),M0 (C1 e Vx)];exact e) (C1 e nr);have nX:∀x∈X,H x=none:=λx hx=>by
  have e:=fr x hx;by_cases q:x=r
  .grind
  .rw[M0 q]at e;by_cases q2:x=dx
   .grind
   .rw[M0 q2]at e;exact e
 have Xx:∀{b:Addr}{o:HO},H b=some o->b∉X:=λe m=>by
  grind
 refine⟨_,rfl,_,rfl,l,r,X,_,t,rfl,s1.seq hS,hl,W0,W0.has,?_⟩;rw[Wz];cases hb:MF (fl 10 t)with
 |error e=>
  rw[hb]at k;exact λfr d q H' m e1 e2=>k fr d q H' (λb o e n=>m b o (s1 b o e) (Xx e) n) e1 e2
 |ok x=>
  rw[hb]at k;intro H2 X2 f2 W2 hX2;have s2:Same H H2:=λb o e=>f2 b o (s1 b o e) (Xx e);obtain⟨Mj,pl,ph,po,RL,as,cS,rfl,U⟩:=W2;have e6:x.1.length=6:=by
   have z:x.1.length<=6:=U.h6;unfold MF at hb;cases hr:yI (fl 10 t).1 0 [] []with
   |error k=>grind
   |ok y=>
    rw[hr]at hb;dsimp only at hb;by_cases q:y.1.length<6\/(fl 10 t).2≠[]
    .grind
    .rw[D0 q]at hb;obtain rfl:=b3 hb
     lia
  have ziz:RL.length=x.1.length:=K1 U.hv;obtain⟨v0,v1,v2,v3,v4,v5,rfl⟩:∃v0 v1 v2 v3 v4 v5,RL=[v0,v1,v2,v3,v4,v5]:=by
   match RL,ziz.trans e6 with
   |[v0,v1,v2,v3,v4,v5],_=>grind
  refine⟨_,rfl,r,_,Mj,_,_,rfl,U.ob,T.N4.c,T.b8,rfl,_,rfl,r,_,Mj,_,_,rfl,U.ob,T.N4.c,T.P9,rfl,λxw dw nx ndw dxx=>⟨xw,dw,ph,po,v0,v1,v2,v3,v4,v5,rfl,C0,?_,λH7 e7 kp=>⟨rfl,?_⟩⟩⟩
  .rw[M0 (C1 U.hd nx),M0 (C1 U.hd ndw)];exact U.hd
  have s7:Same H2 H7:=λb o e=>by
   have q1:b≠xw:=C1 e nx;have q2:b≠dw:=C1 e ndw;rw[kp b q1,M0 q1,M0 q2];exact e
  have U7:=U.keep s7;exact k H7 xw (s2.trans s7) ⟨dw,po,v0,v1,v2,v3,v4,v5,as,e7,U7.hv,U7.op,U7.os⟩
structure oX(K:Frag)(CR C:Addr):Prop where
 x:exmOne K (.ref C) (.ref CR)=some true
 D:eY K C
 nn:D3 K C "number"
 nt:D3 K C "told"
def WQ(K:Frag)(CR:Addr)(N:Nat)(due:List Int):WX:=λσ c dx m=>σ.length=N/\∃(d q:Addr)(F:List (Str×V))(n:Int)(ns:List Int),dx=some d/\oX K CR c.1/\m d=some (.xd F)/\F.lookup ("number": Str)=some (.int n)/\F.lookup ("told": Str)=some (.ref q)/\m q=some (.lst (ns.map V.int))/\ns.length<=1000/\due=n::(ns.length:Int)::(ns++[0])
theorem WQ.none{K:Frag}{CR:Addr}{N:Nat}{m:Hp}{n:Int}(hσ:σ.length=N) (ro:oX K CR C) (e:m d=some (.xd (rfF n q))) (e2:m q=some (.lst [])) (h:due=[n,0,0]):WQ K CR N due σ (C,fr) (some d) m:=
 ⟨hσ,d,q,_,n,[],rfl,ro,e,rfl,rfl,e2,by decide,h⟩
theorem WQ.text{K:Frag}{CR:Addr}{N:Nat}{m:Hp}{i k:V}(hσ:σ.length=N) (ro:oX K CR C) (e:m d=some (.xd (wfF q i k))) (e2:m q=some (.lst [])) (h:due=[-6,0,0]):WQ K CR N due σ (C,fr) (some d) m:=
 ⟨hσ,d,q,_,-6,[],rfl,ro,e,rfl,rfl,e2,by decide,h⟩
def long(b:Bytes):Bool:=decide (4096<b.length)
inductive Td(K:Frag)(CT:Addr)(vs:List V)(H:Hp)(Q:VK)(E:XK):Prop
 |mk (l:Addr) (as:List Addr) (bs:List Bytes):vs=[.ref l]->H l=some (.lst (as.map V.ref))->Paired (λx b=>SqL K H x (iB b)) as bs->(if bs.any long=true then Wv CT (-1) E H else Q .non H)->Td K CT vs H Q E
theorem NU(T:oA Kq g9 aq):Fo Pq wq bq true T.KC 4 (Td Kq aq.lC):=by
 refine T.KC.F.kk T.KC.S λH vs Q E h=>?_;obtain⟨l,as,bs,rfl,hl,pr,k⟩:=h;refine⟨rfl,λhr=>?_⟩;refine⟨_,(X0 (E8 O1.po rfl (L7 (pv 0)) (SE 1 T.KC.S) (X0 (Q6 (V3 sQ (oS T.UA (pv 1)) (qG T.MY) (U3 _)) (X0 (SS O1 rfl (Xo (T.MI.k0 T.K9) (pM T) hr.mo rfl T.MI.m T.K9.b O1))) T4)))),?_⟩;have lab:as.length=bs.length:=K1 pr;refine⟨_,rfl,l,rfl,⟨_,SqL.of hl⟩,DA (K:=Kq) (a:=l) (xs:=as.map V.ref) (λi σ H'=>∃(v:Option V),A3 (σ=[some (.ref l),v]) (H'=H) ((bs.take i).any long=false))
  ⟨none,rfl,rfl,rfl⟩ (by rintro i σ H' _ ⟨_,_,e,_⟩;exact by rw[e];exact SqL.of hl) ?_ ?_⟩
 .rintro i y σ H' hi ⟨v,rfl,rfl,no⟩;obtain⟨q,hq,rfl⟩:=b9 hi;obtain⟨b,hb,sq⟩:=Paired.get pr hq;refine⟨_,rfl,q,_,rfl,.inl sq,_,_,rfl,rfl,_,rfl,?_⟩;rw[aE];by_cases z:4096<b.length
  .rw[F1 (show(4096:Int)<(b.length:Int) by lia)];rw[K0 (zE.mpr ⟨b,N1 hb,F1 z⟩)]at k;exact b7 (Ui T.MI.E k)
  .rw[Y0 (show ¬(4096:Int)<(b.length:Int) by lia)];refine S7 ⟨_,rfl,rfl,?_⟩;rw[Q3 hb,List.any_append,no];show(decide (4096<b.length)||false)=false;rw[Y0 z];rfl
 .rintro σ H' ⟨v,rfl,rfl,no⟩;rw[B0,lab,V1]at no;rw[D0 (by rw[no];decide)]at k;exact k
theorem OU{i k:Int}(ha:Z4 ta σ H (.int i)) (hb:Z4 tb σ H (.int j)) (hc:Z4 tc σ H (.int k)) :
  Z4 (fP (eV λi j=>.bl (decide (i<=j))) (eV λi j=>.bl (decide (i<j))) ta tb tc) σ H (.bl (decide (i<=j)&&decide (j<k))):=λR h=>by
 refine ha _ (hb _ ⟨_,_,rfl,rfl,_,rfl,?_⟩);by_cases q:i<=j
 .rw[F1 q]at h ⊢;exact b7 (hc _ ⟨_,_,rfl,rfl,by simpa using h⟩)
 .rw[Y0 q]at h ⊢;exact S7 (by simpa using h)
def Uq(h:List HV):Prop:=∀(n:Nat)(x:HV),h[n]?=some x->∃line,KF n line=.ok x
theorem Vq{o o':List Opening}(g:Uq h) (e:oH h o line=.ok (h',o')):Uq h':=by
 unfold oH at e;by_cases q:h.length<6
 .rw[K0 q]at e;cases hb:KF h.length line with
  |error k=>grind
  |ok v=>
   rw[hb]at e;obtain⟨rfl,rfl⟩:=KB (b3 e);intro n x hx;by_cases hn:n<h.length
   .rw[j8 hn]at hx;exact g n x hx
   .have z:=(N0.mp hx).1;simp at z;obtain rfl:n=h.length:=by lia
    rw[Q7 (j1 _),TN]at hx;obtain rfl:v=x:=J0 hx;exact⟨line,hb⟩
 .rw[D0 q]at e;cases hb:vM line (HC h 1) (HC h 2) o with
  |error k=>grind
  |ok v=>
   grind
theorem Ud:∀{vE:List Bytes}{i:Nat}{h:List HV}{o:List Opening}{x:List HV×List Opening},yI vE i h o=.ok x->Uq h->Uq x.1
 |[],i,h,o,x,e,g=>by
  obtain rfl:=b3 e;exact g
 |l::r,i,h,o,x,e,g=>by
  rw[yI]at e;cases ht:oH h o l with
  |error k=>grind
  |ok z=>
   rw[ht]at e;exact Ud (x:=x) e (Vq (h':=z.1) (o':=z.2) g ht)
theorem Wq{z:List Bytes×Bytes}{x:List HV×List Opening}(e:MF z=.ok x):Uq x.1:=by
 unfold MF at e;cases hr:yI z.1 0 [] []with
 |error k=>grind
 |ok y=>
  rw[hr]at e;dsimp only at e;by_cases q:y.1.length<6\/z.2≠[]
  .grind
  .rw[D0 q]at e;obtain rfl:=b3 e;exact Ud hr λn x h=>by simp at h
theorem ML{x:HV}(h0:n≠0) (e:KF n line=.ok x):∃m,x=.num m/\(n=1->m<=32)/\(n=2->m<=8):=by
 unfold KF at e;generalize B4 (ascii (fY n)) line=r at e
 match r,e with
 |none,e=>cases e
 |some [],e=>cases e
 |some (_::_::_),e=>cases e
 |some [z],e=>
  dsimp only at e;unfold sF at e;rw[D0 h0]at e;have sz:∀{most b:Nat},qE z most=.ok b->b<=most:=λ{most b} q=>by
   unfold qE at q;cases hn:readNumber z with
   |none=>grind
   |some k=>
    rw[hn]at q;dsimp only at q;by_cases w:k<1\/most<k
    .grind
    .rw[D0 w]at q;grind
  by_cases h1:n=1
  .rw[K0 h1]at e;cases q:qE z 32 with
   |error k=>rw[q]at e;cases e
   |ok b=>rw[q]at e;exact⟨b,(b3 e).symm,λ_=>sz q,λw=>by lia⟩
  .rw[D0 h1]at e;by_cases h2:n=2
   .rw[K0 h2]at e;cases q:qE z 8 with
    |error k=>rw[q]at e;cases e
    |ok b=>rw[q]at e;exact⟨b,(b3 e).symm,λw=>by lia,λ_=>sz q⟩
   .rw[D0 h2]at e;cases q:gL z with
    |none=>grind
    |some b=>rw[q]at e;exact⟨b,(b3 e).symm,λw=>by lia,λw=>by lia⟩
structure MG(CW CO:Addr)(H:Hp)(p:Addr)(dx op:Addr)(v0:V)(as:List Addr)(w:Wall):Prop where
 at_:H p=some (.ins CW dx (wlF v0 (.int w.long) (.int w.high) (.int w.left) (.int w.right) (.int w.reveal) (.ref op)))
 op:H op=some (.lst (as.map V.ref))
 os:Ur CO H as w.opens
 l32:w.long<=32
 h8:w.high<=8
 o8:w.opens.length<=1000
theorem MG.same{op:Addr}{v0:V}(s:Same H H') (W:MG CW CO H p dx op v0 as w):MG CW CO H' p dx op v0 as w:=⟨s _ _ W.at_,s _ _ W.op,Ur.same s W.os,W.l32,W.h8,W.o8⟩
theorem Xi.is(W:Xi CW CO H p h os)(g:Uq h)(o8:os.length<=1000):∃dx op v0 as,MG CW CO H p dx op v0 as (NF h os):=by
 obtain⟨dx,op,v0,v1,v2,v3,v4,v5,as,e,hv,ho,hos⟩:=W;cases hv with
 |cons a0 t0=>cases t0 with
  |cons a1 t1=>cases t1 with
   |cons a2 t2=>cases t2 with
    |cons a3 t3=>cases t3 with
     |cons a4 t4=>cases t4 with
      |cons a5 t5=>
       obtain⟨l1,e1⟩:=g 1 _ rfl;obtain⟨m1,rfl,b1,_⟩:=ML (by decide) e1;obtain⟨l2,e2⟩:=g 2 _ rfl;obtain⟨m2,rfl,_,b2⟩:=ML (by decide) e2;obtain⟨l3,e3⟩:=g 3 _ rfl;obtain⟨m3,rfl,_,_⟩:=ML (by decide) e3;obtain⟨l4,e4⟩:=g 4 _ rfl;obtain⟨m4,rfl,_,_⟩:=ML (by decide) e4;obtain⟨l5,e5⟩:=g 5 _ rfl;obtain⟨m5,rfl,_,_⟩:=ML (by decide) e5;obtain rfl:v1=.int m1:=a1;obtain rfl:v2=.int m2:=a2;obtain rfl:v3=.int m3:=a3;obtain rfl:v4=.int m4:=a4;obtain rfl:v5=.int m5:=a5;exact⟨dx,op,v0,as,e,ho,hos,b1 rfl,b2 rfl,o8⟩
inductive Vd(C:Addr)(vs:List V)(H:Hp)(Q:VK)(E':XK):Prop
 |mk (p:Addr) (o:Opening) (x y:Nat):vs=[.ref p,.int x,.int y]->FO C H p o->Q (.bl (o.has x y)) H->Vd C vs H Q E'
inductive Wd(CW CO:Addr)(vs:List V)(H:Hp)(Q:VK)(E':XK):Prop
 |mk (p dx op:Addr) (v0:V) (as:List Addr) (w:Wall) (x y:Nat):vs=[.ref p,.int x,.int y]->MG CW CO H p dx op v0 as w->(∀H':Hp,Same H H'->Q (.bl (w.isOpen x y)) H')->Wd CW CO vs H Q E'
inductive XQ(CW CO:Addr)(vs:List V)(H:Hp)(Q:VK)(E':XK):Prop
 |mk (p dx op:Addr) (v0:V) (as:List Addr) (w:Wall) (y:Nat):vs=[.ref p,.int y]->MG CW CO H p dx op v0 as w->(∀(H':Hp)(q:Addr)(ts:List Addr),Same H H'->H q=none->H' q=some (.lst (ts.map V.ref))->LB H' ts ((w.stretches y).map pI)->Q (.ref q) H')->XQ CW CO vs H Q E'
theorem LB.same{l:List (List Int)}(s:Same H H') (r:LB H as l):LB H' as l:=Paired.mapP r λ_ _ h=>s _ _ h
theorem LB.upd{H:Hp}{z:Addr}{xs ys:List V}{as:List Addr}{l:List (List Int)}(r:LB H as l) (h:H z=some (.lst xs)):LB (upd H z (.lst ys)) as l:=Paired.mapP r λa ms e=>by
 rw[M0 (XE e h (by intro q;cases q))];exact e
theorem MO(T:oA Kq g9 aq):Mo g9 Pq wq bq true T.MA 1 (Vd aq.T3):=by
 refine T.MA.F.kk T.MA.S λH vs Q E h=>?_;obtain⟨p,o,x,y,rfl,⟨dx,hp⟩,k⟩:=h;refine⟨rfl,λhr=>?_⟩;refine⟨_,(X0 (S3 (dP (aI DC Wj (Q2 (pv 0) rfl) (pv 1) (W4 uC (Q2 (pv 0) rfl) (Q2 (pv 0) rfl))) (NK (aI DC Wj (Q2 (pv 0) rfl) (pv 2) (W4 uC (Q2 (pv 0) rfl) (Q2 (pv 0) rfl))))))),?_⟩;have fld:∀(σ:L2.St) ,σ=[some (.ref p),some (.int x),some (.int y)]->Z4 (yH Kq (OF 0) "x") σ H (.int o.x)/\Z4 (yH Kq (OF 0) "y") σ H (.int o.y)/\Z4 (yH Kq (OF 0) "wide") σ H (.int o.w)/\Z4 (yH Kq (OF 0) "high") σ H (.int o.h):=by
  rintro σ rfl;exact⟨xB rfl hp T.i4.c T.VB rfl,xB rfl hp T.i4.c T.WB rfl,xB rfl hp T.i4.c T.UB rfl,xB rfl hp T.i4.c T.TB rfl⟩
 obtain⟨f1,f2,f3,f4⟩:=fld [some (.ref p),some (.int x),some (.int y)] rfl;refine GO (OU f1 (jQ rfl) (QJ f1 f3)) (OU f2 (jQ rfl) (QJ f2 f4)) _ ?_;have e:((decide ((o.x:Int)<=(x:Int))&&decide ((x:Int)<(o.x:Int)+(o.w:Int)))&&(decide ((o.y:Int)<=(y:Int))&&decide ((y:Int)<(o.y:Int)+(o.h:Int))))=o.has x y:=by
  unfold Opening.has;rw[Z2];simp only[D1,P0]
  lia
 rw[e];exact k
theorem lK(T:oA Kq g9 aq):Mo g9 Pq wq bq true T.Z7 2 (Wd aq.cB aq.T3):=by
 refine T.Z7.F.kk T.Z7.S λH vs Q E h=>?_;obtain⟨p,dx,op,v0,as,wl,x,y,rfl,W,k⟩:=h;refine⟨rfl,λhr=>?_⟩;have zl:=gN;refine⟨_,(X0 (S3 (FA (Bt rfl) rfl T.zbm Kv (F0 (bD O1 rfl rfl (own:=[("opening",3)]) rfl T.Z7.S.nd (L7 (Q2 (pv 0) rfl)) (WW ["self","place","course","opening"] (Z3 zL) [("opening",3)]) (λtk=>(SE 3 T.Z7.S)) (λtk=>cA) (λtk=>(BD (pv 3) T.i4.c T.MA.M (MO T) hr.mo T.MA.b .nil tk.passes (F0 (pv 1) (F0 (pv 2) Z0))))) Z0)))),?_⟩;refine⟨_,rfl,p,_,dx,_,_,rfl,W.at_,T.pA.c,T.iK,rfl,op,rfl,⟨_,SqL.of W.op⟩,λD2 hD2=>?_⟩;have s6:∀ys,Same H (upd H D2 (.lst ys)):=λys=>(Same.refl _).new hD2;refine RF (K:=Kq) (a:=op) (xs:=as.map V.ref) (λi H'=>H'=upd H D2 (.lst ((wl.opens.take i).map λu=>V.bl (u.has x y)))) rfl (λi H' _ e=>by rw[e];exact SqL.of (s6 _ _ _ W.op)) ?_ ?_
 .rintro i v H' hi rfl;obtain⟨f,hfi,rfl⟩:=b9 hi;obtain⟨u,hu,df,hf⟩:=Paired.get W.os hfi;have hf':=s6 ((wl.opens.take i).map λu=>V.bl (u.has x y)) _ _ hf;refine⟨rfl,_,rfl,f,df,_,rfl,hf',rfl,_,rfl,_,rfl,f,u,x,y,rfl,⟨df,hf'⟩,?_⟩;have lo:=W.o8;refine⟨_,C0,(by rw[B0,Z1];lia),?_⟩;rw[V4,Q3 hu,V0];rfl
 .rintro H6 rfl;rw[B0,K1 W.os,V1];refine⟨D2,wl.opens.map λu=>u.has x y,rfl,SqL.of (by rw[C0,B3];rfl),?_⟩;rw[<-Zg];exact k _ (s6 _)
theorem TR(T:oA Kq g9 aq):Fo Pq wq bq true T.W8 3 (XQ aq.cB aq.T3):=by
 refine T.W8.F.kk T.W8.S λH vs Q E h=>?_;obtain⟨p,dx,op,v0,as,wl,y,rfl,W,k⟩:=h;refine⟨rfl,λhr=>?_⟩;have zl:=gN;have l32:=W.l32;refine⟨_,(T0 (RC 2 T.W8.S (d6 Z0))
  (T0 (RC 3 T.W8.S A2)
  (T0 (E8 O1.po rfl (ZH rfl T.wH (F0 (W4 uC (Q2 (pv 0) rfl) A2) Z0)) (SE 4 T.W8.S) (X0 (Q6 (PW.pt (vS (V3 qC (pv 4) (Q2 (pv 0) rfl) (U3 _)) (HM (VC (BD (pv 0) T.pA.c T.Z7.M (lK T) hr.mo T.Z7.b .nil O1.passes (F0 (pv 4) (F0 (pv 1) Z0))))))) (T0 (Q6 (V3 sQ (pv 4) (pv 3) (U3 _)) (X0 (L6 (mE P2 K3 L3 V9 (pv 2) (F0 (AD (F0 (pv 3) (F0 (W4 vC (pv 4) (pv 3)) Z0))) Z0)))) T4)
  (X0 (RC 3 T.W8.S (W4 uC (pv 4) A2)))) T4)))
  (X0 (S3 (pv 2)))))),?_⟩
 refine⟨E1 _,λq nq=>?_⟩;have s1:Same H (upd H q (.lst [])):=(Same.refl _).new nq;have oK:upd H q (.lst []) q=some (.lst []):=C0;generalize upd H q (.lst [])=H1 at s1 oK;have W1:=W.same s1;refine⟨_,rfl,p,_,dx,_,_,rfl,W1.at_,T.pA.c,T.VE,rfl,_,_,rfl,rfl,_,rfl,by lia,by lia,?_⟩;have en:((wl.long:Int)+1).toNat=wl.long+1:=by lia
 rw[en];refine UL (lo:=0) (n:=wl.long+1) (λi σ H'=>E4 λ(v:Option V)(f:Nat)(ts:List Addr)(acc:List (Nat×Nat))=>A7 (σ=[some (.ref p),some (.int y),some (.ref q),some (.int f),v]) (Same H H') (H' q=some (.lst (ts.map V.ref))) (LB H' ts (acc.map pI)) (f<=i) (acc.length<=i) (if i<=wl.long then acc++stretchesFrom wl y (wl.long-i) i (Nu f i)=wl.stretches y else acc=wl.stretches y))
  ⟨none,0,[],[],rfl,s1,oK,.nil,j1 _,j1 _,by rw[K0 (E1 _)];rfl⟩ ?_ ?_
 .rintro i σ H' hi ⟨v,f,ts,acc,rfl,s2,Jy,tt,fi,al,Ky⟩;rw[K0 (by lia)]at Ky;have W2:=W.same s2;have Ly:=K1 tt;rw[B0]at Ly;dsimp only[aH];have ei:(0:Int)+(i:Int)=(i:Int):=NO _;rw[ei];dsimp only[aK,iR,jV];refine LU (x:=decide (i=wl.long)) (y:=wl.isOpen i y) (λH5=>Same H' H5) (λR r=>?_) (λ_ H5 s5 R r=>?_) λH5 s5=>?_
  .refine⟨_,rfl,_,rfl,p,_,dx,_,_,rfl,W2.at_,T.pA.c,T.VE,rfl,rfl,_,rfl,?_⟩;have e:decide (V.int i=V.int wl.long)=decide (i=wl.long):=P3.mpr ⟨λz=>by have:=V.int.inj z;lia,λz=>by rw[z]⟩;rw[e];exact r _ (Same.refl _)
  .have W5:=W2.same s5;exact⟨_,rfl,p,dx,_,rfl,W5.at_,rfl,_,rfl,_,rfl,p,dx,op,v0,as,wl,i,y,rfl,W5,λH6 s6=>⟨_,rfl,r _ (s5.trans s6)⟩⟩
  .have s25:=s2.trans s5;have Jr:=s5 _ _ Jy;have t5:=LB.same s5 tt;by_cases c:i=wl.long\/wl.isOpen i y=true
   .rw[show(decide (i=wl.long)||wl.isOpen i y)=true by rw[W3,P0];exact c];refine b7 ?_;have dS:acc++(if f<i then[(f,i-f)]else[])++(if i+1<=wl.long then stretchesFrom wl y (wl.long-(i+1)) (i+1) (Nu (i+1) (i+1))else[])=wl.stretches y:=by
     by_cases hl:i<wl.long
     .have ho:wl.isOpen i y=true:=by
       rcases c with z|z
       .lia
       .exact z
      rw[show wl.long-i=(wl.long-(i+1))+1 by lia,Sa ho]at Ky;rw[K0 (show i+1<=wl.long by lia),R7];exact Ky
     .rw[D0 (show ¬i+1<=wl.long by lia),d3];rw[show wl.long-i=0 by lia,Bl]at Ky;exact Ky
    refine⟨_,rfl,_,rfl,_,_,rfl,rfl,_,rfl,?_⟩;by_cases hf:f<i
    .rw[F1 (show(f:Int)<(i:Int) by lia)];rw[K0 hf]at dS;refine b7 ⟨_,rfl,.inl ⟨rfl,_,SqL.of Jr⟩,_,rfl,_,rfl,_,rfl,_,_,rfl,rfl,(by show 2<=sizeLine;decide),λt nt=>?_⟩;refine⟨q,_,_,rfl,rfl,(by rw[M0 (C1 Jr nt)];exact Jr),(by rw[B0];lia),?_⟩;refine⟨_,rfl,_,_,rfl,rfl,?_⟩;have eif:(i:Int)-(f:Int)=((i-f:Nat):Int):=by lia
     refine⟨some (.int i),i+1,ts++[t],acc++[(f,i-f)],?_,(s25.new nt).set nq,?_,?_,j1 _,by simp;lia,?_⟩
     .show[some (V.ref p),some (V.int y),some (V.ref q),some (V.int ((i:Int)+1)),some (V.int i)]=_;rw[show(i:Int)+1=((i+1:Nat):Int) by lia]
     .rw[C0,V0 (f:=V.ref)];rfl
     .rw[V0 (f:=pI)];have t6:LB (upd H5 t (.tup [.int f,.int ((i:Int)-(f:Int))])) ts (acc.map pI):=LB.same ((Same.refl _).new nt) t5;have hq6:upd H5 t (.tup [.int f,.int ((i:Int)-(f:Int))]) q=some (.lst (ts.map V.ref)):=by rw[M0 (C1 Jr nt)];exact Jr
      refine K4 (LB.upd t6 hq6) ?_;rw[M0 (K2 (C1 Jr nt)),C0];show some (HO.tup [V.int f,V.int ((i:Int)-(f:Int))])=_;rw[eif];rfl
     .by_cases hl:i+1<=wl.long
      .rw[K0 hl]at dS ⊢;exact dS
      .rw[D0 hl]at dS ⊢;rw[d3]at dS;exact dS
    .rw[Y0 (show ¬(f:Int)<(i:Int) by lia)];rw[D0 hf,d3]at dS;refine S7 ⟨_,rfl,_,_,rfl,rfl,?_⟩;refine⟨some (.int i),i+1,ts,acc,?_,s25,Jr,t5,j1 _,by lia,?_⟩
     .show[some (V.ref p),some (V.int y),some (V.ref q),some (V.int ((i:Int)+1)),some (V.int i)]=_;rw[show(i:Int)+1=((i+1:Nat):Int) by lia]
     .by_cases hl:i+1<=wl.long
      .rw[K0 hl]at dS ⊢;exact dS
      .rw[D0 hl]at dS ⊢;rw[d3]at dS;exact dS
   .rw[show(decide (i=wl.long)||wl.isOpen i y)=false by
     rw[Q4];intro z;rw[W3,P0]at z;exact c z]
    have ho:wl.isOpen i y=false:=by
     cases z:wl.isOpen i y with
     |false=>rfl
     |true=>exact absurd (.inr z) c
    refine S7 ⟨some (.int i),f,ts,acc,rfl,s25,Jr,t5,by lia,by lia,?_⟩;have hl:i+1<=wl.long:=by
     have:i≠wl.long:=λz=>c (.inl z)
     lia
    rw[K0 hl];rw[show wl.long-i=(wl.long-(i+1))+1 by lia,Ta fi ho]at Ky;exact Ky
 .rintro σ H' ⟨v,f,ts,acc,rfl,s2,Jy,tt,fi,al,Ky⟩;rw[D0 (by lia)]at Ky;rw[Ky]at tt;exact⟨_,rfl,k H' q ts s2 nq Jy tt⟩
def f7(H:Hp):List Addr->List (List (Nat×Nat))->Prop:=Paired λr l=>∃ts:List Addr,H r=some (.lst (ts.map V.ref))/\LB H ts (l.map pI)
theorem f7.same{rs:List Addr}{l:List (List (Nat×Nat))}(s:Same H H') (r:f7 H rs l):f7 H' rs l:=Paired.mapP r λ_ _ ⟨ts,h,t⟩=>⟨ts,s _ _ h,LB.same s t⟩
theorem f7.drop:∀{rs:List Addr}{l:List (List (Nat×Nat))}(n:Nat),f7 H rs l->f7 H (rs.drop n) (l.drop n)
 |_,_,0,r=>r
 |_,_,_+1,.nil=>.nil
 |_,_,n+1,.cons _ t=>f7.drop n t
theorem f7.upd{H:Hp}{z:Addr}{xs ys:List V}(hz:H z=some (.lst xs)):∀{rs:List Addr}{l:List (List (Nat×Nat))},f7 H rs l->z∉rs->f7 (upd H z (.lst ys)) rs l
 |_,_,.nil,_=>.nil
 |_,_,.cons ⟨ts,h1,h2⟩ t,n=>.cons ⟨ts,by rw[M0 (λq=>n (by simp[q]))];exact h1,LB.upd h2 hz⟩ (f7.upd hz t λq=>n (by simp[q]))
inductive pX(K:Frag)(vs:List V)(H:Hp)(Q:VK)(E':XK):Prop
 |mk (s r:Addr) (st:Nat×Nat) (rs:List Addr) (l:List (List (Nat×Nat))):vs=[.ref s,.ref r]->H s=some (.tup ((pI st).map V.int))->H r=some (.lst (rs.map V.ref))->f7 H rs l->Q (.int (((l.takeWhile λx=>x.contains st).length:Nat):Int)) H->pX K vs H Q E'
def pnF(p:Part):List (Str×V):=[("place",.int p.x),("course",.int p.y),("length",.int p.long),("courses",.int p.high)]
def Yi(C:Addr)(H:Hp)(q:Addr)(p:Part):Prop:=∃dx,H q=some (.ins C dx (pnF p))
theorem Yi.same{p:Part}(s:Same H H') (h:Yi C H q p):Yi C H' q p:=let ⟨dx,e⟩:=h;⟨dx,s _ _ e⟩
abbrev Fm(C:Addr)(H:Hp):List Addr->List Part->Prop:=Paired (Yi C H)
theorem Fm.same{l:List Part}(s:Same H H') (r:Fm C H as l):Fm C H' as l:=Paired.mapP r λ_ _ h=>h.same s
theorem Fm.upd{z:Addr}(hz:H z=some (.lst xs)) {l:List Part}(r:Fm C H as l):Fm C (L2.upd H z (.lst ys)) as l:=
 Paired.mapP r λq o ⟨dq,e⟩=>⟨dq,by rw[M0 (XE e hz (by intro z;cases z))];exact e⟩
inductive rX(C:Addr)(vs:List V)(H:Hp)(Q:VK)(E':XK):Prop
 |mk (p dx:Addr) (v0 v1 v2 v3:V):vs=[.ref p,v0,v1,v2,v3]->H p=some (.ins C dx [])->(∀H':Hp,H' p=some (.ins C dx [("place",v0),("course",v1),("length",v2),("courses",v3)])->(∀b,b≠p->H' b=H b)->Q .non H')->rX C vs H Q E'
inductive Xd(CP CW CO:Addr)(vs:List V)(H:Hp)(Q:VK)(E':XK):Prop
 |mk (p dx op:Addr) (v0:V) (as:List Addr) (w:Wall):vs=[.ref p]->MG CW CO H p dx op v0 as w->(∀(H':Hp)(q:Addr)(ts:List Addr),Same H H'->H q=none->H' q=some (.lst (ts.map V.ref))->Fm CP H' ts w.parts->Q (.ref q) H')->Xd CP CW CO vs H Q E'
theorem Kw{l:List V}(h:n<=l.length):kM l (some (n:Int)) none=l.drop n:=by
 unfold kM;have e:HT.sIx l.length 0 (some (n:Int))=n:=by
  show(if (n:Int)<0 then((n:Int)+(l.length:Int)).toNat else min (n:Int).toNat l.length)=n;rw[D0 (by lia)];simp
  lia
 rw[e];show(l.drop n).take (l.length-n)=_;rw[show l.length-n=(l.drop n).length by rw[eC],V1]
theorem UR(T:oA Kq g9 aq):Fo Pq wq bq true T.LA 1 (pX Kq):=by
 refine T.LA.F.kk T.LA.S λH vs Q E h=>?_;obtain⟨s,r,st,rs,l,rfl,hs,YJ,rows,k⟩:=h;refine⟨rfl,λhr=>?_⟩;refine⟨_,(T0 (RC 2 T.LA.S A2)
  (T0 (uN O1.po (PW.pt (uS (V3 Wj (pv 2) (oS T.UA (pv 1)) (U3 _)) (tN (V3 (Dh hr.units) (pv 0) (O7 Z6 (pv 1) (pv 2) (λ_ _=>rfl)) rfl)))) (X0 (psa 2 T.LA.S A2 wS)))
  (X0 (S3 (pv 2))))),?_⟩
 have lrs:rs.length=l.length:=K1 rows;refine vN (λσ H'=>∃(n:Nat),A4 (σ=[some (.ref s),some (.ref r),some (.int n)]) (H'=H) (n<=l.length) (∀j y,j<n->l[j]?=some y->y.contains st=true)) (λσ _=>match σ with
  |[_,_,some (.int n)]=>l.length-n.toNat
  |_=>0) ⟨0,rfl,rfl,E1 _,λj y h=>absurd h (by lia)⟩ ?_ ?_
 .rintro σ H' ⟨n,rfl,rfl,hn,all⟩;by_cases UC:n<l.length
  .have hl:l[n]?=some l[n]:=O0 UC;obtain⟨q,hq,ts,Kr,tt⟩:=Paired.getR rows hl;refine OY (x:=true) (y:=l[n].contains st) (λR z=>⟨_,rfl,_,rfl,r,_,rfl,.inl (SqL.of YJ),_,_,rfl,rfl,_,rfl,?_⟩) (λ_ R z=>⟨_,rfl,_,rfl,_,rfl,r,_,_,.ref q,rfl,rfl,SqL.of YJ,S5 (by rw[P1,hq];rfl),s,q,pI st,ts,_,rfl,rfl,hs,SqL.of Kr,tt,_,rfl,?_⟩) ?_
   .rw[F1 (show(n:Int)<(((rs.map V.ref).length:Nat):Int) by rw[B0,lrs];lia)];exact z
   .rw[D0 (by decide),BQ];exact z
   .rw[IC];cases hc:l[n].contains st with
    |true=>
     refine b7 ⟨_,rfl,_,_,rfl,rfl,?_⟩;refine⟨⟨n+1,?_,rfl,UC,λj y hj hy=>?_⟩,?_⟩
     .show[some (V.ref s),some (V.ref r),some (V.int ((n:Int)+1))]=_;rw[show(n:Int)+1=((n+1:Nat):Int) by lia]
     .by_cases e:j=n
      .subst e;rw[hl]at hy;obtain rfl:=J0 hy;exact hc
      .exact all j y (by lia) hy
     .show l.length-((n:Int)+1).toNat<l.length-(n:Int).toNat
      lia
    |false=>
     refine S7 ⟨_,rfl,?_⟩;have e:=El (p:=λx=>x.contains st) hl all;rw[D0 (by rw[hc];decide)]at e;rw[e]at k;exact k
  .have e:n=l.length:=by lia
   subst e;refine OY (x:=false) (y:=false) (λR z=>⟨_,rfl,_,rfl,r,_,rfl,.inl (SqL.of YJ),_,_,rfl,rfl,_,rfl,?_⟩) (λz=>nomatch z) ?_
   .rw[Y0 (show ¬(l.length:Int)<(((rs.map V.ref).length:Nat):Int) by rw[B0,lrs];lia)];exact z
   .refine S7 ⟨_,rfl,?_⟩;rw[Ou all]at k;exact k
 .intro σ H' R R' m h;obtain⟨v,e,u,e2,p1,ys,e3,hq,i,j,e4,e5,c,e6,z⟩:=h;refine⟨v,e,u,e2,p1,ys,e3,hq,i,j,e4,e5,c,e6,?_⟩;cases c with
  |false=>exact m _ _ z
  |true=>
   obtain⟨v1,q1,v2,q2,v3,q3,p2,xs,i2,v4,q4,q5,q6,q7,s2,p3,ns,as3,As,q8,q9,q10,q11,q12,c2,q13,z⟩:=z;exact⟨v1,q1,v2,q2,v3,q3,p2,xs,i2,v4,q4,q5,q6,q7,s2,p3,ns,as3,As,q8,q9,q10,q11,q12,c2,q13,m _ _ z⟩
theorem OO(T:oA Kq g9 aq):Mo g9 Pq wq bq true T.NA 1 (rX aq.zB):=by
 refine T.NA.F.kk T.NA.S λH vs Q E h=>?_;obtain⟨p,dx,v0,v1,v2,v3,rfl,hp,k⟩:=h;refine⟨rfl,λhr=>?_⟩;refine⟨_,(T0 (r6 (pv 0) (pv 1) rfl)
  (T0 (r6 (pv 0) (pv 2) rfl)
  (T0 (r6 (pv 0) (pv 3) rfl)
  (X0 (r6 (pv 0) (pv 4) rfl))))),?_⟩
 refine⟨_,rfl,_,rfl,p,_,dx,_,rfl,hp,T.l8.c,T.sB,(by show 0<1000;decide),?_⟩;refine⟨_,rfl,_,rfl,p,_,dx,_,rfl,C0,T.l8.c,T.M9,(by show 1<1000;decide),?_⟩;rw[V4];refine⟨_,rfl,_,rfl,p,_,dx,_,rfl,C0,T.l8.c,T.XB,(by show 2<1000;decide),?_⟩;rw[V4];refine⟨_,rfl,_,rfl,p,_,dx,_,rfl,C0,T.l8.c,T.jK,(by show 3<1000;decide),?_⟩;rw[V4];exact k _ C0 λb hb=>M0 hb
theorem UY(T:oA Kq g9 aq):Fo Pq wq bq true T.u9 4 (Xd aq.zB aq.cB aq.T3):=by
 refine T.u9.F.kk T.u9.S λH vs Q E h=>?_;obtain⟨p,dx,op,v0,as,wl,rfl,W,k⟩:=h;refine⟨rfl,λhr=>?_⟩;have zl:=gN;have h8:=W.h8;have l32:=W.l32;refine⟨_,(T0 (wI (i:=1) O1 rfl rfl (own:=[("course",2)]) rfl T.u9.S.nd rfl rfl rfl (ZH rfl T.wH (F0 (Q2 (pv 0) rfl) Z0)) (WW ["wall","rows","course","panels","row","stretch"] (Z3 MQ) [("course",2)]) (λtk=>(SE 2 T.u9.S)) (λtk=>cA) (λtk=>(pcg T.W8 (TR T) hr.mo tk.passes (F0 (pv 0) (F0 (pv 2) Z0)))))
  (T0 (RC 3 T.u9.S (d6 Z0))
  (T0 (E8 O1.po rfl (HN rfl T.wD (F0 (pv 1) Z0)) (IM rfl (aA (SE 2 T.u9.S) (aA (SE 4 T.u9.S) gJ))) (X0 (E8 O1.po rfl (L7 (pv 4)) (SE 5 T.u9.S) (X0 (Q6 (PW.pt (vS (V3 qC (pv 2) A2 (U3 _)) (HM (V3 (uV hr.units) (pv 5) (O7 Z6 (pv 1) (W4 vC (pv 2) A2) (λ_ _=>rfl)) rfl)))) (X0 (L6 (mE P2 K3 L3 V9 (pv 3) (F0 (VL (T.l8.k0 T.NA) (OO T) hr.mo rfl T.l8.m T.NA.b .nil O1.passes (F0 (O7 XC (pv 5) A2 (λ_ _=>rfl)) (F0 (pv 2) (F0 (O7 XC (pv 5) A2 (λ_ _=>rfl)) (F0 (JC T.LA (UR T) hr (F0 (pv 5) (F0 (zN PX (pv 1) (fS (pv 2)) eS) Z0))) Z0))))) Z0)))) T4)))))
  (X0 (S3 (pv 3)))))),?_⟩
 refine⟨_,rfl,p,_,dx,_,_,rfl,W.at_,T.pA.c,T.RH,rfl,_,rfl,by lia,by lia,λrl nrl=>?_⟩;rw[show((wl.high:Int)).toNat=wl.high by lia];refine IS (lo:=0) (n:=wl.high) (λi H'=>∃(rs:List Addr),A4 (Same H H') (H' rl=some (.lst (rs.map V.ref))) (f7 H' rs ((List.range i).map wl.stretches)) (rl∉rs)) ⟨[],(Same.refl _).new nrl,C0,.nil,by simp⟩ ?_ ?_
 .rintro i H' hi ⟨rs,s1,hrl,rows,nr⟩;rw[show(0:Int)+(i:Int)=(i:Int)from NO _];refine⟨rfl,_,rfl,_,rfl,p,dx,op,v0,as,wl,i,rfl,W.same s1,λH2 q ts s2 nq hq tt=>?_⟩;have lrs:=K1 rows;rw[B0,T7]at lrs;have qrl:rl≠q:=C1 hrl nq;refine⟨_,s2 _ _ hrl,(by rw[B0];lia),rs++[q],(s1.trans s2).set nrl,?_,?_,?_⟩
  .rw[C0,V0];rfl
  .rw[vT,V0];exact K4 (f7.upd (s2 _ _ hrl) (f7.same s2 rows) nr) ⟨ts,by rw[M0 (K2 qrl)];exact hq,LB.upd tt (s2 _ _ hrl)⟩
  .simp only[N2,Q1,dL];exact⟨nr,qrl⟩
 .rintro H2 ⟨rs,s2,hrl,rows,nr⟩;have rows:f7 H2 rs (AQ wl):=rows;have lrs:=K1 rows;have lrw:(AQ wl).length=wl.high:=by unfold AQ;rw[B0,T7]
  refine⟨E1 _,λpl npl=>?_⟩;have s3:Same H2 (upd H2 pl (.lst [])):=(Same.refl _).new npl;have xH:upd H2 pl (.lst []) pl=some (.lst []):=C0;generalize upd H2 pl (.lst [])=H3 at s3 xH;refine⟨_,rfl,rl,_,rfl,SqL.of (s3 _ _ hrl),IL (K:=Kq) (a:=rl) (xs:=rs.map V.ref) (λc σ H'=>E4 λ(v2 v4 v5:Option V)(ts:List Addr)=>A4 (σ=[some (.ref p),some (.ref rl),v2,some (.ref pl),v4,v5]) (Same H2 H') (H' pl=some (.lst (ts.map V.ref))) (Fm aq.zB H' ts (pH wl c)))
   ⟨none,none,none,[],rfl,s3,xH,.nil⟩ (by rintro c σ H' _ ⟨_,_,_,_,_,s4,_⟩;exact SqL.of (s4 _ _ hrl)) ?_ ?_⟩
  .rintro c v σ H' tp hi ⟨v2,v4,v5,ts,rfl,s4,za0,tt⟩ ntp;obtain⟨r,hr2,rfl⟩:=b9 hi;have cl:c<wl.high:=by
    have:=(N0.mp hr2).1
    lia
   obtain⟨l,hl,us,hus,tus⟩:=Paired.get rows hr2;obtain rfl:wl.stretches c=l:=by
    rw[HW cl]at hl;exact J0 hl
   refine⟨tp,_,rfl,.inl (.inl C0),rfl,_,_,rfl,_,_,rfl,rfl,?_⟩;have s5:Same H2 (upd H' tp (.tup [.int c,.ref r])):=s4.new ntp;have zf4:upd H' tp (.tup [.int c,.ref r]) pl=some (.lst (ts.map V.ref)):=by rw[M0 (C1 za0 ntp)];exact za0
   have tt5:Fm aq.zB (upd H' tp (.tup [.int c,.ref r])) ts (pH wl c):=Fm.same ((Same.refl _).new ntp) tt;generalize upd H' tp (.tup [.int c,.ref r])=H5 at s5 zf4 tt5;have My:=K1 tus;rw[B0]at My;refine⟨_,rfl,r,rfl,⟨_,SqL.of (s5 _ _ hus)⟩,DA (K:=Kq) (a:=r) (xs:=us.map V.ref) (λj σ H'=>E2 λ(v5:Option V)(ts:List Addr)=>A4 (σ=[some (.ref p),some (.ref rl),some (.int c),some (.ref pl),some (.ref r),v5]) (Same H2 H') (H' pl=some (.lst (ts.map V.ref))) (Fm aq.zB H' ts (pH wl c++UF wl c ((wl.stretches c).take j))))
    ⟨_,ts,rfl,s5,zf4,by simpa[UF]using tt5⟩ (by rintro j σ H' _ ⟨_,_,_,s6,_⟩;exact SqL.of (s6 _ _ hus)) ?_ ?_⟩
   .rintro j v σ H6 hj ⟨v5,ts,rfl,s6,Yx,tt6⟩;obtain⟨u,hu,rfl⟩:=b9 hj;obtain⟨si,hsi,hu6⟩:=Paired.get tus hu;rw[P1]at hsi;obtain⟨st,FM,rfl⟩:∃st,(wl.stretches c)[j]?=some st/\si=pI st:=by
     cases e:(wl.stretches c)[j]? with
     |none=>rw[e]at hsi;cases hsi
     |some st=>rw[e]at hsi;exact⟨st,rfl,(J0 hsi).symm⟩
    have hs6:=s6 _ _ hu6;have zf7:=s6 _ _ hrl;have zbU:=f7.same s6 rows;have zmG:ts.length<=500:=by
     have z:=K1 tt6;rw[Y1]at z;have z1:=lL wl c;have z2:=zQ wl c ((wl.stretches c).take j);have z3:=wM wl c;rw[Z1]at z2;have z4:c*(wl.long+1)<=8*33:=NG (by lia) (by lia)
     lia
    dsimp only[aH,aK,iR,jV];refine zfb (x:=decide (c=0)) (y:=!(wl.stretches (c-1)).contains st) (λR z=>⟨_,rfl,rfl,_,rfl,?_⟩) (λhc R z=>?_) ?_
    .have e:decide (V.int c=V.int 0)=decide (c=0):=P3.mpr ⟨λq=>by have:=V.int.inj q;lia,λq=>by rw[q];rfl⟩;rw[e];exact z
    .have c0:c≠0:=w6 hc;obtain⟨r1,hr1,t1,ht1,tt1⟩:=Paired.getR zbU (HW (w:=wl) (y:=c-1) (by lia));refine⟨_,rfl,_,rfl,_,rfl,_,_,rfl,rfl,rl,_,_,.ref r1,rfl,rfl,SqL.of zf7,NS (j:=c-1) (by lia) (by rw[P1,hr1];rfl),u,r1,pI st,t1,_,rfl,rfl,hs6,SqL.of ht1,tt1,_,rfl,?_⟩;rw[K0 rfl,BQ];exact z
    .have ec:(decide (c=0)||!(wl.stretches (c-1)).contains st)=!(decide (0<c)&&(wl.stretches (c-1)).contains st):=by
      by_cases q:c=0
      .subst q;simp
      .rw[Y0 q,F1 (show 0<c by lia)];simp
     rw[ec];have snoc:=kY wl c ((wl.stretches c).take j) st;rw[<-Q3 FM]at snoc;cases hb:(decide (0<c)&&(wl.stretches (c-1)).contains st)with
     |true=>
      rw[K0 hb,d3]at snoc;refine S7 ⟨_,ts,rfl,s6,Yx,?_⟩;rw[snoc];exact tt6
     |false=>
      rw[D0 (by rw[hb];decide)]at snoc;refine b7 ⟨_,rfl,.inl ⟨rfl,_,SqL.of Yx⟩,_,rfl,u,_,_,_,rfl,rfl,.inl (.inl hs6),S5 (j:=0) rfl,_,rfl,_,rfl,u,_,_,_,rfl,rfl,.inl (.inl hs6),S5 (j:=1) rfl,_,rfl,_,rfl,_,rfl,_,rfl,rl,_,rfl,SqL.of zf7,λsl nsl=>?_⟩;rw[Kw (by rw[B0];lia),<-List.map_drop];have s7:Same H6 (upd H6 sl (.lst ((rs.drop c).map V.ref))):=(Same.refl _).new nsl;have zf8:upd H6 sl (.lst ((rs.drop c).map V.ref)) sl=some (.lst ((rs.drop c).map V.ref)):=C0;generalize upd H6 sl (.lst ((rs.drop c).map V.ref))=H7 at s7 zf8;refine⟨u,sl,st,rs.drop c,(AQ wl).drop c,rfl,s7 _ _ hs6,zf8,f7.drop c (f7.same s7 zbU),λt dt nt ndt ndd=>⟨t,dt,_,_,_,_,rfl,C0,λH8 e8 kp=>⟨rfl,?_⟩⟩⟩;rw[zcG wl st c (by lia)]at e8;have s8:Same H7 H8:=λb o e=>by
       have q1:b≠t:=C1 e nt;have q2:b≠dt:=C1 e ndt;rw[kp b q1,M0 q1,M0 q2];exact e
      have zdE:=s8 _ _ (s7 _ _ Yx);refine⟨pl,_,_,rfl,rfl,zdE,(by rw[B0];lia),?_⟩;refine⟨_,ts++[t],rfl,((s6.trans s7).trans s8).set npl,?_,?_⟩
      .rw[C0,V0];rfl
      .rw[snoc,<-R7];refine K4 (Fm.upd zdE (Fm.same s8 (Fm.same s7 tt6))) ⟨dt,?_⟩;rw[M0 (XE e8 zdE (by intro z;cases z)),e8];rfl
   .rintro σ H6 ⟨v5,ts,rfl,s6,Yx,tt6⟩;rw[B0,My,V1,<-bO]at tt6;exact⟨_,_,_,ts,rfl,s6,Yx,tt6⟩
  .rintro σ H' ⟨v2,v4,v5,ts,rfl,s4,za0,tt⟩;rw[B0,lrs,lrw]at tt;exact⟨_,rfl,k H' pl ts (s2.trans s4) (s2.free npl) za0 tt⟩
theorem PU{X:Cx}{K:Frag}(hK:X.K=K):kJ X (compareOp .In) (rIn K false):=by
 subst hK;exact Eo
theorem Xq{X:Cx}{K:Frag}(hK:X.K=K):MtR X "list.index" (Dg K):=by
 subst hK;exact At
theorem zda{X:Cx}{K:Frag}{o:Expr}{to:TE}{t:TA}{name:Str}{jE EF:Pos}{T id:String}{r:V->List V->Hp->VK->Prop}(hK:X.K=K) (pa:PlainAttrs T) (slot:Slot T name id) (hty:typeOf (.builtin id)=pure (.type "method_descriptor")) (hm:MtR X id r) (ho:PE X o to) (ha:PA X (e::es) t)
 (Ze:attributeBase o name X.env (eval o X.env)=eval o X.env:=by rfl)
 (zdq:((backTo EF (starEach (e::es) X.env)).all (λx=>!x.1)&&(backToKw EF (keywordEach [] X.env)).all (λx=>x.1.isSome)
 && decide ((e::es).length+([]:List Keyword).length+(if ([]:List Keyword).isEmpty then 0 else 1)<30))=true:=by rfl)
 (GM:(jE.endLine==EF.line)=true:=by rfl) (hs:starEach (e::es) X.env=(false,eval e X.env)::starEach es X.env:=by rfl) (Kj:(backTo EF (starEach es X.env)).any (·.1)=false:=by rfl) :
   PE X (.Call (.Attribute o name jE) (e::es) [] EF) (tBM K T r to t):=by
  subst hK;exact mE pa slot hty hm ho ha Ze zdq GM hs Kj
theorem zau{X:Cx}{K:Frag}(hK:X.K=K):IxR X (zcl K):=by
 subst hK;exact XC
def rI(r:Bd.Row):List Int:=r.map λp=>((p.rank:Nat):Int)
def xD:Bytes:=ascii "SHTBC"
theorem Yd(n:Int)(ms:List Int):inV (.int n) (ms.map V.int)=ms.contains n:=by
 unfold inV
 induction ms with
 |nil=>rfl
 |cons m r ih=>
  rw[C3,P8,ih,aD];congr 1;show(m==n)=(n==m);rw[Z2,L4,L4];exact eq_comm
theorem mQ(ms:List Int):(ms.map V.int).all lI=true:=by
 rw[t7];intro v hv;obtain⟨n,_,rfl⟩:=S2.mp hv;rfl
theorem sX(c:UInt8):match Bd.pieceOf c with
  |none=>(jB xD).contains (c.toNat:Int)=false
  |some p=>(jB xD).contains (c.toNat:Int)=true/\(jB xD)[p.rank]?=some (c.toNat:Int)/\∀m,m<p.rank->(jB xD)[m]?≠some (c.toNat:Int):=by
 have e:∀d:UInt8,(d.toNat:Int)=(c.toNat:Int)↔d=c:=λd=>⟨λh=>qF.mp (by lia),λh=>by rw[h]⟩
 have l:jB xD=[83,72,84,66,67]:=by decide
 have f:∀p:Piece,p.letter=match p with
   |.S=>83
   |.H=>72
   |.T=>84
   |.B=>66
   |.C=>67:=λp=>by cases p<;>decide
 unfold Bd.pieceOf PIECES;rw[l];simp only[W9,f,List.find?_nil];have z:∀(d:UInt8)(n:Int),(d.toNat:Int)=n->(c.toNat:Int)≠n->(d==c)=false:=λd n h1 h2=>by
  rw[X5];intro q;rw[q]at h1;exact h2 h1
 by_cases h0:c=83
 .subst h0;exact⟨by decide,by decide,by decide⟩
 by_cases h1:c=72
 .subst h1;exact⟨by decide,by decide,by decide⟩
 by_cases h2:c=84
 .subst h2;exact⟨by decide,by decide,by decide⟩
 by_cases h3:c=66
 .subst h3;exact⟨by decide,by decide,by decide⟩
 by_cases h4:c=67
 .subst h4;exact⟨by decide,by decide,by decide⟩
 rw[show((83:UInt8)==c)=false from X5.mpr (K2 h0),show((72:UInt8)==c)=false from X5.mpr (K2 h1),show((84:UInt8)==c)=false from X5.mpr (K2 h2),show((66:UInt8)==c)=false from X5.mpr (K2 h3),show((67:UInt8)==c)=false from X5.mpr (K2 h4)];dsimp only;rw[Q4];intro q;rw[wB]at q;simp only[S1,OA,LL]at q;have g:∀d:UInt8,c≠d->(c.toNat:Int)≠(d.toNat:Int):=λd h q=>h ((e d).mp q.symm).symm;have g0:=g 83 h0;have g1:=g 72 h1;have g2:=g 84 h2;have g3:=g 66 h3;have g4:=g 67 h4;rcases q with q|q|q|q|q
 .exact g0 q
 .exact g1 q
 .exact g2 q
 .exact g3 q
 .exact g4 q
inductive zbq(K:Frag)(C:Addr)(vs:List V)(H:Hp)(Q:VK)(E:XK):Prop
 |mk (l:Addr) (x:Bytes):vs=[.ref l]->SqL K H l (iB x)->x.length<=10000->(match sV x with
 |.error k=>BB C E H k
 |.ok _=>∀H':Hp,Same H H'->Q (.ref l) H')->zbq K C vs H Q E
inductive zbr(K:Frag)(C:Addr)(vs:List V)(H:Hp)(Q:VK)(E:XK):Prop
 |mk (l:Addr) (x:Bytes) (jF most:Nat):vs=[.ref l,.int jF,.int most]->SqL K H l (iB x)->x.length<=10000->(match lM x jF most with
 |.error k=>BB C E H k
 |.ok n=>∀H':Hp,Same H H'->Q (.int n) H')->zbr K C vs H Q E
inductive Zd(K:Frag)(C:Addr)(vs:List V)(H:Hp)(Q:VK)(E:XK):Prop
 |mk (l:Addr) (x:Bytes):vs=[.ref l]->SqL K H l (iB x)->x.length<=10000->(match readRow x with
 |none=>BB C E H 3
 |some r=>∀(H':Hp)(p:Addr),Same H H'->H p=none->H' p=some (.tup ((rI r).map V.int))->Q (.ref p) H')->Zd K C vs H Q E
inductive Gm(K:Frag)(C:Addr)(vs:List V)(H:Hp)(Q:VK)(E:XK):Prop
 |mk (l:Addr) (x:Bytes):vs=[.ref l]->SqL K H l (iB x)->x.length<=10000->(match RM x with
 |.error k=>BB C E H k
 |.ok r=>∀(H':Hp)(p:Addr),Same H H'->H p=none->H' p=some (.tup ((rI r).map V.int))->Q (.ref p) H')->Gm K C vs H Q E
inductive zbs(K:Frag)(C:Addr)(vs:List V)(H:Hp)(Q:VK)(E:XK):Prop
 |mk (l:Addr) (x:Bytes):vs=[.ref l]->SqL K H l (iB x)->x.length<=10000->(match Ha x with
 |.error k=>BB C E H k
 |.ok r=>∀(H':Hp)(p:Addr),Same H H'->H p=none->H' p=some (.tup ((rI r).map V.int))->Q (.ref p) H')->zbs K C vs H Q E
theorem zav(x:Bytes):((x.map λc=>decide ((65:Int)<=((c.toNat:Nat):Int))&&decide (((c.toNat:Nat):Int)<=90)).all id)=x.all isBig:=by
 rw[FD];refine P7 (λf=>x.all f) (funext λc=>?_);unfold isBig;show(decide ((65:Int)<=(c.toNat:Int))&&decide ((c.toNat:Int)<=90))=_;rw[Z2];simp only[D1,P0]
 lia
theorem VY(c:UInt8)(x:Bytes):readRow (c::x)=(Bd.pieceOf c).bind λp=>(readRow x).map λr=>p::r:=by
 unfold readRow;rw[U8];cases Bd.pieceOf c with
 |none=>rfl
 |some p=>
  cases List.mapM Bd.pieceOf x with
  |none=>rfl
  |some r=>rfl
theorem YQ(x:Bytes):match readRow x with
  |none=>(x.all λc=>(jB xD).contains ((c.toNat:Nat):Int))=false
  |some r=>(x.all λc=>(jB xD).contains ((c.toNat:Nat):Int))=true/\r.length=x.length/\∀(i:Nat)(c:UInt8)(p:Piece),x[i]?=some c->r[i]?=some p->Bd.pieceOf c=some p:=by
 induction x with
 |nil=>exact⟨rfl,rfl,λi c p h=>by simp at h⟩
 |cons c x ih=>
  rw[VY];have q:=sX c;cases hp:Bd.pieceOf c with
  |none=>
   rw[hp]at q;show((c::x).all _)=false;rw[O8,q,GB]
  |some p=>
   rw[hp]at q;cases hr:readRow x with
   |none=>
    rw[hr]at ih;show((c::x).all _)=false;rw[O8,ih,Bool.and_false]
   |some r=>
    rw[hr]at ih;refine⟨?_,?_,λi d p' h1 h2=>?_⟩
    .rw[O8,q.1,ih.1];rfl
    .rw[M1,M1,ih.2.1]
    .cases i with
     |zero=>
      obtain rfl:=J0 h1;obtain rfl:=J0 h2;exact hp
     |succ i=>exact ih.2.2 i d p' h1 h2
theorem NL(T:oA Kq g9 aq):Fo Pq wq bq true T.qA 3 (zbq Kq aq.j2):=by
 refine T.qA.F.kk T.qA.S λH vs Q E h=>?_;obtain⟨l,x,rfl,hS,hl,k⟩:=h;refine⟨rfl,λhr=>?_⟩;unfold sV at k;refine⟨_,(T0 (Q6 (PW.pt (vS (V3 (Eg hr.units) (pv 0) (d6 Z0) (U3 _)) (HM (gG (VC (FA (HS rfl) rfl T.Ed VT (F0 (bD O1 rfl rfl (own:=[("byte",1)]) rfl T.qA.S.nd (L7 (pv 0)) (WW ["field","byte"] (Z3 yM) [("byte",1)]) (λtk=>(SE 1 T.qA.S)) (λtk=>cA) (λtk=>(aI DC DC (qG T.PR) (pv 1) (qG T.CU)))) Z0))))))) (X0 (HU T O1 hr.mo (qG T.c7))) T4)
  (X0 (S3 (pv 0)))),?_⟩
 refine⟨_,rfl,E1 _,λp1 n1=>?_⟩;have s1:Same H (upd H p1 (.lst [])):=(Same.refl _).new n1;have lZ:=s1.seq hS;have e1:SqL Kq (upd H p1 (.lst [])) p1 (iB []):=SqL.of C0;generalize upd H p1 (.lst [])=H1 at s1 lZ e1;refine⟨_,_,kK lZ,kK e1,Y9 _,Y9 _,_,rfl,?_⟩;rw[iQ];by_cases h0:x=[]
 .rw[F1 h0];rw[K0 (.inl h0)]at k;exact b7 (b7 (F4 T (k.same s1)))
 .rw[Y0 h0];refine S7 ?_;refine⟨_,rfl,l,rfl,⟨_,lZ⟩,λDl hD=>Vi (inB 65 90) lZ (by rw[aE];lia) hD (λv hv H' R q=>?_) (λx H' R R' m q=>m _ _ q) ?_⟩
  .obtain⟨n,rfl⟩:=QY hv;exact⟨rfl,rfl,KL (λR r=>r) (λR r=>⟨_,rfl,r⟩) (λR r=>r) q⟩
  rw[PY];refine⟨Dl,_,rfl,SqL.of C0,_,rfl,?_⟩;rw[zav];have s2:Same H (upd H1 Dl (.lst ((x.map λc=>decide ((65:Int)<=((c.toNat:Nat):Int))&&decide (((c.toNat:Nat):Int)<=90)).map V.bl))):=s1.new hD;generalize upd H1 Dl (.lst ((x.map λc=>decide ((65:Int)<=((c.toNat:Nat):Int))&&decide (((c.toNat:Nat):Int)<=90)).map V.bl))=H2 at s2;cases h2:x.all isBig with
  |false=>
   rw[K0 (.inr h2)]at k;exact b7 (F4 T (k.same s2))
  |true=>
   rw[D0 (by rintro(z|z);exact h0 z;rw[h2]at z;cases z)]at k;exact S7 ⟨_,rfl,k _ s2⟩
theorem YI(T:oA Kq g9 aq):Fo Pq wq bq true T.mB 5 (zbr Kq aq.j2):=by
 refine T.mB.F.kk T.mB.S λH vs Q E h=>?_;obtain⟨l,x,m0,m,rfl,hS,hl,k⟩:=h;refine⟨rfl,λhr=>?_⟩;unfold lM at k;refine⟨_,(T0 (Q6 (V3 Vj (oS T.UA (pv 0)) A2 (U3 _)) (X0 (HU T O1 hr.mo (qG T.c7))) T4)
  (X0 (S3 (JC T.J8 (bE T) hr (F0 (pv 0) (F0 (pv 1) (F0 (pv 2) Z0))))))),?_⟩
 refine⟨_,rfl,l,_,rfl,.inl hS,rfl,_,rfl,?_⟩;rw[aE];by_cases h1:x.length≠1
 .rw[K0 h1]at k;rw[show(!decide (V.int x.length=V.int 1))=true by
   rw[Y0]
   .rfl
   .intro z;have z':=V.int.inj z
    lia]
  exact b7 (F4 T k)
 .rw[D0 h1]at k;rw[show(!decide (V.int x.length=V.int 1))=false by
   rw[F1]
   .rfl
   .rw[show x.length=1 by lia];rfl]
  exact S7 ⟨_,rfl,_,rfl,_,rfl,l,x,m0,m,rfl,hS,hl,k⟩
theorem QO(T:oA Kq g9 aq):Fo Pq wq bq true T.t9 3 (Zd Kq aq.j2):=by
 refine T.t9.F.kk T.t9.S λH vs Q E h=>?_;obtain⟨l,x,rfl,hS,hl,k⟩:=h;refine⟨rfl,λhr=>?_⟩;have zl:=gN;refine⟨_,(T0 (RC 1 T.t9.S (JC T.QB (JL T) hr (F0 (aC (v:=.str "SHTBC") rfl T.ZW ⟨_,rfl⟩) Z0)))
  (T0 (Q6 (gG (VC (FA (HS rfl) rfl T.Ed VT (F0 (bD O1 rfl rfl (own:=[("byte",2)]) rfl T.t9.S.nd (L7 (pv 0)) (WW ["field","letters","byte"] (Z3 uL) [("byte",2)]) (λtk=>(SE 2 T.t9.S)) (λtk=>cA) (λtk=>(yA (PU (K:=Kq) rfl) (pv 2) (pv 1) rfl))) Z0)))) (X0 (HU T O1 hr.mo (qG T.LG))) T4)
  (X0 (S3 (Do pV rfl T.zas Lv (F0 (bD O1 rfl rfl (own:=[("byte",2)]) rfl T.t9.S.nd (L7 (pv 0)) (WW ["field","letters","byte"] (Z3 uL) [("byte",2)]) (λtk=>(SE 2 T.t9.S)) (λtk=>cA) (λtk=>(zda (K:=Kq) rfl P2 nI PySem.F.type_list_index (Xq (K:=Kq) rfl) (pv 1) (F0 (pv 2) Z0)))) Z0)))))),?_⟩
 refine⟨"SHTBC",rfl,(by decide),λH1 pl s1 npl xH=>?_⟩;have ez:(("SHTBC": Str).cps.toList.map λn=>V.int ((n:Nat):Int))=(jB xD).map V.int:=by decide
 rw[ez]at xH;have lZ:=s1.seq hS;have ra:=YQ x;refine⟨_,rfl,l,rfl,⟨_,lZ⟩,λDl hD=>?_⟩;refine RF (K:=Kq) (a:=l) (xs:=iB x) (λi H'=>H'=upd H1 Dl (.lst (((x.take i).map λc=>(jB xD).contains ((c.toNat:Nat):Int)).map V.bl))) rfl
  (λi H' _ e=>by rw[e];exact((Same.refl _).new hD).seq lZ) ?_ ?_
 .rintro i v H' hi rfl;obtain⟨c,hc,rfl⟩:=NY hi;have il:=(N0.mp hc).1;have za1:upd H1 Dl (.lst (((x.take i).map λc=>(jB xD).contains ((c.toNat:Nat):Int)).map V.bl)) pl=some (.lst ((jB xD).map V.int)):=by rw[M0 (C1 xH hD)];exact xH
  refine⟨rfl,_,rfl,_,rfl,pl,_,rfl,.inl (SqL.of za1),rfl,mQ _,?_⟩;rw[D0 (by decide),Yd];refine⟨_,C0,(by rw[B0,B0,Z1];lia),?_⟩;rw[V4,Q3 hc,V0,V0];rfl
 .rintro H2 rfl;rw[aE,V1];refine⟨Dl,x.map λc=>(jB xD).contains ((c.toNat:Nat):Int),rfl,SqL.of C0,_,rfl,?_⟩;rw[FD];have s2:Same H1 (upd H1 Dl (.lst ((x.map λc=>(jB xD).contains ((c.toNat:Nat):Int)).map V.bl))):=(Same.refl _).new hD;generalize upd H1 Dl (.lst ((x.map λc=>(jB xD).contains ((c.toNat:Nat):Int)).map V.bl))=H2 at s2;have UG:=s1.trans s2;cases YJ:readRow x with
  |none=>
   rw[YJ]at k ra;rw[show(x.all (id ∘ λc=>(jB xD).contains ((c.toNat:Nat):Int)))=false from ra];exact b7 (F4 T (k.same UG))
  |some r=>
   rw[YJ]at k ra;rw[show(x.all (id ∘ λc=>(jB xD).contains ((c.toNat:Nat):Int)))=true from ra.1];refine S7 ?_;have za1:=s2 _ _ xH;have hS2:=s2.seq lZ;refine⟨_,rfl,l,rfl,⟨_,hS2⟩,λD2 hD2=>?_⟩;refine RF (K:=Kq) (a:=l) (xs:=iB x) (λi H'=>H'=upd H2 D2 (.lst ((rI (r.take i)).map V.int))) rfl
    (λi H' _ e=>by rw[e];exact((Same.refl _).new hD2).seq hS2) ?_ ?_
   .rintro i v H' hi rfl;obtain⟨c,hc,rfl⟩:=NY hi;have il:=(N0.mp hc).1;have rl:=ra.2.1;have er:r[i]?=some (r[i]'(by lia)):=O0 (by lia);have ep:=ra.2.2 i c _ hc er;have q:=sX c;rw[ep]at q;have zf9:upd H2 D2 (.lst ((rI (r.take i)).map V.int)) pl=some (.lst ((jB xD).map V.int)):=by rw[M0 (C1 za1 hD2)];exact za1
    refine⟨rfl,_,rfl,.inl ⟨rfl,_,SqL.of zf9⟩,_,rfl,pl,(jB xD).map V.int,.int c.toNat,(r[i]'(by lia)).rank,.int c.toNat,rfl,rfl,SqL.of zf9,rfl,mQ _,?_,?_,?_,?_⟩
    .rw[P1,q.2.1];rfl
    .show((c.toNat:Int)==(c.toNat:Int))=true;exact gC _
    .intro m z' hm hz';rw[P1]at hz';have ml:m<(jB xD).length:=by
      have:=(N0.mp q.2.1).1
      lia
     rw[O0 ml]at hz';obtain rfl:=J0 hz';show((jB xD)[m]==(c.toNat:Int))=false;rw[X5];intro e;exact q.2.2 m hm (by rw[O0 ml,e])
    .refine⟨_,C0,(by unfold rI;rw[B0,B0,Z1];lia),?_⟩;rw[V4,Q3 er];unfold rI;rw[V0,V0];rfl
   .rintro H3 rfl;rw[aE,<-ra.2.1,V1];refine⟨D2,_,rfl,.inl ⟨SqL.of C0,λq nq=>?_⟩⟩;have s3:Same H2 (upd H2 D2 (.lst ((rI r).map V.int))):=(Same.refl _).new hD2;exact k _ q ((UG.trans s3).new nq) ((UG.trans s3).free nq) C0
theorem ZQ:∀(r:Bd.Row),inOrder r=true↔∀n p q,r[n]?=some p->r[n+1]?=some q->p.rank<q.rank
 |[]=>by
  refine⟨λ_ n p q h=>by simp at h,λ_=>rfl⟩
 |[x]=>by
  refine⟨λ_ n p q _ h=>by simp at h,λ_=>rfl⟩
 |x::y::r=>by
  have ih:=ZQ (y::r);rw[inOrder,D1,P0,ih];constructor
  .rintro⟨h1,h2⟩ n p q hp hq;cases n with
   |zero=>
    obtain rfl:=J0 hp;obtain rfl:=J0 hq;exact h1
   |succ n=>exact h2 n p q hp hq
  .intro h;exact⟨h 0 x y rfl rfl,λn p q hp hq=>h (n+1) p q hp hq⟩
theorem nQ{p:Piece}(h:r[i]?=some p):((rI r).map V.int)[i]?=some (.int p.rank):=by
 unfold rI;rw[P1,P1,h];rfl
theorem N9(r:Bd.Row):((rI r).map V.int).length=r.length:=by
 unfold rI;rw[B0,B0]
theorem readRow_len{x:Bytes}(h:readRow x=some r):r.length=x.length:=by
 have q:=YQ x;rw[h]at q;exact q.2.1
def brF(tk lap most:Nat)(mk pp:Addr):List (Str×V):=[("taken",.int tk),("lap",.int lap),("most",.int most),("makes",.ref mk),("patterns",.ref pp)]
structure Hm(K:Frag)(CB:Addr)(H:Hp)(r dx mk pp:Addr)(ps:List Addr)(s:BS):Prop where
 ob:H r=some (.ins CB dx (brF s.1 s.2.lap s.2.most mk pp))
 mks:S9 K H mk ((rI s.2.makes).map V.int)
 pt:H pp=some (.lst (ps.map V.ref))
 ps:LB H ps (s.2.courses.map rI)
 rp:r≠pp
 c8:s.2.courses.length<=8
 b1:s.2.lap<=3
 b2:s.2.most<=2
def BR(K:Frag)(CB:Addr)(H:Hp)(X:List Addr)(r:Addr)(s:BS):Prop:=∃(dx mk pp:Addr)(ps:List Addr),X=[r,pp]/\Hm K CB H r dx mk pp ps s
theorem Hm.keep{K:Frag}{r:Addr}{s:BS}(U:Hm K CB H r dx mk pp ps s) (k:Same H H'):Hm K CB H' r dx mk pp ps s:=⟨k _ _ U.ob,k.tup U.mks,k _ _ U.pt,LB.same k U.ps,U.rp,U.c8,U.b1,U.b2⟩
theorem BR.keep{K:Frag}(H H':Hp) (X:List Addr) (r:Addr) (s:BS) (h:BR K CB H X r s) (k:Same H H'):BR K CB H' X r s:=by
 obtain⟨dx,mk,pp,ps,rfl,U⟩:=h;exact⟨dx,mk,pp,ps,rfl,U.keep k⟩
theorem BR.obj{K:Frag}(H:Hp) (X:List Addr) (r:Addr) (s:BS) (h:BR K CB H X r s):∃dx fs,H r=some (.ins CB dx fs)/\fs.lookup ("take": Str)=none/\fs.lookup ("take_rest": Str)=none:=by
 obtain⟨dx,mk,pp,ps,rfl,U⟩:=h;exact⟨dx,_,U.ob,rfl,rfl⟩
theorem BR.has{K:Frag}{r:Addr}{s:BS}(h:BR K CB H X r s):∀x∈X,H x≠none:=by
 obtain⟨dx,mk,pp,ps,rfl,U⟩:=h;intro x hx e;simp only[S1,OA,LL]at hx;rcases hx with rfl|rfl
 .rw[U.ob]at e;cases e
 .rw[U.pt]at e;cases e
inductive Ae(K:Frag)(CB:Addr)(vs:List V)(H:Hp)(Q:VK)(E':XK):Prop
 |mk (r dx:Addr):vs=[.ref r]->H r=some (.ins CB dx [])->(∀(H':Hp)(X:List Addr),(∀b o,H b=some o->b≠r->H' b=some o)->BR K CB H' X r (0,rE)->(∀x∈X,x=r\/H x=none)->Q .non H')->Ae K CB vs H Q E'
inductive RO(K:Frag)(CB CL:Addr)(vs:List V)(H:Hp)(Q:VK)(E:XK):Prop
 |mk (r l dx mk pp:Addr) (ps:List Addr) (s:BS) (x:Bytes):vs=[.ref r,.ref l]->Hm K CB H r dx mk pp ps s->SqL K H l (iB x)->x.length<=10000->(match Ha x with
 |.error k=>BB CL E H k
 |.ok p=>if 8<=s.2.courses.length then BB CL E H 4 else ∀(H':Hp)(q:Addr),(∀b o,H b=some o->b≠pp->H' b=some o)->Hm K CB H' r dx mk pp (ps++[q]) (s.1,{s.2 with courses:=s.2.courses++[p]})->Q .non H')->RO K CB CL vs H Q E
theorem Be(T:oA Kq g9 aq):Fo Pq wq bq true T.ME 4 (Gm Kq aq.j2):=by
 refine T.ME.F.kk T.ME.S λH vs Q E h=>?_;obtain⟨l,x,rfl,hS,hl,k⟩:=h;refine⟨rfl,λhr=>?_⟩;have zl:=gN;unfold RM at k;refine⟨_,(T0 (RC 1 T.ME.S (JC T.t9 (QO T) hr (F0 (JC T.qA (NL T) hr (F0 (pv 0) Z0)) Z0)))
  (T0 (E8 O1.po rfl (hW rfl T.wH (F0 A2 (F0 (oS T.UA (pv 1)) Z0))) (SE 2 T.ME.S) (X0 (Q6 (V3 DC (O7 XC (pv 1) (pv 2) (λ_ _=>rfl)) (O7 XC (pv 1) (W4 vC (pv 2) A2) (λ_ _=>rfl)) (U3 _)) (X0 (HU T O1 hr.mo (qG T.LG))) T4)))
  (X0 (S3 (pv 1))))),?_⟩
 refine⟨_,rfl,l,x,rfl,hS,hl,?_⟩;cases hc:sV x with
 |error e=>
  rw[hc]at k;exact k
 |ok y=>
  rw[hc]at k;obtain rfl:x=y:=by
   unfold sV at hc;by_cases q:x=[]\/x.all isBig=false
   .rw[K0 q]at hc;cases hc
   .rw[D0 q]at hc;exact b3 hc
  dsimp only at k;intro H1 s1;refine⟨l,x,rfl,s1.seq hS,hl,?_⟩;unfold lettersOf at k;cases YJ:readRow x with
  |none=>
   rw[YJ]at k;exact k.same s1
  |some r=>
   rw[YJ,o4]at k;dsimp only;intro H2 p s2 np hp;have UG:=s1.trans s2;have rl:=readRow_len YJ;have io:=ZQ r;refine⟨_,rfl,p,_,rfl,.inr (.inl (.inl hp)),1,_,rfl,⟨by decide,by decide,?_,?_⟩,?_⟩
   .rw[N9];lia
   .rw[N9];lia
   rw[N9];refine UL (lo:=1) (n:=((r.length:Int)-1).toNat) (λi σ H'=>∃(v:Option V),A3 (σ=[some (.ref l),some (.ref p),v]) (H'=H2) (∀n u v,n<i->r[n]?=some u->r[n+1]?=some v->u.rank<v.rank)) ⟨none,rfl,rfl,λn u v h=>absurd h (by lia)⟩ ?_ ?_
   .rintro i σ H' hi ⟨v,rfl,rfl,all⟩;have i1:i+1<r.length:=by lia
    have e0:r[i]?=some (r[i]'(by lia)):=O0 _;have e1:r[i+1]?=some (r[i+1]'i1):=O0 _;refine⟨_,rfl,_,rfl,p,_,_,_,rfl,rfl,.inl (.inl hp),NS (j:=i+1) (by lia) (nQ e1),_,rfl,_,rfl,_,_,rfl,rfl,p,_,_,_,rfl,rfl,.inl (.inl hp),NS (j:=i) (by show(1:Int)+(i:Int)-1=_;lia) (nQ e0),_,_,rfl,rfl,_,rfl,?_⟩;by_cases q:(r[i]'(by lia)).rank<(r[i+1]'i1).rank
    .rw[Y0 (show ¬(((r[i+1]'i1).rank:Nat):Int)<=(((r[i]'(by lia)).rank:Nat):Int) by lia)];refine S7 ⟨_,rfl,rfl,λn u v hn hu hv=>?_⟩;by_cases e:n=i
     .subst e;rw[e0]at hu;rw[e1]at hv;obtain rfl:=J0 hu;obtain rfl:=J0 hv;exact q
     .exact all n u v (by lia) hu hv
    .rw[F1 (show(((r[i+1]'i1).rank:Nat):Int)<=(((r[i]'(by lia)).rank:Nat):Int) by lia)];have no:¬inOrder r=true:=λz=>q (io.mp z i _ _ e0 e1);rw[D0 no]at k;exact b7 (F4 T (k.same UG))
   .rintro σ H' ⟨v,rfl,rfl,all⟩;have yes:inOrder r=true:=io.mpr λn u v hu hv=>all n u v (by have:=(N0.mp hv).1;lia) hu hv;rw[K0 yes]at k;exact⟨_,rfl,k _ p UG (s1.free np) hp⟩
theorem WV(T:oA Kq g9 aq):Fo Pq wq bq true T.dB 4 (zbs Kq aq.j2):=by
 refine T.dB.F.kk T.dB.S λH vs Q E h=>?_;obtain⟨l,x,rfl,hS,hl,k⟩:=h;refine⟨rfl,λhr=>?_⟩;have zl:=gN;unfold Ha at k;refine⟨_,(T0 (Q6 (V3 sQ (oS T.UA (JC T.qA (NL T) hr (F0 (pv 0) Z0))) (qG T.FU) (U3 _)) (X0 (HU T O1 hr.mo (qG T.TC))) T4)
  (T0 (RC 1 T.dB.S (JC T.t9 (QO T) hr (F0 (pv 0) Z0)))
  (T0 (Q6 (gG (VC (FA (HS rfl) rfl T.Ed VT (F0 (bD O1 rfl rfl (own:=[("piece",2)]) rfl T.dB.S.nd (eP (pv 1)) (WW ["field","pieces","piece"] (Z3 gO) [("piece",2)]) (λtk=>(SE 2 T.dB.S)) (λtk=>cA) (λtk=>(yA (PU (K:=Kq) rfl) (pv 2) (AD (F0 (qG T.LY) (F0 (qG T.Xc) Z0))) rfl))) Z0)))) (X0 (HU T O1 hr.mo (qG T.LG))) T4)
  (X0 (S3 (pv 1)))))),?_⟩
 refine⟨_,rfl,l,x,rfl,hS,hl,?_⟩;cases hc:sV x with
 |error e=>
  rw[hc]at k;exact k
 |ok y=>
  rw[hc]at k;obtain rfl:x=y:=by
   unfold sV at hc;by_cases q:x=[]\/x.all isBig=false
   .rw[K0 q]at hc;cases hc
   .rw[D0 q]at hc;exact b3 hc
  dsimp only at k;intro H1 s1;refine⟨l,_,rfl,.inl (s1.seq hS),_,_,rfl,rfl,_,rfl,?_⟩;rw[aE];by_cases q8:8<x.length
  .rw[K0 q8]at k;rw[F1 (show(8:Int)<(x.length:Int) by lia)];exact b7 (F4 T (k.same s1))
  rw[D0 q8]at k;rw[Y0 (show ¬(8:Int)<(x.length:Int) by lia)];refine S7 ⟨_,rfl,l,x,rfl,s1.seq hS,hl,?_⟩;unfold lettersOf at k;cases YJ:readRow x with
  |none=>
   rw[YJ]at k;exact k.same s1
  |some r=>
   rw[YJ,o4]at k;dsimp only;intro H2 p s2 np hp;have UG:=s1.trans s2;have rl:=readRow_len YJ;refine⟨_,rfl,p,rfl,⟨_,.inl (.inl hp)⟩,λD hD=>VX (K:=Kq) (a:=p) (xs:=(rI r).map V.int) (λi H'=>Same H2 H'/\H' D=some (.lst (((r.take i).map λu=>!u.isCut).map V.bl))) ⟨(Same.refl _).new hD,C0⟩ (by rintro i H' _ ⟨s,_⟩;exact .inl (.inl (s _ _ hp))) ?_ ?_⟩
   .rintro i v H' hi ⟨s3,hD3⟩;have il:i<r.length:=by
     have:=(N0.mp hi).1;rw[N9]at this;exact this
    have e0:r[i]?=some r[i]:=O0 il;rw[nQ e0]at hi;obtain rfl:=J0 hi;refine⟨rfl,_,rfl,(by show 2<=sizeLine;decide),λt nt=>?_⟩;have Tx:upd H' t (.tup [.int 0,.int 1]) D=some (.lst (((r.take i).map λu=>!u.isCut).map V.bl)):=by rw[M0 (C1 hD3 nt)];exact hD3
    refine⟨t,([0,1]:List Int).map V.int,rfl,.inr (.inl (.inl C0)),rfl,mQ _,?_⟩;rw[D0 (by decide),Yd];have ec:([0,1]:List Int).contains (((r[i].rank:Nat):Int))=!r[i].isCut:=by
     cases r[i]<;>decide
    rw[ec];refine⟨_,Tx,(by rw[B0,B0,Z1];lia),(s3.new nt).set hD,?_⟩;rw[C0,Q3 e0,V0,V0];rfl
   .rintro H3 ⟨s3,hD3⟩;rw[N9,V1]at hD3;refine⟨D,r.map λu=>!u.isCut,rfl,SqL.of hD3,_,rfl,?_⟩;rw[FD];have s13:=UG.trans s3;cases ha:r.all (id ∘ λu=>!u.isCut)with
    |false=>
     rw[D0 (λz=>by have z':(r.all λ(p:Piece)=>!p.isCut)=true:=z;rw[show(r.all λ(p:Piece)=>!p.isCut)=false from ha]at z';cases z')]at k;exact b7 (F4 T (k.same s13))
    |true=>
     rw[K0 (show(r.all λ(p:Piece)=>!p.isCut)=true from ha)]at k;exact S7 ⟨_,rfl,k _ p s13 (s1.free np) (s3 _ _ hp)⟩
theorem Zi(tk lap most:Nat)(mk pp:Addr):lG "taken" (.int ((tk:Int)+1)) (brF tk lap most mk pp)=brF (tk+1) lap most mk pp:=by
 show[(("taken": Str),V.int ((tk:Int)+1)),("lap",.int lap),("most",.int most),("makes",.ref mk),("patterns",.ref pp)]=[(("taken": Str),V.int (((tk+1:Nat):Nat):Int)),("lap",.int lap),("most",.int most),("makes",.ref mk),("patterns",.ref pp)];rw[show(tk:Int)+1=((tk+1:Nat):Int) by lia]
theorem SO(T:oA Kq g9 aq){D:MK}{r:Addr}{tk most:Nat}(hσ:σ[0]?=some (some (.ref r))) (ob:H r=some (.ins aq.M4 dx (brF tk lap most mk pp)))
 (k:D.nx σ (upd H r (.ins aq.M4 dx (brF (tk+1) lap most mk pp)))):Ak Kq (OF 0) (tC (.int 1)) zch "taken" D σ H:=by
  refine⟨_,hσ,r,_,dx,_,_,rfl,ob,T.M3.c,T.M8,rfl,_,_,rfl,rfl,dx,_,ob,(by show 5<1000;decide),?_⟩;rw[Zi];exact k
theorem UJ(T:oA Kq g9 aq):Mo g9 Pq wq bq true T.w8 1 (Ae Kq aq.M4):=by
 refine T.w8.F.kk T.w8.S λH vs Q E h=>?_;obtain⟨r,dx,rfl,hp,k⟩:=h;refine⟨rfl,λhr=>?_⟩;refine⟨_,(T0 (r6 (pv 0) A2 rfl)
  (T0 (r6 (pv 0) A2 rfl)
  (T0 (r6 (pv 0) A2 rfl)
  (T0 (r6 (pv 0) (AD Z0) rfl)
  (X0 (r6 (pv 0) (d6 Z0) rfl)))))),?_⟩
 refine⟨_,rfl,r,_,dx,_,rfl,hp,T.M3.c,T.M8,(by show 0<1000;decide),?_⟩;refine⟨_,rfl,r,_,dx,_,rfl,C0,T.M3.c,T.QE,(by show 1<1000;decide),?_⟩;rw[V4];refine⟨_,rfl,r,_,dx,_,rfl,C0,T.M3.c,T.AB,(by show 2<1000;decide),?_⟩;rw[V4];refine⟨E1 _,λmk nmk=>?_⟩;have rm:r≠mk:=C1 C0 nmk;have ziC:H mk=none:=by
  rw[M0 (K2 rm)]at nmk;exact nmk
 refine⟨_,rfl,r,_,dx,_,rfl,by rw[M0 rm];exact C0,T.M3.c,T.kD,(by show 3<1000;decide),?_⟩;refine⟨E1 _,λpp npp=>?_⟩;have rp:r≠pp:=C1 C0 npp;rw[M0 (K2 rp)]at npp;have mp:mk≠pp:=λe=>by
  rw[<-e,C0]at npp;cases npp
 rw[M0 (K2 mp),M0 (K2 rp)]at npp;refine⟨_,rfl,r,_,dx,_,rfl,by rw[M0 rp];exact C0,T.M3.c,T.D8,(by show 4<1000;decide),?_⟩;refine k _ [r,pp] (λb o e br=>?_) ⟨dx,mk,pp,[],rfl,?_,.inl (.inl ?_),?_,.nil,rp,by decide,by decide,by decide⟩ ?_
 .rw[M0 br,M0 (C1 e npp),M0 br,M0 (C1 e ziC),M0 br];exact e
 .rw[C0];rfl
 .rw[M0 (K2 rm),M0 mp,M0 (K2 rm),C0];rfl
 .rw[M0 (K2 rp),C0];rfl
 .intro x hx;simp only[S1,OA,LL]at hx;rcases hx with rfl|rfl
  .exact .inl rfl
  .exact .inr npp
theorem YG(T:oA Kq g9 aq):Mo g9 Pq wq bq true T.V5 5 (RO Kq aq.M4 aq.j2):=by
 refine T.V5.F.kk T.V5.S λH vs Q E h=>?_;obtain⟨r,l,dx,mk,pp,ps,s,x,rfl,U,hS,hl,k⟩:=h;refine⟨rfl,λhr=>?_⟩;have zl:=gN;have lp:=K1 U.ps;rw[B0]at lp;have c8:=U.c8;refine⟨_,(T0 (RC 2 T.V5.S (JC T.dB (WV T) hr (F0 (pv 1) Z0)))
  (T0 (Q6 (V3 qC (oS T.UA (Q2 (pv 0) rfl)) (qG T.EU) (U3 _)) (X0 (HU T O1 hr.mo (qG T.AU))) T4)
  (X0 (L6 (mE P2 K3 L3 V9 (Q2 (pv 0) rfl) (F0 (pv 2) Z0)))))),?_⟩
 refine⟨_,rfl,l,x,rfl,hS,hl,?_⟩;cases hp:Ha x with
 |error e=>
  rw[hp]at k;exact k
 |ok p=>
  rw[hp]at k;dsimp only at k ⊢;intro H1 q s1 nq hq;have U1:=U.keep s1;refine⟨_,rfl,r,_,dx,_,_,rfl,U1.ob,T.M3.c,T.D8,rfl,pp,_,rfl,.inl (SqL.of U1.pt),rfl,_,rfl,?_⟩;rw[B0,lp];by_cases q8:8<=s.2.courses.length
  .rw[K0 q8]at k;rw[F1 (show V.int s.2.courses.length=V.int 8 by rw[show s.2.courses.length=8 by lia];rfl)];exact b7 (F4 T (k.same s1))
  .rw[D0 q8]at k;rw[Y0 (show ¬V.int s.2.courses.length=V.int 8 from λz=>q8 (by have:=V.int.inj z;lia))];refine S7 ⟨_,rfl,r,_,dx,_,_,rfl,U1.ob,T.M3.c,T.D8,rfl,.inl ⟨rfl,_,SqL.of U1.pt⟩,_,rfl,pp,_,_,rfl,rfl,U1.pt,(by rw[B0];lia),?_⟩;refine k _ q (λb o e n=>by rw[M0 n];exact s1 b o e) ⟨?_,?_,?_,?_,U.rp,?_,U.b1,U.b2⟩
   .rw[M0 U.rp];exact U1.ob
   .rcases U1.mks with(h|⟨o,h⟩)|h
    .exact .inl (.inl (by rw[M0 (XE h U1.pt (by intro z;cases z))];exact h))
    .exact .inl (.inr ⟨o,by rw[M0 (XE h U1.pt (by intro z;cases z))];exact h⟩)
    .exact .inr h
   .rw[C0,V0];rfl
   .dsimp only;rw[V0];exact K4 (LB.upd U1.ps U1.pt) (by rw[M0 (XE hq U1.pt (by intro z;cases z))];exact hq)
   .show(s.2.courses++[p]).length<=8;simp
    lia
theorem ZI(T:oA Kq g9 aq):Mo g9 Pq wq bq true T.Y7 3 (LO (BR Kq aq.M4) UN aq.j2):=by
 refine T.Y7.F.kk T.Y7.S λH vs Q E h=>?_;obtain⟨r,l,X,s,line,rfl,⟨dx,mk,pp,ps,rfl,U⟩,hL,hl,k⟩:=h;refine⟨rfl,λhr=>?_⟩;have lp:=K1 U.ps;rw[B0]at lp;refine⟨_,(X0 (Q6 (PW.pt (vS (V3 (Fg hr.units) (pv 1) (d6 Z0) (U3 _)) (HM (V3 (Tu hr.units0) (Q2 (pv 0) rfl) (d6 Z0) (U3 _))))) (X0 (HU T O1 hr.mo (qG T.c7))) T4)),?_⟩;unfold UN at k;dsimp only[aH,aK,iR,jV]at k ⊢;refine LU (x:=!decide (line=[])) (y:=s.2.courses.isEmpty) (λH6=>Same H H6) (λR r'=>?_) (λ_ H6 s6 R r'=>?_) λH6 s6=>?_
 .refine⟨_,rfl,E1 _,λp1 n1=>?_⟩;have s1:Same H (upd H p1 (.lst [])):=(Same.refl _).new n1;refine⟨_,_,kK (SqL.of (s1 _ _ hL)),kK (b:=[]) (SqL.of C0),Y9 _,Y9 _,_,rfl,?_⟩;rw[iQ];exact r' _ s1
 .have U6:=U.keep s6;refine⟨_,rfl,r,_,dx,_,_,rfl,U6.ob,T.M3.c,T.D8,rfl,E1 _,λq nq=>⟨pp,q,ps.map V.ref,rfl,rfl,SqL.of (by rw[M0 (C1 U6.pt nq)];exact U6.pt),SqL.of C0,_,rfl,?_⟩⟩;have ei:(ps.map V.ref).isEmpty=s.2.courses.isEmpty:=by
   cases ps with
   |nil=>cases h:s.2.courses with
    |nil=>rfl
    |cons _ _=>rw[h]at lp;cases lp
   |cons _ _=>cases h:s.2.courses with
    |nil=>rw[h]at lp;cases lp
    |cons _ _=>rfl
  rw[ei];exact r' _ (s6.new nq)
 .by_cases q:line≠[]\/s.2.courses=[]
  .rw[K0 q]at k;rw[show(!decide (line=[])||s.2.courses.isEmpty)=true by
    rw[W3,O3,j5,List.isEmpty_iff];exact q]
   exact b7 (F4 T (k.same s6))
  .rw[D0 q]at k;rw[show(!decide (line=[])||s.2.courses.isEmpty)=false by
    rw[Q4];intro z;rw[W3,O3,j5,List.isEmpty_iff]at z;exact q z]
   exact S7 (k _ s6)
theorem WY{r:Addr}{fs Dx:List (Str×V)}{o:HO}(hr:H r=some (.ins C dx fs)) (hq:H q=some o) (n:∀C d f,o≠.ins C d f):upd H r (.ins C dx Dx) q=some o:=by
 rw[M0 (λz=>by rw[z,hr]at hq;exact n _ _ _ (J0 hq).symm)];exact hq
theorem Hm.set{K:Frag}{r mk':Addr}{s s':BS}(U:Hm K CB H r dx mk pp ps s) (hm:S9 K H mk' ((rI s'.2.makes).map V.int)) (hc:s'.2.courses=s.2.courses) (b1:s'.2.lap<=3) (b2:s'.2.most<=2) :
  Hm K CB (upd H r (.ins CB dx (brF s'.1 s'.2.lap s'.2.most mk' pp))) r dx mk' pp ps s':=by
 have tp:∀{q:Addr}{xs:List V},H q=some (.tup xs)->upd H r (.ins CB dx (brF s'.1 s'.2.lap s'.2.most mk' pp)) q=some (.tup xs):=λe=>WY U.ob e λ_ _ _ z=>nomatch z;refine⟨C0,?_,WY U.ob U.pt (λ_ _ _ z=>nomatch z),?_,U.rp,(by rw[hc];exact U.c8),b1,b2⟩
 .rcases hm with(h|⟨o,h⟩)|h
  .exact .inl (.inl (tp h))
  .exact .inl (.inr ⟨o,WY U.ob h (λ_ _ _ z=>nomatch z)⟩)
  .exact .inr h
 .rw[hc];exact Paired.mapP U.ps λq ms e=>tp e
theorem Lw{x:Bytes}{lo hi:Nat}(h:lM x lo hi=.ok n):n<=hi:=by
 unfold lM at h;by_cases q:x.length≠1
 .rw[K0 q]at h;cases h
 .rw[D0 q]at h;unfold xJ at h;cases hn:readNumber x with
  |none=>rw[hn]at h;cases h
  |some m=>
   rw[hn]at h;dsimp only at h;by_cases z:m<lo\/hi<m
   .rw[K0 z]at h;cases h
   .rw[D0 z]at h;obtain rfl:=b3 h
    lia
def bdF(lap most:Nat)(mk pp:Addr):List (Str×V):=[("lap",.int lap),("most",.int most),("makes",.ref mk),("patterns",.ref pp)]
structure VH(K:Frag)(C:Addr)(H:Hp)(p dx mk pp:Addr)(ps:List Addr)(b:Bond):Prop where
 ob:H p=some (.ins C dx (bdF b.lap b.most mk pp))
 mks:S9 K H mk ((rI b.makes).map V.int)
 pt:H pp=some (.lst (ps.map V.ref))
 ps:LB H ps (b.courses.map rI)
 c8:b.courses.length<=8
 b1:b.lap<=3
 b2:b.most<=2
def zdb(K:Frag)(C:Addr)(H:Hp)(p:Addr)(b:Bond):Prop:=∃(dx mk pp:Addr)(ps:List Addr),VH K C H p dx mk pp ps b
theorem VH.same{K:Frag}(k:Same H H') (U:VH K C H p dx mk pp ps b):VH K C H' p dx mk pp ps b:=⟨k _ _ U.ob,k.tup U.mks,k _ _ U.pt,LB.same k U.ps,U.c8,U.b1,U.b2⟩
inductive QU(C:Addr)(vs:List V)(H:Hp)(Q:VK)(E':XK):Prop
 |mk (p dx:Addr) (v0 v1 v2 v3:V):vs=[.ref p,v0,v1,v2,v3]->H p=some (.ins C dx [])->(∀H':Hp,H' p=some (.ins C dx [("lap",v0),("most",v1),("makes",v2),("patterns",v3)])->(∀b,b≠p->H' b=H b)->Q .non H')->QU C vs H Q E'
inductive RU(K:Frag)(C CF:Addr)(vs:List V)(H:Hp)(Q:VK)(E:XK):Prop
 |mk (l:Addr) (t:Bytes):vs=[.ref l]->SqL K H l (iB t)->t.length<=6000->(match RQ t with
 |.error e=>Hw CF E H e.1 e.2
 |.ok s=>∀(H':Hp)(p:Addr),Same H H'->zdb K C H' p s.2->Q (.ref p) H')->RU K C CF vs H Q E
theorem kN(T:oA Kq g9 aq):Mo g9 Pq wq bq true T.iA 6 (KO (BR Kq aq.M4) vA aq.j2):=by
 refine T.iA.F.kk T.iA.S λH vs Q E h=>?_;obtain⟨r,l,X,s,line,rfl,⟨dx,mk,pp,ps,rfl,U⟩,hL,nl,hl,k⟩:=h;refine⟨rfl,λhr=>?_⟩;have zl:=gN;have nl1:l≠r:=λz=>nl (by simp[z]);refine⟨_,(T0 (Q6 (V3 qC (Q2 (pv 0) rfl) A2 (U3 _)) (X0 (L6 (JC T.JE (KU T) hr (F0 (JC T.V6 (Z9 T) hr (F0 tS (F0 (pv 1) Z0))) Z0)))) (X0 (Q6 (V3 qC (Q2 (pv 0) rfl) A2 (U3 _)) (X0 (r6 (pv 0) (JC T.mB (YI T) hr (F0 (JC T.V6 (Z9 T) hr (F0 tS (F0 (pv 1) Z0))) (F0 A2 (F0 (qG T.Ri) Z0)))) rfl)) (X0 (Q6 (V3 qC (Q2 (pv 0) rfl) A2 (U3 _)) (X0 (r6 (pv 0) (JC T.mB (YI T) hr (F0 (JC T.V6 (Z9 T) hr (F0 tS (F0 (pv 1) Z0))) (F0 A2 (F0 (qG T.Cd) Z0)))) rfl)) (X0 (Q6 (PW.pt (uS (V3 qC (Q2 (pv 0) rfl) A2 (U3 _)) (tN (V3 sQ (Q2 (pv 0) rfl) A2 (U3 _))))) (X0 (r6 (pv 0) (JC T.ME (Be T) hr (F0 (JC T.V6 (Z9 T) hr (F0 tS (F0 (pv 1) Z0))) Z0)) rfl)) (X0 (L6 (BD (pv 0) T.M3.c T.V5.M (YG T) hr.mo T.V5.b .nil O1.passes (F0 (JC T.V6 (Z9 T) hr (F0 tS (F0 (pv 1) Z0))) Z0)))))))))))
  (X0 (jP (pv 0) A2 Vf))),?_⟩
 have fin:∀{H':Hp}{mk':Addr}{ps':List Addr}{b':Bond},vA s line=.ok (s.1+1,b')->(∀b o,H b=some o->b∉[r,pp]->H' b=some o)->Hm Kq aq.M4 H' r dx mk' pp ps' (s.1,b')->
   Q .non (upd H' r (.ins aq.M4 dx (brF (s.1+1) b'.lap b'.most mk' pp))):=λ{H' mk' ps' b'} e f V=>by
  rw[e]at k;exact k _ [r,pp] (λb o z n=>by rw[M0 (λq=>n (by simp[q]))];exact f b o z n) ⟨dx,mk',pp,ps',rfl,Hm.set (s':=(s.1+1,b')) V V.mks rfl V.b1 V.b2⟩ λx hx=>.inl hx
 have Nj:∀{H':Hp}{kk:Nat},vA s line=.error kk->Same H H'->BB aq.j2 E H' kk:=λe s'=>by
  rw[e]at k;exact k.same s'
 have off:∀{H':Hp},Same H H'->∀b o,H b=some o->b∉[r,pp]->H' b=some o:=λs' b o e _=>s' b o e;have zdG:∀{H':Hp}{o':HO},Same H H'->∀b o,H b=some o->b∉[r,pp]->upd H' r o' b=some o:=λs' b o e n=>by
  rw[M0 (λq=>n (by simp[q]))];exact s' b o e
 refine⟨_,rfl,r,_,dx,_,_,rfl,U.ob,T.M3.c,T.M8,rfl,rfl,_,rfl,?_⟩;by_cases t0:s.1=0
 .rw[F1 (show V.int s.1=V.int 0 by rw[t0];rfl)];have st:vA s line=(rN "bond" line mH).map λn=>(s.1+1,{s.2 with name:=n}):=by
   unfold vA;rw[K0 t0,t0]
  refine b7 ⟨_,rfl,"bond",l,ascii "bond",line,rfl,(by decide),(by decide),SqL.of hL,hl,?_⟩;unfold rN at st;cases ho:tK (ascii "bond") line with
  |none=>
   rw[ho]at st;exact Nj st (Same.refl _)
  |some x=>
   rw[ho]at st;dsimp only at st;intro H1 p s1 np hp Nf;refine⟨p,x,rfl,SqL.of hp,Nf,?_⟩;cases hn:mH x with
   |error e=>
    rw[hn]at st;exact Nj st s1
   |ok n=>
    rw[hn]at st;intro H2 s2;have UG:=s1.trans s2;have V:=U.keep UG;exact SO T rfl V.ob (fin (mk':=mk) (ps':=ps) (b':={s.2 with name:=n}) st (off UG) ⟨V.ob,V.mks,V.pt,V.ps,V.rp,V.c8,V.b1,V.b2⟩)
 rw[Y0 (show ¬V.int s.1=V.int 0 from λz=>t0 (by have:=V.int.inj z;lia))];refine S7 ⟨_,rfl,r,_,dx,_,_,rfl,U.ob,T.M3.c,T.M8,rfl,rfl,_,rfl,?_⟩;by_cases t1:s.1=1
 .rw[F1 (show V.int s.1=V.int 1 by rw[t1];rfl)];have st:vA s line=(rN "lap" line λx=>lM x 1 3).map λn=>(s.1+1,{s.2 with lap:=n}):=by
   unfold vA;rw[D0 t0,K0 t1,t1]
  refine b7 ⟨_,rfl,"lap",l,ascii "lap",line,rfl,(by decide),(by decide),SqL.of hL,hl,?_⟩;unfold rN at st;cases ho:tK (ascii "lap") line with
  |none=>
   rw[ho]at st;exact Nj st (Same.refl _)
  |some x=>
   rw[ho]at st;intro H1 p s1 np hp Nf;refine⟨p,x,1,3,rfl,SqL.of hp,Nf,?_⟩;dsimp only at st;cases hn:lM x 1 3 with
   |error e=>
    rw[hn]at st;exact Nj st s1
   |ok n=>
    rw[hn]at st;intro H2 s2;have UG:=s1.trans s2;have V:=U.keep UG;have W:=Hm.set (s':=(s.1,{s.2 with lap:=n})) V V.mks rfl (Lw hn) V.b2;refine⟨_,rfl,r,_,dx,_,rfl,V.ob,T.M3.c,T.QE,(by show 5<1000;decide),?_⟩;exact SO T rfl W.ob (fin (mk':=mk) (ps':=ps) st (zdG UG) W)
 rw[Y0 (show ¬V.int s.1=V.int 1 from λz=>t1 (by have:=V.int.inj z;lia))];refine S7 ⟨_,rfl,r,_,dx,_,_,rfl,U.ob,T.M3.c,T.M8,rfl,rfl,_,rfl,?_⟩;by_cases t2:s.1=2
 .rw[F1 (show V.int s.1=V.int 2 by rw[t2];rfl)];have st:vA s line=(rN "most" line λx=>lM x 0 2).map λn=>(s.1+1,{s.2 with most:=n}):=by
   unfold vA;rw[D0 t0,D0 t1,K0 t2,t2]
  refine b7 ⟨_,rfl,"most",l,ascii "most",line,rfl,(by decide),(by decide),SqL.of hL,hl,?_⟩;unfold rN at st;cases ho:tK (ascii "most") line with
  |none=>
   rw[ho]at st;exact Nj st (Same.refl _)
  |some x=>
   rw[ho]at st;intro H1 p s1 np hp Nf;refine⟨p,x,0,2,rfl,SqL.of hp,Nf,?_⟩;dsimp only at st;cases hn:lM x 0 2 with
   |error e=>
    rw[hn]at st;exact Nj st s1
   |ok n=>
    rw[hn]at st;intro H2 s2;have UG:=s1.trans s2;have V:=U.keep UG;have W:=Hm.set (s':=(s.1,{s.2 with most:=n})) V V.mks rfl V.b1 (Lw hn);refine⟨_,rfl,r,_,dx,_,rfl,V.ob,T.M3.c,T.AB,(by show 5<1000;decide),?_⟩;exact SO T rfl W.ob (fin (mk':=mk) (ps':=ps) st (zdG UG) W)
 rw[Y0 (show ¬V.int s.1=V.int 2 from λz=>t2 (by have:=V.int.inj z;lia))];refine S7 ?_;dsimp only[aH,aK,iR,jV];refine OY (x:=decide (s.1=3)) (y:=decide (0<s.2.most)) (λR r'=>⟨_,rfl,r,_,dx,_,_,rfl,U.ob,T.M3.c,T.M8,rfl,rfl,_,rfl,?_⟩) (λ_ R r'=>⟨_,rfl,r,_,dx,_,_,rfl,U.ob,T.M3.c,T.AB,rfl,_,_,rfl,rfl,_,rfl,?_⟩) ?_
 .rw[show decide (V.int s.1=V.int 3)=decide (s.1=3)from P3.mpr ⟨λq=>by have:=V.int.inj q;lia,λq=>by rw[q];rfl⟩];exact r'
 .rw[show decide ((0:Int)<(s.2.most:Int))=decide (0<s.2.most)from P3.mpr (by lia)];exact r'
 by_cases t3:s.1=3/\0<s.2.most
 .rw[show(decide (s.1=3)&&decide (0<s.2.most))=true by rw[D1,P0,P0];exact t3];have st:vA s line=(rN "makes" line RM).map λm=>(s.1+1,{s.2 with makes:=m}):=by
   unfold vA;rw[D0 t0,D0 t1,D0 t2,K0 t3,t3.1]
  refine b7 ⟨_,rfl,"makes",l,ascii "makes",line,rfl,(by decide),(by decide),SqL.of hL,hl,?_⟩;unfold rN at st;cases ho:tK (ascii "makes") line with
  |none=>
   rw[ho]at st;exact Nj st (Same.refl _)
  |some x=>
   rw[ho]at st;dsimp only at st;intro H1 p s1 np hp Nf;refine⟨p,x,rfl,SqL.of hp,Nf,?_⟩;cases hn:RM x with
   |error e=>
    rw[hn]at st;exact Nj st s1
   |ok m=>
    rw[hn]at st;intro H2 q s2 nq hq;have UG:=s1.trans s2;have V:=U.keep UG;have W:=Hm.set (mk':=q) (s':=(s.1,{s.2 with makes:=m})) V (.inl (.inl hq)) rfl V.b1 V.b2;refine⟨_,rfl,r,_,dx,_,rfl,V.ob,T.M3.c,T.kD,(by show 5<1000;decide),?_⟩;exact SO T rfl W.ob (fin (mk':=q) (ps':=ps) st (zdG UG) W)
 .rw[show(decide (s.1=3)&&decide (0<s.2.most))=false by
   rw[Q4];intro z;rw[D1,P0,P0]at z;exact t3 z]
  have st:=VN (s:=s) (x:=line) (by lia) t3;refine S7 ⟨_,rfl,r,dx,_,rfl,U.ob,rfl,_,rfl,"course",l,ascii "course",line,rfl,(by decide),(by decide),SqL.of hL,hl,?_⟩;unfold rN at st;cases ho:tK (ascii "course") line with
  |none=>
   rw[ho]at st;exact Nj st (Same.refl _)
  |some x=>
   rw[ho]at st;dsimp only at st;intro H1 p s1 np hp Nf;have V:=U.keep s1;refine⟨r,p,dx,mk,pp,ps,s,x,rfl,V,SqL.of hp,Nf,?_⟩;cases hn:Ha x with
   |error e=>
    rw[hn]at st;exact Nj st s1
   |ok m=>
    rw[hn]at st;dsimp only at st ⊢;by_cases q8:8<=s.2.courses.length
    .rw[K0 q8]at st ⊢;exact Nj st s1
    .rw[D0 q8]at st ⊢;intro H2 q f2 W;exact SO T rfl W.ob (fin (mk':=mk) (ps':=ps++[q]) st (λb o e n=>f2 b o (s1 b o e) λz=>n (by simp[z])) W)
theorem oQ(T:oA Kq g9 aq):Mo g9 Pq wq bq true T.nB 1 (QU aq.fD):=by
 refine T.nB.F.kk T.nB.S λH vs Q E h=>?_;obtain⟨p,dx,v0,v1,v2,v3,rfl,hp,k⟩:=h;refine⟨rfl,λhr=>?_⟩;refine⟨_,(T0 (r6 (pv 0) (pv 1) rfl)
  (T0 (r6 (pv 0) (pv 2) rfl)
  (T0 (r6 (pv 0) (pv 3) rfl)
  (X0 (r6 (pv 0) (pv 4) rfl))))),?_⟩
 refine⟨_,rfl,_,rfl,p,_,dx,_,rfl,hp,T.XD.c,T.eN,(by show 0<1000;decide),?_⟩;refine⟨_,rfl,_,rfl,p,_,dx,_,rfl,C0,T.XD.c,T.NQ,(by show 1<1000;decide),?_⟩;rw[V4];refine⟨_,rfl,_,rfl,p,_,dx,_,rfl,C0,T.XD.c,T.vO,(by show 2<1000;decide),?_⟩;rw[V4];refine⟨_,rfl,_,rfl,p,_,dx,_,rfl,C0,T.XD.c,T.AF,(by show 3<1000;decide),?_⟩;rw[V4];exact k _ C0 λb hb=>M0 hb
theorem XY(T:oA Kq g9 aq):Fo Pq wq bq true T.gF 14 (RU Kq aq.fD aq.U4):=by
 have TJ:xA Pq wq Kq g9 bq (kR Pq wq) true 13 aq.VF aq.WF ["text","reader"] (qS Kq (BR Kq aq.M4) vA UN aq.U4):=
  AM T T.M3.c T.iA.M T.Y7.M T.iA.b T.Y7.b (kN T) (ZI T) (by decide) (by decide) BR.obj BR.keep
 refine T.gF.F.kk T.gF.S λH vs Q E h=>?_;obtain⟨l,t,rfl,hS,hl,k⟩:=h;refine⟨rfl,λhr=>?_⟩;refine⟨_,(T0 (RC 1 T.gF.S (BZ (T.M3.k0 T.w8) (UJ T) hr.mo rfl T.M3.m T.w8.b .nil O1.passes))
  (T0 (L6 (JC T.h9 TJ hr (F0 (pv 0) (F0 (pv 1) Z0))))
  (X0 (S3 (VL (T.XD.k0 T.nB) (oQ T) hr.mo rfl T.XD.m T.nB.b .nil O1.passes (F0 (Q2 (pv 1) rfl) (F0 (Q2 (pv 1) rfl) (F0 (Q2 (pv 1) rfl) (F0 (Q2 (pv 1) rfl) Z0))))))))),?_⟩
 refine λr dx nr Vx ndr=>⟨r,dx,rfl,C0,λH1 X f1 W0 fr=>⟨rfl,?_⟩⟩
 have s1:Same H H1:=λb o e=>f1 b o (by rw[M0 (C1 e nr),M0 (C1 e Vx)];exact e) (C1 e nr);have nX:∀x∈X,H x=none:=λx hx=>by
  rcases fr x hx with e|e
  .rw[e];exact nr
  .by_cases q:x=r
   .rw[q];exact nr
   .rw[M0 q]at e;by_cases q2:x=dx
    .rw[q2];exact Vx
    .rw[M0 q2]at e;exact e
 have Xx:∀{b:Addr}{o:HO},H b=some o->b∉X:=λe m=>by
  rw[nX _ m]at e;cases e
 refine⟨_,rfl,_,rfl,l,r,X,_,t,rfl,s1.seq hS,hl,W0,W0.has,?_⟩;unfold RQ at k;cases hb:vG vA UN (0,rE) (fl 10 t)with
 |error e=>
  rw[hb]at k;exact λfr d q H' m e1 e2=>k fr d q H' (λb o e n=>m b o (s1 b o e) (Xx e) n) e1 e2
 |ok s=>
  rw[hb]at k;intro H2 X2 f2 W2 hX2;have s2:Same H H2:=λb o e=>f2 b o (s1 b o e) (Xx e);obtain⟨Mj,mk,pp,ps,rfl,U⟩:=W2;refine⟨_,rfl,r,_,Mj,_,_,rfl,U.ob,T.M3.c,T.QE,rfl,_,rfl,r,_,Mj,_,_,rfl,U.ob,T.M3.c,T.AB,rfl,_,rfl,r,_,Mj,_,_,rfl,U.ob,T.M3.c,T.kD,rfl,_,rfl,r,_,Mj,_,_,rfl,U.ob,T.M3.c,T.D8,rfl,λxb db nx ndb dxx=>⟨xb,db,_,_,_,_,rfl,C0,λH7 e7 kp=>⟨rfl,?_⟩⟩⟩;have s7:Same H2 H7:=λb o e=>by
   have q1:b≠xb:=C1 e nx;have q2:b≠db:=C1 e ndb;rw[kp b q1,M0 q1,M0 q2];exact e
  have V:=U.keep s7;exact k H7 xb (s2.trans s7) ⟨db,mk,pp,ps,e7,V.mks,V.pt,V.ps,V.c8,V.b1,V.b2⟩
theorem rS(p:Piece):([.int 4,.int 2,.int 3,.int 2,.int 1]:List V)[p.rank]?=some (.int p.length):=by cases p<;>rfl
theorem SU(h:((rI r).map V.int)[i]?=some v):∃p,r[i]?=some p/\v=.int p.rank:=by
 unfold rI at h;rw[B3,P1]at h;cases e:r[i]? with
 |none=>rw[e]at h;cases h
 |some p=>rw[e]at h;exact⟨p,rfl,(J0 h).symm⟩
def mN(r:Bd.Row)(i:Nat):List Nat:=(List.range i).map λj=>lengthOf (r.take (j+1))
theorem Ce(r:Bd.Row)(i:Nat):mN r (i+1)=mN r i++[lengthOf (r.take (i+1))]:=by
 unfold mN;rw[SC,V0];rfl
theorem aR:∀(x:Nat)(r:Bd.Row),jointsFrom x r=(List.range (r.length-1)).map λj=>x+lengthOf (r.take (j+1))
 |x,[]=>rfl
 |x,[p]=>rfl
 |x,p::q::r=>by
  show(x+p.length)::jointsFrom (x+p.length) (q::r)=_;rw[aR (x+p.length) (q::r)];show _=(List.range (r.length+1)).map _;rw[aB,C3,B3];congr 1;refine Y5 λj _=>?_;show x+p.length+lengthOf ((q::r).take (j+1))=x+(p.length+lengthOf ((q::r).take (j+1)))
  lia
theorem Yq(r:Bd.Row):jointsOf r=mN r (r.length-1):=by
 unfold jointsOf mN;rw[aR];refine Y5 λj _=>?_
 lia
theorem tX(l:List Nat)(x:Nat):bitsOf (l++[x])=bitsOf l|||2^x:=by
 unfold bitsOf;rw[List.foldl_append];rfl
theorem BM(r:Bd.Row)(p:Piece):lengthOf (r++[p])=lengthOf r+p.length:=by
 rw[D4];rfl
theorem De(l:List V):kM l none (some (-1))=l.take (l.length-1):=by
 unfold kM;show(l.drop 0).take ((if (-1:Int)<0 then((-1:Int)+(l.length:Int)).toNat else min (-1:Int).toNat l.length)-0)=_;rw[K0 (by decide),jL];congr 1
 lia
inductive Ee(K:Frag)(vs:List V)(H:Hp)(Q:VK)(E':XK):Prop
 |mk (p:Addr) (r:Bd.Row):vs=[.ref p]->S9 K H p ((rI r).map V.int)->lengthOf r<=1000->(∀H':Hp,Same H H'->Q (.int (bitsOf (jointsOf r))) H')->Ee K vs H Q E'
inductive Mw(vs:List V)(H:Hp)(Q:VK)(E':XK):Prop
 |mk (n lap:Nat):vs=[.int n,.int lap]->1<=lap->lap<=3->n<2^64->Q (.int (near lap n)) H->Mw vs H Q E'
inductive Im(vs:List V)(H:Hp)(Q:VK)(E':XK):Prop
 |mk (j n lap:Nat):vs=[.int j,.int n,.int lap]->1<=lap->lap<=3->n<2^64->Q (.bl (decide (j&&&near lap n=0))) H->Im vs H Q E'
def nN(n i:Nat):Nat:=(List.range i).foldl (λ(m d:Nat)=>m|||(n*2^d|||n/2^d)) 0
theorem bR(n i:Nat):nN n (i+1)=nN n i|||(n <<< i)|||(n >>> i):=by
 unfold nN;rw[SC,List.foldl_append,EI,rC,Nat.or_assoc];rfl
theorem Aj(n:Nat):nN n 1=n:=by
 show 0|||(n*2^0|||n/2^0)=n;simp
theorem YY(T:oA Kq g9 aq):Fo Pq wq bq true T.gA 1 (Ee Kq):=by
 refine T.gA.F.kk T.gA.S λH vs Q E h=>?_;obtain⟨p,r,rfl,YJ,l1,k⟩:=h;refine⟨rfl,λhr=>?_⟩;refine⟨_,(T0 (RC 1 T.gA.S A2)
  (T0 (RC 2 T.gA.S A2)
  (T0 (E8 O1.po rfl (eP (zN zae (pv 0) eS (fS (bK jG A2)))) (SE 3 T.gA.S) (T0 (psa 2 T.gA.S (O7 XC (aC (v:=.ref aq.rB) rfl T.gM rfl) (pv 3) (λ_ _=>rfl)) wS)
  (X0 (RC 1 T.gA.S (W4 wZ (pv 1) (W4 yS A2 (pv 2)))))))
  (X0 (S3 (pv 1)))))),?_⟩
 refine⟨_,rfl,1,rfl,-1,rfl,p,_,rfl,YJ,λH1 q s1 hq=>?_⟩;rw[De,N9]at hq;have el:(((rI r).map V.int).take (r.length-1)).length=r.length-1:=by
  rw[Z1,N9]
  lia
 refine⟨q,rfl,⟨_,hq⟩,Rj (K:=Kq) (a:=q) (xs:=((rI r).map V.int).take (r.length-1)) (λi σ H'=>∃(v:Option V),σ=[some (.ref p),some (.int (bitsOf (mN r i))),some (.int (lengthOf (r.take i))),v]/\H'=H1) ⟨none,rfl,rfl⟩ (λi σ H' _ ⟨_,_,e⟩=>by rw[e];exact hq) ?_ ?_⟩
 .rintro i v σ H' hi ⟨v3,rfl,rfl⟩;have hi2:((rI r).map V.int)[i]?=some v:=by
   have il:=(N0.mp hi).1;rw[AH (by lia)]at hi;exact hi
  obtain⟨pc,hp,rfl⟩:=SU hi2;have e1:=Q3 hp;have e2:lengthOf (r.take (i+1))=lengthOf (r.take i)+pc.length:=by rw[e1,BM]
  have le:lengthOf (r.take (i+1))<=lengthOf r:=by
   have z:=D4 (r.take (i+1)) (r.drop (i+1));rw[pE]at z
   lia
  refine⟨_,rfl,_,rfl,aq.rB,_,_,_,rfl,rfl,T.iM _,S5 (rS pc),_,_,rfl,rfl,?_⟩;refine⟨_,rfl,_,rfl,_,_,rfl,rfl,?_,_,_,rfl,rfl,?_⟩
  .refine⟨?_,?_,by decide⟩
   .show(0:Int)<=(lengthOf (r.take i):Int)+(pc.length:Int)
    lia
   .show(lengthOf (r.take i):Int)+(pc.length:Int)<=1000000
    lia
  .refine⟨some (.int pc.rank),?_,rfl⟩;have c1:(lengthOf (r.take i):Int)+(pc.length:Int)=((lengthOf (r.take (i+1)):Nat):Int):=by rw[e2];lia
   show[some (V.ref p),some (V.int (Builtin.bitOr (bitsOf (mN r i):Int) ((1:Int)*2^((lengthOf (r.take i):Int)+(pc.length:Int)).toNat))),some (V.int ((lengthOf (r.take i):Int)+(pc.length:Int))),some (V.int pc.rank)]=_;rw[c1,show(1:Int)=((1:Nat):Int)from rfl,cO,DI,Ce,tX,dE]
 .rintro σ H' ⟨v3,rfl,rfl⟩;refine⟨_,rfl,?_⟩;rw[el,<-Yq];exact k _ s1
theorem OL(T:oA Kq g9 aq):Fo Pq wq bq true T.p9 1 Mw:=by
 refine T.p9.F.kk T.p9.S λH vs Q E h=>?_;obtain⟨n,lap,rfl,h1,h3,hn,k⟩:=h;refine⟨rfl,λhr=>?_⟩;have zl:=gN;refine⟨_,(T0 (RC 2 T.p9.S (pv 0))
  (T0 (E8 O1.po rfl (hW rfl T.wH (F0 A2 (F0 (pv 1) Z0))) (SE 3 T.p9.S) (X0 (RC 2 T.p9.S (W4 wZ (W4 wZ (pv 2) (W4 yS (pv 0) (pv 3))) (W4 Ms (pv 0) (pv 3))))))
  (X0 (S3 (pv 2))))),?_⟩
 refine⟨_,rfl,_,rfl,1,_,rfl,⟨by decide,by decide,by lia,by lia⟩,?_⟩;rw[show((lap:Int)-1).toNat=lap-1 by lia];refine UL (lo:=1) (n:=lap-1) (λi σ H'=>∃(v:Option V),σ=[some (.int n),some (.int lap),some (.int (nN n (i+1))),v]/\H'=H) ⟨none,by rw[Aj];rfl,rfl⟩ ?_ ?_
 .rintro i σ H' hi ⟨v,rfl,rfl⟩;have ei:(1:Int)+(i:Int)=((i+1:Nat):Int):=by lia
  rw[ei];refine⟨_,rfl,_,rfl,_,rfl,_,_,rfl,rfl,⟨by lia,by lia,by lia⟩,_,_,rfl,rfl,_,rfl,_,rfl,_,_,rfl,rfl,by show(0:Int)<=((i+1:Nat):Int);lia,_,_,rfl,rfl,some (.int ((i+1:Nat):Int)),?_,rfl⟩;show[some (V.int n),some (V.int lap),some (V.int (Builtin.bitOr (Builtin.bitOr (nN n (i+1):Int) ((n:Int)*2^(((i+1:Nat):Int)).toNat)) ((n:Int)/2^(((i+1:Nat):Int)).toNat))),_]=_;rw[cO,Jl,DI,DI,<-bR]
 .rintro σ H' ⟨v,rfl,rfl⟩;refine⟨_,rfl,?_⟩;rw[show lap-1+1=lap by lia];exact k
theorem TU(T:oA Kq g9 aq):Fo Pq wq bq true T.UE 2 Im:=by
 refine T.UE.F.kk T.UE.S λH vs Q E h=>?_;obtain⟨j,n,lap,rfl,h1,h3,hn,k⟩:=h;refine⟨rfl,λhr=>?_⟩;refine⟨_,(X0 (S3 (yA qC (W4 JX (pv 0) (JC T.p9 (OL T) hr (F0 (pv 1) (F0 (pv 2) Z0)))) A2 (U3 _)))),?_⟩;refine⟨_,rfl,_,rfl,_,rfl,n,lap,rfl,h1,h3,hn,_,_,rfl,rfl,rfl,?_⟩;show Q (V.bl (decide (V.int (Builtin.bitAnd (j:Int) (near lap n:Int))=V.int 0))) H;rw[JT];rw[show decide (V.int ((j&&&near lap n:Nat):Int)=V.int 0)=decide (j&&&near lap n=0)from P3.mpr ⟨λq=>by have:=V.int.inj q;lia,λq=>by rw[q];rfl⟩];exact k
def zaw(w:Wall)(p:Part):Nat:=if p.x=0 then w.left else w.reveal
def zax(w:Wall)(p:Part):Nat:=if p.x+p.long=w.long then w.right else w.reveal
inductive Nw(CP CW CO:Addr)(vs:List V)(H:Hp)(Q:VK)(E':XK):Prop
 |mk (p dx op q:Addr) (v0:V) (as:List Addr) (w:Wall) (pt:Part):vs=[.ref p,.ref q]->MG CW CO H p dx op v0 as w->Yi CP H q pt->(∀(H':Hp)(t:Addr),Same H H'->H' t=some (.tup [.int (zaw w pt),.int (zax w pt)])->Q (.ref t) H')->Nw CP CW CO vs H Q E'
inductive uX(vs:List V)(H:Hp)(Q:VK)(E':XK):Prop
 |mk (p:Piece) (k e:Nat):vs=[.int p.rank,.int k,.int e]->e<=2->Q (.bl (endIs e k (some p))) H->uX vs H Q E'
inductive vX(K:Frag)(vs:List V)(H:Hp)(Q:VK)(E':XK):Prop
 |mk (r t:Addr) (VG:Bd.Row) (k el er:Nat):vs=[.ref r,.int k,.ref t]->S9 K H r ((rI VG).map V.int)->VG≠[]->H t=some (.tup [.int el,.int er])->el<=2->er<=2->Q (.bl (endIs el k VG.head?&&endIs er k VG.getLast?)) H->vX K vs H Q E'
inductive Fe(CW CO:Addr)(vs:List V)(H:Hp)(Q:VK)(E':XK):Prop
 |mk (p dx op:Addr) (v0:V) (as:List Addr) (w:Wall) (x y:Nat):vs=[.ref p,.int x,.int y]->MG CW CO H p dx op v0 as w->(∀H':Hp,Same H H'->Q (.bl (decide (x=0)||w.isOpen (x-1) y)) H')->Fe CW CO vs H Q E'
def jM(w:Wall)(p:Part)(x:Nat):Bool:=(decide (p.x<=x)&&decide (x<=p.x+p.long))&&!(decide (x=0)||w.isOpen (x-1) (p.y-1))
def YF(w:Wall)(p:Part)(l:List (Nat×Nat)):List Nat:=(l.filter λz=>jM w p z.1).map λz=>z.1-p.x
def ZY(w:Wall)(p:Part)(l:List (List (Nat×Nat))):Nat:=if p.y=0 then 0 else bitsOf (YF w p (l.getD (p.y-1) []))
inductive Jm(CP CW CO:Addr)(vs:List V)(H:Hp)(Q:VK)(E':XK):Prop
 |mk (p dx op q c:Addr) (v0:V) (as cs:List Addr) (w:Wall) (pt:Part) (l:List (List (Nat×Nat))):vs=[.ref p,.ref q,.ref c]->MG CW CO H p dx op v0 as w->Yi CP H q pt->H c=some (.lst (cs.map V.ref))->f7 H cs l->pt.y<=l.length->pt.long<=1000->(∀H':Hp,Same H H'->Q (.int (ZY w pt l)) H')->Jm CP CW CO vs H Q E'
theorem zdc(p:Piece)(k e:Nat)(he:e<=2):endIs e k (some p)=(decide (e=0)||decide (p.rank=(k+e-1)%2)):=by
 unfold endIs;have e3:e=0\/e=1\/e=2:=by lia
 rcases e3 with rfl|rfl|rfl
 .rfl
 .rw[D0 (by decide)];rcases OG k with h|h
  .rw[h,show k+1-1=k by lia,h];cases p<;>decide
  .rw[h,show k+1-1=k by lia,h];cases p<;>decide
 .rw[D0 (by decide)];rcases OG k with h|h
  .rw[h,show(k+2-1)%2=1 by lia];cases p<;>decide
  .rw[h,show(k+2-1)%2=0 by lia];cases p<;>decide
theorem zay(h:xs[xs.length-1]?=some v):Cy xs (-1)=some v:=by
 have l:=(N0.mp h).1;have e:xs=xs.take (xs.length-1)++[v]:=by
  have z:=Q3 h;rw[show xs.length-1+1=xs.length by lia,V1]at z;exact z
 rw[e];exact BN _ _
theorem zbu{tA:TT}{c:Bool}(hA:Hd tA σ H c) (ha:c=true->Z4 ta σ H v) (hb:c=false->Z4 tb σ H v):Z4 (tIf tA ta tb) σ H v:=λR r=>by
 refine hA _ ?_;cases c with
 |true=>exact b7 (ha rfl R r)
 |false=>exact S7 (hb rfl R r)
theorem Bj{i k:Int}(ha:Z4 ta σ H (.int i)) (hb:Z4 tb σ H (.int j)) (hc:Z4 tc σ H (.int k)) :
  Z4 (fP (eV λi j=>.bl (decide (i<=j))) (eV λi j=>.bl (decide (i<=j))) ta tb tc) σ H (.bl (decide (i<=j)&&decide (j<=k))):=λR h=>KL ha hb hc h
theorem Cj(T:oA Kq g9 aq):Fo Pq wq bq true T.cG 1 (Nw aq.zB aq.cB aq.T3):=by
 refine T.cG.F.kk T.cG.S λH vs Q E h=>?_;obtain⟨p,dx,op,q,v0,as,wl,pt,rfl,W,⟨dq,hq⟩,k⟩:=h;refine⟨rfl,λhr=>?_⟩;refine⟨_,(T0 (RC 2 T.cG.S (uZ (V3 qC (Q2 (pv 1) rfl) A2 (U3 _)) (Q2 (pv 0) rfl) (Q2 (pv 0) rfl)))
  (T0 (RC 3 T.cG.S (uZ (V3 qC (W4 uC (Q2 (pv 1) rfl) (Q2 (pv 1) rfl)) (Q2 (pv 0) rfl) (U3 _)) (Q2 (pv 0) rfl) (Q2 (pv 0) rfl)))
  (X0 (S3 (AD (F0 (pv 2) (F0 (pv 3) Z0))))))),?_⟩
 refine zbu (c:=decide (pt.x=0)) (v:=.int (zaw wl pt)) ?_ (λz R r=>?_) (λz R r=>?_) _ ?_
 .intro R r;refine⟨_,rfl,q,_,dq,_,_,rfl,hq,T.l8.c,T.sB,rfl,rfl,_,rfl,?_⟩;rw[show decide (V.int pt.x=V.int 0)=decide (pt.x=0)from P3.mpr ⟨λz=>by have:=V.int.inj z;lia,λz=>by rw[z];rfl⟩];exact r
 .unfold zaw at r;rw[K0 (Y4 z)]at r;exact⟨_,rfl,p,_,dx,_,_,rfl,W.at_,T.pA.c,T.OQ,rfl,r⟩
 .unfold zaw at r;rw[D0 (w6 z)]at r;exact⟨_,rfl,p,_,dx,_,_,rfl,W.at_,T.pA.c,T.SH,rfl,r⟩
 dsimp only[aH,iR,aK,Ry];refine zbu (c:=decide (pt.x+pt.long=wl.long)) (v:=.int (zax wl pt)) ?_ (λz R r=>?_) (λz R r=>?_) _ ?_
 .intro R r;refine⟨_,rfl,q,_,dq,_,_,rfl,hq,T.l8.c,T.sB,rfl,_,rfl,q,_,dq,_,_,rfl,hq,T.l8.c,T.XB,rfl,_,_,rfl,rfl,_,rfl,p,_,dx,_,_,rfl,W.at_,T.pA.c,T.VE,rfl,rfl,_,rfl,?_⟩;show R (decide (V.int ((pt.x:Int)+(pt.long:Int))=V.int wl.long)) H;rw[show decide (V.int ((pt.x:Int)+(pt.long:Int))=V.int wl.long)=decide (pt.x+pt.long=wl.long)from P3.mpr ⟨λz=>by have:=V.int.inj z;lia,λz=>by rw[<-z];rfl⟩];exact r
 .unfold zax at r;rw[K0 (Y4 z)]at r;exact⟨_,rfl,p,_,dx,_,_,rfl,W.at_,T.pA.c,T.wO,rfl,r⟩
 .unfold zax at r;rw[D0 (w6 z)]at r;exact⟨_,rfl,p,_,dx,_,_,rfl,W.at_,T.pA.c,T.SH,rfl,r⟩
 exact⟨_,rfl,_,rfl,by show 2<=sizeLine;decide,λt nt=>k _ t ((Same.refl _).new nt) C0⟩
theorem cR(T:oA Kq g9 aq):Fo Pq wq bq true T.JG 1 uX:=by
 refine T.JG.F.kk T.JG.S λH vs Q E h=>?_;obtain⟨p,n,e,rfl,he,k⟩:=h;refine⟨rfl,λhr=>?_⟩;refine⟨_,(X0 (S3 (Qj (yA qC (pv 2) (qG T.zc4) (U3 _)) (NK (yA qC (pv 0) (W4 Tf (W4 vC (W4 uC (pv 1) (pv 2)) A2) A2) (U3 _)))))),?_⟩;refine Bw (x:=decide (e=0)) (y:=decide (p.rank=(n+e-1)%2)) (λR r=>⟨_,rfl,rfl,?_⟩) (λh0 R r=>⟨_,rfl,_,rfl,_,rfl,_,_,rfl,rfl,_,_,rfl,rfl,_,_,rfl,rfl,(by show(0:Int)<2;decide),rfl,?_⟩) ?_
 .rw[show decide (V.int e=V.int 0)=decide (e=0)from P3.mpr ⟨λz=>by have:=V.int.inj z;lia,λz=>by rw[z];rfl⟩];exact r
 .have e0:e≠0:=w6 h0;show R (V.bl (decide (V.int p.rank=V.int (((n:Int)+(e:Int)-1)%2)))) H;rw[show decide (V.int p.rank=V.int (((n:Int)+(e:Int)-1)%2))=decide (p.rank=(n+e-1)%2)from P3.mpr ⟨λz=>by have:=V.int.inj z;lia,λz=>by rw[show(((n:Int)+(e:Int)-1)%2)=(((n+e-1)%2:Nat):Int) by lia,z]⟩];exact r
 .rw[<-zdc p n e he];exact k
theorem Ge(T:oA Kq g9 aq):Fo Pq wq bq true T.PJ 2 (vX Kq):=by
 refine T.PJ.F.kk T.PJ.S λH vs Q E h=>?_;obtain⟨r,t,VG,n,el,er,rfl,YJ,JK,ht,h1,h2,k⟩:=h;refine⟨rfl,λhr=>?_⟩;refine⟨_,(X0 (S3 (dP (JC T.JG (cR T) hr (F0 (O7 XC (pv 0) A2 (λ_ _=>rfl)) (F0 (pv 1) (F0 (O7 XC (pv 2) A2 (λ_ _=>rfl)) Z0)))) (NK (JC T.JG (cR T) hr (F0 (O7 XC (pv 0) (bK jG A2) (λ_ _=>rfl)) (F0 (pv 1) (F0 (O7 XC (pv 2) A2 (λ_ _=>rfl)) Z0)))))))),?_⟩;have rp:0<VG.length:=c5.mpr JK;have e0:VG[0]?=some VG[0]:=O0 rp;have e1:VG[VG.length-1]?=some (VG[VG.length-1]'(by lia)):=O0 (by lia);have q0:VG.head?=some VG[0]:=by rw[List.head?_eq_getElem?,e0]
 have q1:VG.getLast?=some (VG[VG.length-1]'(by lia)):=by rw[List.getLast?_eq_getElem?,e1]
 rw[q0,q1]at k;refine Xl (x:=endIs el n (some VG[0])) (y:=endIs er n (some (VG[VG.length-1]'(by lia)))) (λR z=>?_) (λ_ R z=>?_) k
 .exact⟨_,rfl,r,_,_,_,rfl,rfl,YJ,S5 (j:=0) (nQ e0),_,rfl,_,rfl,t,_,_,_,rfl,rfl,.inl (.inl ht),S5 (j:=0) rfl,VG[0],n,el,rfl,h1,z⟩
 .refine⟨_,rfl,1,rfl,r,_,_,_,rfl,rfl,YJ,zay (by rw[N9];exact nQ e1),_,rfl,_,rfl,t,_,_,_,rfl,rfl,.inl (.inl ht),S5 (j:=1) rfl,_,n,er,rfl,h2,z⟩
theorem UO(T:oA Kq g9 aq):Fo Pq wq bq true T.oC 3 (Fe aq.cB aq.T3):=by
 refine T.oC.F.kk T.oC.S λH vs Q E h=>?_;obtain⟨p,dx,op,v0,as,wl,x,y,rfl,W,k⟩:=h;refine⟨rfl,λhr=>?_⟩;refine⟨_,(X0 (S3 (Qj (yA qC (pv 1) A2 (U3 _)) (NK (BD (pv 0) T.pA.c T.Z7.M (lK T) hr.mo T.Z7.b .nil O1.passes (F0 (W4 vC (pv 1) A2) (F0 (pv 2) Z0))))))),?_⟩;refine⟨_,rfl,rfl,_,rfl,?_⟩;rw[show decide (V.int x=V.int 0)=decide (x=0)from P3.mpr ⟨λz=>by have:=V.int.inj z;lia,λz=>by rw[z];rfl⟩];by_cases h0:x=0
 .rw[F1 h0]at k ⊢;exact b7 (k _ (Same.refl _))
 .rw[Y0 h0]at k ⊢;refine S7 ⟨_,rfl,p,dx,_,rfl,W.at_,rfl,_,rfl,_,_,rfl,rfl,_,rfl,p,dx,op,v0,as,wl,x-1,y,?_,W,λH' s'=>k H' s'⟩;rw[show((x-1:Nat):Int)=(x:Int)-1 by lia];rfl
theorem He(T:oA Kq g9 aq):Fo Pq wq bq true T.eB 4 (Jm aq.zB aq.cB aq.T3):=by
 refine T.eB.F.kk T.eB.S λH vs Q E h=>?_;obtain⟨p,dx,op,q,c,v0,as,cs,wl,pt,l,rfl,W,⟨dq,hq⟩,hc,rows,yl,l1,k⟩:=h;refine⟨rfl,λhr=>?_⟩;refine⟨_,(T0 (RC 3 T.eB.S A2)
  (T0 (Q6 (V3 qC (Q2 (pv 1) rfl) A2 (U3 _)) (X0 (S3 (pv 3))) T4)
  (T0 (E8 O1.po rfl (L7 (O7 Z6 (pv 2) (W4 vC (Q2 (pv 1) rfl) A2) (λ_ _=>rfl))) (IM rfl (aA (SE 4 T.eB.S) (aA (SE 5 T.eB.S) gJ))) (T0 (RC 6 T.eB.S (aI DC DC (Q2 (pv 1) rfl) (pv 4) (W4 uC (Q2 (pv 1) rfl) (Q2 (pv 1) rfl))))
  (X0 (Q6 (PW.pt (uS (VC (pv 6)) (tN (gG (VC (JC T.oC (UO T) hr (F0 (pv 0) (F0 (pv 4) (F0 (W4 vC (Q2 (pv 1) rfl) A2) Z0))))))))) (X0 (RC 3 T.eB.S (W4 wZ (pv 3) (W4 yS A2 (W4 vC (pv 4) (Q2 (pv 1) rfl)))))) T4))))
  (X0 (S3 (pv 3)))))),?_⟩
 refine⟨_,rfl,q,_,dq,_,_,rfl,hq,T.l8.c,T.M9,rfl,rfl,_,rfl,?_⟩;rw[show decide (V.int pt.y=V.int 0)=decide (pt.y=0)from P3.mpr ⟨λz=>by have:=V.int.inj z;lia,λz=>by rw[z];rfl⟩];unfold ZY at k;by_cases y0:pt.y=0
 .rw[K0 y0]at k;rw[F1 y0];exact b7 ⟨_,rfl,k _ (Same.refl _)⟩
 rw[D0 y0]at k;rw[Y0 y0];refine S7 ?_;have yl2:pt.y-1<l.length:=by lia
 have el:l[pt.y-1]?=some l[pt.y-1]:=O0 yl2;have ed:l.getD (pt.y-1) []=l[pt.y-1]:=by rw[U2,el];rfl
 rw[ed]at k;generalize l[pt.y-1]=VG at el k;obtain⟨r,hr1,ts,Kr,tt⟩:=Paired.getR rows el;have Ly:=K1 tt;rw[B0]at Ly;refine⟨_,rfl,_,rfl,q,_,dq,_,_,rfl,hq,T.l8.c,T.M9,rfl,_,_,rfl,rfl,c,_,_,.ref r,rfl,rfl,SqL.of hc,NS (j:=pt.y-1) (by lia) (by rw[P1,hr1];rfl),r,rfl,⟨_,SqL.of Kr⟩,?_⟩;refine DA (K:=Kq) (a:=r) (xs:=ts.map V.ref) (λi σ H'=>E3 λ(v4 v5 v6:Option V)=>σ=[some (.ref p),some (.ref q),some (.ref c),some (.int ((bitsOf (YF wl pt (VG.take i)):Nat):Int)),v4,v5,v6]/\Same H H') ⟨none,none,none,rfl,Same.refl _⟩ (λi σ H' _ ⟨_,_,_,_,s⟩=>SqL.of (s _ _ Kr)) ?_ ?_
 .rintro i v σ H' hi ⟨v4,v5,v6,rfl,s1⟩;obtain⟨u,hu,rfl⟩:=b9 hi;obtain⟨zi,Zx,hu6⟩:=Paired.get tt hu;rw[P1]at Zx;obtain⟨z,hz,rfl⟩:∃z,VG[i]?=some z/\zi=pI z:=by
   cases e:VG[i]? with
   |none=>rw[e]at Zx;cases Zx
   |some z=>rw[e]at Zx;exact⟨z,rfl,(J0 Zx).symm⟩
  have hu1:=s1 _ _ hu6;have oK:=s1 _ _ hq;have W1:=W.same s1;refine⟨u,_,rfl,.inl (.inl hu1),rfl,_,_,rfl,_,_,rfl,rfl,?_⟩;have snoc:YF wl pt (VG.take (i+1))=YF wl pt (VG.take i)++if jM wl pt z.1=true then[z.1-pt.x]else[]:=by
   unfold YF;rw[Q3 hz,j7,V0];congr 1;cases hb:jM wl pt z.1 with
   |true=>rw[K0 rfl,i5,K0 hb];rfl
   |false=>rw[D0 (by decide),i5,D0 (by rw[hb];decide)];rfl
  have fp:Z4 (yH Kq (OF 1) "place") [some (.ref p),some (.ref q),some (.ref c),some (.int ((bitsOf (YF wl pt (VG.take i)):Nat):Int)),some (.int z.1),some (.int z.2),v6] H' (.int pt.x):=xB rfl oK T.l8.c T.sB rfl;have fl:Z4 (yH Kq (OF 1) "length") [some (.ref p),some (.ref q),some (.ref c),some (.int ((bitsOf (YF wl pt (VG.take i)):Nat):Int)),some (.int z.1),some (.int z.2),v6] H' (.int pt.long):=xB rfl oK T.l8.c T.XB rfl;refine Bj fp (jQ rfl) (QJ fp fl) _ ?_;have ew:(decide ((pt.x:Int)<=(z.1:Int))&&decide ((z.1:Int)<=(pt.x:Int)+(pt.long:Int)))=(decide (pt.x<=z.1)&&decide (z.1<=pt.x+pt.long)):=by
   rw[Z2];simp only[D1,P0]
   lia
  rw[ew];dsimp only[aH,aK,iR,jV];generalize Ye:(decide (pt.x<=z.1)&&decide (z.1<=pt.x+pt.long))=wi;refine Bm (x:=wi) (y:=!(decide (z.1=0)||wl.isOpen (z.1-1) (pt.y-1))) (λH5=>Same H' H5) (λR r'=>⟨_,rfl,_,rfl,r' _ (Same.refl _)⟩) (λ_ H5 s5 R r'=>?_) λH5 s5=>?_
  .have W5:=W1.same s5;refine⟨_,rfl,_,rfl,_,rfl,q,_,dq,_,_,rfl,s5 _ _ oK,T.l8.c,T.M9,rfl,_,_,rfl,rfl,p,dx,op,v0,as,wl,z.1,pt.y-1,?_,W5,λH6 s6=>⟨_,rfl,r' _ (s5.trans s6)⟩⟩;rw[show((pt.y-1:Nat):Int)=(pt.y:Int)-1 by lia];rfl
  .have s15:=s1.trans s5;have eo:(wi&&!(decide (z.1=0)||wl.isOpen (z.1-1) (pt.y-1)))=jM wl pt z.1:=by rw[<-Ye];rfl
   rw[eo];cases hb:jM wl pt z.1 with
   |false=>
    rw[hb,D0 (by decide),d3]at snoc;refine S7 ⟨some (.int z.1),some (.int z.2),some (.bl wi),?_,s15⟩;rw[snoc];rfl
   |true=>
    rw[hb,K0 rfl]at snoc;have hin:pt.x<=z.1/\z.1<=pt.x+pt.long:=by
     rw[hb,D1]at eo;have e1:=eo.1;rw[<-Ye,D1,P0,P0]at e1;exact e1
    refine b7 ⟨_,rfl,_,rfl,_,rfl,q,_,dq,_,_,rfl,s5 _ _ oK,T.l8.c,T.sB,rfl,_,_,rfl,rfl,_,_,rfl,rfl,?_,_,_,rfl,rfl,?_⟩
    .refine⟨?_,?_,by decide⟩
     .show(0:Int)<=(z.1:Int)-(pt.x:Int)
      lia
     .show(z.1:Int)-(pt.x:Int)<=1000000
      lia
    .refine⟨some (.int z.1),some (.int z.2),some (.bl wi),?_,s15⟩;show[some (V.ref p),some (V.ref q),some (V.ref c),some (V.int (Builtin.bitOr ((bitsOf (YF wl pt (VG.take i)):Nat):Int) ((1:Int)*2^((z.1:Int)-(pt.x:Int)).toNat))),some (V.int z.1),some (V.int z.2),some (V.bl wi)]=_;rw[show(z.1:Int)-(pt.x:Int)=((z.1-pt.x:Nat):Int) by lia,show(1:Int)=((1:Nat):Int)from rfl,cO,DI,snoc,tX,dE]
 .rintro σ H' ⟨v4,v5,v6,rfl,s1⟩;refine⟨_,rfl,?_⟩;rw[B0,Ly,V1];exact k _ s1
theorem Ow{o:Obj}{tb:TS}{D:MK}(Pv:Nat->L2.St->Hp->Prop) (h0:Pv 0 σ H) (hl:∀i σ H,i<=kvs.length->Pv i σ H->H d=some (.frz o (.dK kvs)))
 (hs:∀i k v σ H,kvs[i]?=some (k,v)->Pv i σ H->g (kV k) σ H λσ2 H2=>tb {D with nx:=Pv (i+1),ct:=Pv (i+1),bk:=D.nx} σ2 H2) (hd:∀σ H,Pv kvs.length σ H->D.nx σ H) :
   ∃W:Nat->Nat->L2.St->Hp->Prop,(∃m,W 0 m σ H)/\∀i m σ H,W i m σ H->
    ((Itk d o kvs).stop i H/\D.nx σ H)\/((Itk d o kvs).go i H/\∃N:L2.St->Hp->Prop,(∀σ' H',N σ' H'->∃m',m'<m/\W (i+1) m' σ' H')/\∀x H',(Itk d o kvs).yld i H x H'->g x σ H' λσ2 H2=>tb {D with nx:=N,ct:=N,bk:=D.nx} σ2 H2):=by
  refine⟨λi m σ H=>m=kvs.length-i/\i<=kvs.length/\Pv i σ H,⟨kvs.length,by simp,E1 _,h0⟩,?_⟩;rintro i m σ H ⟨rfl,hi,p⟩;have q:=hl i σ H hi p;by_cases UC:i<kvs.length
  .refine .inr ⟨⟨q,UC⟩,Pv (i+1),λσ' H' p'=>⟨kvs.length-(i+1),by lia,rfl,UC,p'⟩,λx H' y=>?_⟩;obtain⟨e,k,v,y,ex⟩:=y;subst e;subst ex;exact hs i k v σ _ y p
  .have e:i=kvs.length:=by lia
   subst e;exact .inl ⟨⟨q,j1 _⟩,hd σ H p⟩
theorem zaz{o:Obj}{tt:TT}{D:Addr}(Pv:Nat->Hp->Prop) (h0:Pv 0 (upd H1 D (.lst []))) (hl:∀i H,i<=kvs.length->Pv i H->H d=some (.frz o (.dK kvs)))
 (hs:∀i k v H,kvs[i]?=some (k,v)->Pv i H->g (kV k) (T8 σ vs) H λσ2 H2=>T8 σ2 vs=T8 σ vs/\tt σ2 H2 λb H3=>
 if b=true then te σ2 H3 λy H4=>∃acc,H4 D=some (.lst acc)/\acc.length<sizeLine/\Pv (i+1) (upd H4 D (.lst (acc++[y])))else Pv (i+1) H3) (hd:∀H,Pv kvs.length H->Qd H) :
   ∃W:Nat->Nat->Hp->Prop,(∃m,W 0 m (upd H1 D (.lst [])))/\∀i m H,W i m H->
    ((Itk d o kvs).stop i H/\Qd H)\/((Itk d o kvs).go i H/\∃Nx:Hp->Prop,(∀H',Nx H'->∃m',m'<m/\W (i+1) m' H')/\∀x H',(Itk d o kvs).yld i H x H'->g x (T8 σ vs) H' λσ2 H2=>T8 σ2 vs=T8 σ vs/\tt σ2 H2 λb H3=>
      if b=true then te σ2 H3 λy H4=>∃acc,H4 D=some (.lst acc)/\acc.length<sizeLine/\Nx (upd H4 D (.lst (acc++[y])))else Nx H3):=by
  refine⟨λi m H=>m=kvs.length-i/\i<=kvs.length/\Pv i H,⟨kvs.length,by simp,E1 _,h0⟩,?_⟩;rintro i m H ⟨rfl,hi,p⟩;have q:=hl i H hi p;by_cases UC:i<kvs.length
  .refine .inr ⟨⟨q,UC⟩,Pv (i+1),λH' p'=>⟨kvs.length-(i+1),by lia,rfl,UC,p'⟩,λx H' y=>?_⟩;obtain⟨e,k,v,y,ex⟩:=y;subst e;subst ex;exact hs i k v _ y p
  .have e:i=kvs.length:=by lia
   subst e;exact .inl ⟨⟨q,j1 _⟩,hd H p⟩
inductive Km(K:Frag)(vs:List V)(H:Hp)(Q:VK)(E':XK):Prop
 |mk (p:Addr) (r:Bd.Row):vs=[.ref p]->S9 K H p ((rI r).map V.int)->r.length<=1000->(∀H':Hp,Same H H'->Q (.int (lengthOf r)) H')->Km K vs H Q E'
inductive Lm(K:Frag)(vs:List V)(H:Hp)(Q:VK)(E':XK):Prop
 |mk (l:Addr) (r:Bd.Row):vs=[.ref l]->S9 K H l ((rI r).map V.int)->r.length<=1000->(∀H':Hp,Same H H'->Q (.int (cutsOf r)) H')->Lm K vs H Q E'
def nL(l:List Nat):List V:=l.map λn=>V.int ((n:Nat):Int)
inductive Ie(vs:List V)(H:Hp)(Q:VK)(E':XK):Prop
 |mk (n:Nat):vs=[.int n]->n<2^64->(∀(H':Hp)(q:Addr),Same H H'->H' q=some (.lst (nL (O5 n)))->Q (.ref q) H')->Ie vs H Q E'
inductive zbv(vs:List V)(H:Hp)(Q:VK)(E':XK):Prop
 |mk (n:Nat):vs=[.int n]->0<n->(∀l:Nat,n.testBit l=true->(∀j<l,n.testBit j=false)->Q (.int l) H)->zbv vs H Q E'
def Zq(r:Bd.Row):List Int:=r.map λp=>((p.length:Nat):Int)
theorem Je:∀r:Bd.Row,(Zq r).sum=(lengthOf r:Int)
 |[]=>rfl
 |p::r=>by
  show(p.length:Int)+(Zq r).sum=_;rw[Je r,F3]
  push_cast
  rfl
theorem PL(h:n≠0):Builtin.Int.intBits (n:Int)=n.log2+1:=by
 unfold Builtin.Int.intBits;rw[D0 (by simpa using h)];rfl
theorem zdd(n x:Nat):((n >>> x)&&&1=1)↔n.testBit x=true:=by
 rw[Nat.testBit];constructor
 .intro h;rw[CJ,h];rfl
 .intro h;have:(1&&&(n >>> x))≠0:=by simpa using h
  rw[CJ]at this;have l:(n >>> x)&&&1<=1:=Nat.and_le_right
  lia
theorem zaA(n:Nat)(h:0<n):Builtin.bitAnd (n:Int) (-(n:Int))=((n-(n&&&(n-1)):Nat):Int):=by
 unfold Builtin.bitAnd;rw[F1 (show(0:Int)<=(n:Int) by lia),Y0 (show ¬(0:Int)<=-(n:Int) by lia)];dsimp only;have e:(Builtin.bitNot (-(n:Int))).toNat=n-1:=by
  unfold Builtin.bitNot
  lia
 have l:n&&&(n-1)<=n:=gK;rw[e,P4]
 lia
theorem aZ(r s:Bd.Row):(rI r).map V.int++(rI s).map V.int=(rI (r++s)).map V.int:=by
 unfold rI;rw[V0,V0]
theorem VO(T:oA Kq g9 aq):Fo Pq wq bq true T.OB 1 (Km Kq):=by
 refine T.OB.F.kk T.OB.S λH vs Q E h=>?_;obtain⟨p,r,rfl,hp,r1,k⟩:=h;refine⟨rfl,λhr=>?_⟩;have zl:=gN;refine⟨_,(X0 (S3 (FA (zcp rfl) rfl T.ze6 zc0 (F0 (bD O1 rfl rfl (own:=[("piece",1)]) rfl T.OB.S.nd (eP (pv 0)) (WW ["row","piece"] (Z3 JQ) [("piece",1)]) (λtk=>(SE 1 T.OB.S)) (λtk=>cA) (λtk=>(O7 (zau (K:=Kq) rfl) (aC (v:=.ref aq.rB) rfl T.gM rfl) (pv 1) (λ_ _=>rfl)))) Z0)))),?_⟩;refine⟨_,rfl,p,rfl,⟨_,hp⟩,λD hD=>?_⟩;refine VX (K:=Kq) (a:=p) (xs:=(rI r).map V.int) (λi H'=>H'=upd H D (.lst ((Zq (r.take i)).map V.int))) rfl (λi H' _ e=>by rw[e];exact((Same.refl _).new hD).tup hp) ?_ ?_
 .rintro i v H' hi rfl;obtain⟨pc,Ny,rfl⟩:=SU hi;have il:=(N0.mp Ny).1;have ln:(Zq (r.take i)).length<=1000:=by
   unfold Zq;rw[B0,Z1]
   lia
  refine⟨rfl,?_⟩;dsimp only[Hg];rw[K0 rfl];refine⟨_,rfl,aq.rB,_,_,_,rfl,rfl,T.iM _,S5 (rS pc),_,C0,?_,?_⟩
  .rw[B0]
   lia
  .rw[V4,Q3 Ny];unfold Zq;rw[V0,V0];rfl
 .rintro H2 rfl;rw[N9,V1];refine⟨D,_,rfl,SqL.of C0,?_⟩;rw[Je];exact k _ ((Same.refl _).new hD)
theorem oN(T:oA Kq g9 aq):Fo Pq wq bq true T.vD 1 (Lm Kq):=by
 refine T.vD.F.kk T.vD.S λH vs Q E h=>?_;obtain⟨l,r,rfl,hl,r1,k⟩:=h;refine⟨rfl,λhr=>?_⟩;have zl:=gN;refine⟨_,(X0 (S3 (oS T.UA (bD O1 rfl rfl (own:=[("piece",1)]) rfl T.vD.S.nd (eP (pv 0)) (WW ["row","piece"] (Z3 XW) [("piece",1)]) (λtk=>(SE 1 T.vD.S)) (λtk=>(TX (V3 za7 (pv 1) (qG T.Yc) (U3 _)))) (λtk=>(pv 1)))))),?_⟩;refine⟨_,rfl,l,rfl,⟨_,hl⟩,λD hD=>?_⟩;refine VX (K:=Kq) (a:=l) (xs:=(rI r).map V.int) (λi H'=>H'=upd H D (.lst ((rI ((r.take i).filter Piece.isCut)).map V.int))) rfl (λi H' _ e=>by rw[e];exact((Same.refl _).new hD).tup hl) ?_ ?_
 .rintro i v H' hi rfl;obtain⟨pc,hp,rfl⟩:=SU hi;have il:=(N0.mp hp).1;refine⟨rfl,_,rfl,_,_,rfl,rfl,_,rfl,?_⟩;have ep:decide ((2:Int)<=(pc.rank:Int))=pc.isCut:=by
   unfold Piece.isCut;exact P3.mpr (by lia)
  rw[ep];have snoc:(r.take (i+1)).filter Piece.isCut=(r.take i).filter Piece.isCut++if pc.isCut=true then[pc]else[]:=by
   rw[Q3 hp,j7,i5];rfl
  cases hb:pc.isCut with
  |true=>
   rw[hb,K0 rfl]at snoc;have rl:=t8 Piece.isCut (r.take i);rw[Z1]at rl;refine b7 ⟨_,rfl,_,C0,(by rw[N9];lia),?_⟩;rw[V4,snoc,<-aZ];rfl
  |false=>
   rw[hb,D0 (by decide),d3]at snoc;refine S7 ?_;rw[snoc]
 .rintro H2 rfl;rw[N9,V1];refine⟨D,_,rfl,.inl (SqL.of C0),?_⟩;rw[N9];exact k _ ((Same.refl _).new hD)
theorem WO(T:oA Kq g9 aq):Fo Pq wq bq true T.PB 1 Ie:=by
 refine T.PB.F.kk T.PB.S λH vs Q E h=>?_;obtain⟨n,rfl,hn,k⟩:=h;refine⟨rfl,λhr=>?_⟩;have zl:=gN;have lb:Builtin.Int.intBits (n:Int)<=64:=by
  by_cases c:n=0
  .subst c;exact E1 _
  .rw[PL c];exact(Nat.log2_lt c).mpr hn
 have fin:∀m:Nat,m=Builtin.Int.intBits (n:Int)->(List.range m).filter (λx=>n.testBit x)=O5 n:=λm e=>by
  unfold O5;by_cases c:n=0
  .subst c;have:m=0:=e;subst this;rfl
  .rw[PL c]at e;rw[e]
 refine⟨_,(X0 (S3 (bD O1 rfl rfl (own:=[("place",1)]) rfl T.PB.S.nd (ZH rfl T.wH (F0 (Ml (pv 0)) Z0)) (WW ["places","place"] (Z3 KQ) [("place",1)]) (λtk=>(SE 1 T.PB.S)) (λtk=>(TX (V3 qC (W4 JX (W4 Ms (pv 0) (pv 1)) A2) A2 (U3 _)))) (λtk=>(pv 1))))),?_⟩;refine⟨_,rfl,_,rfl,_,rfl,by lia,by lia,λD hD=>?_⟩;rw[P4];refine IS (lo:=0) (n:=Builtin.Int.intBits (n:Int)) (λi H'=>H'=upd H D (.lst (nL ((List.range i).filter λx=>n.testBit x)))) rfl ?_ ?_
 .rintro i H' hi rfl;have ei:(0:Int)+(i:Int)=(i:Int):=by lia
  rw[ei];refine⟨rfl,_,rfl,_,rfl,_,_,rfl,rfl,by show(0:Int)<=(i:Int);lia,_,_,rfl,rfl,rfl,_,rfl,?_⟩;have snoc:(List.range (i+1)).filter (λx=>n.testBit x)=(List.range i).filter (λx=>n.testBit x)++if n.testBit i=true then[i]else[]:=by
   rw[SC,j7,i5];rfl
  have et:decide (V.int (Builtin.bitAnd ((n:Int)/2^((i:Int)).toNat) 1)=V.int 1)=n.testBit i:=by
   rw[Jl,show(1:Int)=((1:Nat):Int)from rfl,JT,Z2,P0,<-zdd];exact⟨λq=>by have:=V.int.inj q;lia,λq=>by rw[q]⟩
  show if (decide (V.int (Builtin.bitAnd ((n:Int)/2^((i:Int)).toNat) 1)=V.int 1))=true then _ else _
  rw[et];have fl:=t8 (λx=>n.testBit x) (List.range i);rw[T7]at fl;cases hb:n.testBit i with
  |true=>
   rw[hb,K0 rfl]at snoc;refine b7 ⟨_,rfl,_,C0,(by unfold nL;rw[B0];lia),?_⟩;rw[V4,snoc];unfold nL;rw[V0];rfl
  |false=>
   rw[hb,D0 (by decide),d3]at snoc;refine S7 ?_;rw[snoc]
 .rintro H2 rfl;rw[fin _ rfl];exact k _ D ((Same.refl _).new hD) C0
theorem XV(T:oA Kq g9 aq):Fo Pq wq bq true T.XF 1 zbv:=by
 refine T.XF.F.kk T.XF.S λH vs Q E h=>?_;obtain⟨n,rfl,h0,k⟩:=h;refine⟨rfl,λhr=>?_⟩;refine⟨_,(X0 (S3 (W4 vC (Ml (W4 JX (pv 0) (bK jG (pv 0)))) A2))),?_⟩;obtain⟨l,g1,g2,g3⟩:=zao h0;refine⟨_,rfl,_,rfl,_,rfl,_,_,rfl,rfl,_,rfl,_,_,rfl,rfl,?_⟩;show Q (V.int (((Builtin.Int.intBits (Builtin.bitAnd (n:Int) (-(n:Int))):Nat):Int)-1)) H;rw[zaA n h0,g3,PL (by have:=mK l;lia),Nat.log2_two_pow,show((l+1:Nat):Int)-1=(l:Int) by lia];exact k l g1 g2
def Mm(r:Bd.Row)(q:Addr)(av:V)(l:List Bd.Row):List (Str×V):=[("row",.ref q),("joints",.int (G6 r)),("above",av),("cuts",.int (cutsIn (r::l))),("pieces",.int (piecesIn (r::l)))]
def sA(K:Frag)(C:Addr)(H:Hp):List Bd.Row->V->Prop
 |[],v=>v=.non
 |r::l,v=>∃(q dx rw:Addr)(av:V),v=.ref q/\H q=some (.ins C dx (Mm r rw av l))/\S9 K H rw ((rI r).map V.int)/\sA K C H l av
theorem sA.keep{K:Frag}(h1:∀b C' dx fs,H b=some (.ins C' dx fs)->C'=C->H' b=some (.ins C' dx fs)) (h2:∀b xs,S9 K H b xs->S9 K H' b xs):∀{l:List Bd.Row}{v:V},sA K C H l v->sA K C H' l v
 |[],_,h=>h
 |r::l,v,⟨q,dx,rw,av,e,a1,a2,a3⟩=>⟨q,dx,rw,av,e,h1 _ _ _ _ a1 rfl,h2 _ _ a2,sA.keep h1 h2 a3⟩
theorem sA.same{K:Frag}(s:Same H H') (h:sA K C H l v):sA K C H' l v:=h.keep (λb C' dx fs q _=>s _ _ q) λb xs q=>s.tup q
def QG(K:Frag)(C:Addr)(H:Hp):List Addr->List (List Bd.Row)->Prop:=Paired λp l=>sA K C H l (.ref p)
theorem QG.same{K:Frag}{ls:List (List Bd.Row)}(s:Same H H') (h:QG K C H ps ls):QG K C H' ps ls:=Paired.mapP h λ_ _ q=>q.same s
inductive Nm(K:Frag)(C:Addr)(vs:List V)(H:Hp)(Q:VK)(E':XK):Prop
 |mk (p dx rw:Addr) (r:Bd.Row) (j:Nat) (av:V) (l:List Bd.Row):vs=[.ref p,.ref rw,.int j,av]->H p=some (.ins C dx [])->S9 K H rw ((rI r).map V.int)->r.length<=1000->j=G6 r->sA K C H l av->(∀H':Hp,H' p=some (.ins C dx (Mm r rw av l))->(∀b o,b≠p->H b=some o->H' b=some o)->Q .non H')->Nm K C vs H Q E'
def CM:List Bd.Row->List KI
 |[]=>[]
 |r::l=>[.inl (cutsIn (r::l):Int),.inl (piecesIn (r::l):Int),.inr (rI r)]
inductive Om(K:Frag)(C:Addr)(vs:List V)(H:Hp)(Q:VK)(E':XK):Prop
 |mk (p:Addr) (r:Bd.Row) (l:List Bd.Row):vs=[.ref p]->sA K C H (r::l) (.ref p)->(∀(H':Hp)(v:V),Same H H'->zC K H' (CM (r::l)) v->Q v H')->Om K C vs H Q E'
inductive Ke(K:Frag)(C:Addr)(vs:List V)(H:Hp)(Q:VK)(E':XK):Prop
 |mk (v:V) (l:List Bd.Row):vs=[v]->sA K C H l v->l.length<=1000->(∀(H':Hp)(q:Addr)(ts:List Addr),Same H H'->H q=none->H' q=some (.lst (ts.map V.ref))->Paired (λt r=>S9 K H' t ((rI r).map V.int)) ts l->Q (.ref q) H')->Ke K C vs H Q E'
def rk(z:Nat×Piece):Nat×Nat:=(z.1,z.2.rank)
inductive wX(K:Frag)(vs:List V)(H:Hp)(Q:VK)(E':XK):Prop
 |mk (p:Addr) (r:Bd.Row) (x:Nat):vs=[.ref p,.int x]->S9 K H p ((rI r).map V.int)->r.length<=1000->(∀(H':Hp)(q:Addr)(ts:List Addr),Same H H'->H' q=some (.lst (ts.map V.ref))->LB H' ts ((Bd.placed x r).map λz=>pI (rk z))->Q (.ref q) H')->wX K vs H Q E'
theorem Le{p:Piece}(h:r[i]?=some p):∀x,Bd.placed x (r.take (i+1))=Bd.placed x (r.take i)++[(x+lengthOf (r.take i),p)]:=by
 induction r generalizing i with
 |nil=>simp at h
 |cons q r ih=>
  intro x;cases i with
  |zero=>
   obtain rfl:q=p:=by simpa using h
   rfl
  |succ i=>
   show(x,q)::Bd.placed (x+q.length) (r.take (i+1))=(x,q)::(Bd.placed (x+q.length) (r.take i)++_);rw[ih (by simpa using h),CA,F3,Nat.add_assoc]
theorem aJ(T:oA Kq g9 aq):Mo g9 Pq wq bq true T.f9 2 (Nm Kq aq.V7):=by
 refine T.f9.F.kk T.f9.S λH vs Q E h=>?_;obtain⟨p,dx,q,r,j,av,l,rfl,hp,hq,r1,rfl,pa,k⟩:=h;refine⟨rfl,λhr=>?_⟩;refine⟨_,(T0 (r6 (pv 0) (pv 1) rfl)
  (T0 (r6 (pv 0) (pv 2) rfl)
  (T0 (r6 (pv 0) (pv 3) rfl)
  (T0 (r6 (pv 0) (JC T.vD (oN T) hr (F0 (pv 1) Z0)) rfl)
  (T0 (r6 (pv 0) (oS T.UA (pv 1)) rfl)
  (X0 (Q6 (V3 Xj (pv 3) IX (U3 _)) (T0 (jP (pv 0) (Q2 (pv 3) rfl) Vf)
  (X0 (jP (pv 0) (Q2 (pv 3) rfl) Vf))) T4))))))),?_⟩
 have nt:∀{G:Hp}{fs Dx:List (Str×V)}{xs:List V}{b:Addr},G p=some (.ins aq.V7 dx fs)->S9 Kq G b xs->S9 Kq (upd G p (.ins aq.V7 dx Dx)) b xs:=λ{G fs Dx xs b} hG z=>by
  rcases z with z|z
  .rcases z with z|⟨o,z⟩
   .exact .inl (.inl (by rw[M0 (λy=>by rw[y,hG]at z;cases z)];exact z))
   .exact .inl (.inr ⟨o,by rw[M0 (λy=>by rw[y,hG]at z;cases z)];exact z⟩)
  .exact .inr z
 refine⟨_,rfl,_,rfl,p,_,dx,_,rfl,hp,T.KA.c,T.fN,(by show 0<1000;decide),?_⟩;refine⟨_,rfl,_,rfl,p,_,dx,_,rfl,C0,T.KA.c,T.TH,(by show 1<1000;decide),?_⟩;rw[V4];refine⟨_,rfl,_,rfl,p,_,dx,_,rfl,C0,T.KA.c,T.yO,(by show 2<1000;decide),?_⟩;rw[V4];refine⟨_,rfl,q,r,rfl,nt hp hq,r1,λH1 s1=>?_⟩;have hp1:=s1 _ _ C0;have ot:∀b o,b≠p->H b=some o->H1 b=some o:=λb o nb e=>s1 _ _ (by rw[M0 nb];exact e);refine⟨_,rfl,p,_,dx,_,rfl,hp1,T.KA.c,T.vH,(by show 3<1000;decide),?_⟩;have oK:S9 Kq H1 q ((rI r).map V.int):=s1.tup (nt hp hq);refine⟨_,rfl,q,_,rfl,.inr (nt hp1 oK),_,rfl,p,_,dx,_,rfl,C0,T.KA.c,T.WE,(by show 4<1000;decide),?_⟩;rw[V4,N9];refine⟨_,rfl,rfl,_,rfl,?_⟩;cases l with
 |nil=>
  obtain rfl:av=.non:=pa;refine S7 ?_;refine k _ ?_ (λb o nb e=>by rw[M0 nb];exact ot b o nb e);rw[C0];unfold Mm;rw[JB,qB];rfl
 |cons s l=>
  obtain⟨q2,Mj,rw2,av2,rfl,e1,e2,e3⟩:=pa;refine b7 ?_;have n2:q2≠p:=λz=>by
   rw[z,hp]at e1;have:=P7 (λo=>match o with|some (HO.ins _ _ fs)=>fs.length|_=>0) e1;simp[Mm]at this
  have g1:=ot q2 _ n2 e1;refine⟨_,rfl,p,_,dx,_,_,rfl,C0,T.KA.c,T.vH,rfl,_,rfl,q2,_,Mj,_,_,rfl,(by rw[M0 n2];exact g1),T.KA.c,T.vH,rfl,_,_,rfl,rfl,dx,_,C0,(by show 5<1000;decide),?_⟩;rw[V4];refine⟨_,rfl,p,_,dx,_,_,rfl,C0,T.KA.c,T.WE,rfl,_,rfl,q2,_,Mj,_,_,rfl,(by rw[M0 n2];exact g1),T.KA.c,T.WE,rfl,_,_,rfl,rfl,dx,_,C0,(by show 5<1000;decide),?_⟩;rw[V4];refine k _ ?_ (λb o nb e=>by rw[M0 nb];exact ot b o nb e);rw[C0];congr 2
  try exact(P7 (lG "pieces" _) (putF_cuts r q (.ref q2) (s::l) _)).trans (putF_pieces r q (.ref q2) (s::l))
theorem dR(T:oA Kq g9 aq):Fo Pq wq bq true T.jD 1 (Om Kq aq.V7):=by
 refine T.jD.F.kk T.jD.S λH vs Q E h=>?_;obtain⟨p,r,l,rfl,⟨q,dx,rw,av,e,a1,a2,a3⟩,k⟩:=h;refine⟨rfl,λhr=>?_⟩;cases e;refine⟨_,(X0 (S3 (AD (F0 (Q2 (pv 0) rfl) (F0 (Q2 (pv 0) rfl) (F0 (Q2 (pv 0) rfl) Z0)))))),?_⟩;refine⟨_,rfl,p,_,dx,_,_,rfl,a1,T.KA.c,T.vH,rfl,_,rfl,p,_,dx,_,_,rfl,a1,T.KA.c,T.WE,rfl,_,rfl,p,_,dx,_,_,rfl,a1,T.KA.c,T.fN,rfl,(by show 3<=sizeLine;decide),λt ht=>?_⟩;have s1:=(Same.refl H).new (o:=HO.tup [.int (cutsIn (r::l)),.int (piecesIn (r::l)),.ref rw]) ht;exact k _ _ s1 ⟨t,_,rfl,.inl (.inl C0),.cons rfl (.cons rfl (.cons ⟨rw,rfl,s1.tup a2⟩ .nil))⟩
theorem Dj(T:oA Kq g9 aq):Fo Pq wq bq true T.dG 1 (Ke Kq aq.V7):=by
 refine T.dG.F.kk T.dG.S λH vs Q E h=>?_;obtain⟨v,l,rfl,pa,l1,k⟩:=h;refine⟨rfl,λhr=>?_⟩;have zl:=gN;refine⟨_,(T0 (RC 1 T.dG.S (d6 Z0))
  (T0 (uN O1.po (V3 Xj (pv 0) IX (U3 _)) (T0 (L6 (mE P2 K3 L3 V9 (pv 1) (F0 (Q2 (pv 0) rfl) Z0)))
  (X0 (RC 0 T.dG.S (Q2 (pv 0) rfl)))))
  (X0 (S3 (pv 1))))),?_⟩
 refine⟨E1 _,λq nq=>?_⟩;refine vN (λσ H'=>E3 λ(i:Nat)(v:V)(ts:List Addr)=>A5 (i<=l.length) (σ=[some v,some (.ref q)]) (sA Kq aq.V7 H (l.drop i) v) (H'=upd H q (.lst (ts.map V.ref))) (Paired (λt r=>S9 Kq H t ((rI r).map V.int)) ts (l.take i))) (λ_ H'=>match H' q with
  |some (.lst xs)=>l.length-xs.length
  |_=>0) ⟨0,v,[],E1 _,rfl,pa,rfl,.nil⟩ ?_ ?_
 case refine_2=>exact λσ H' R R' m ⟨v,e,e2,b,e3,z⟩=>⟨v,e,e2,b,e3,m _ _ z⟩
 rintro σ H' ⟨i,v,ts,hi,rfl,pa',rfl,pt⟩;have Ly:=K1 pt;rw[Z1]at Ly;have sq:Same H (upd H q (.lst (ts.map V.ref))):=(Same.refl _).new nq;refine⟨_,rfl,rfl,_,rfl,?_⟩;cases hd:l.drop i with
 |nil=>
  rw[hd]at pa';obtain rfl:v=.non:=pa';refine S7 ⟨_,rfl,?_⟩;have e:i=l.length:=by
   have z:=P7 List.length hd;rw[eC,F6]at z
   lia
  rw[e,V1]at pt;exact k _ q ts sq nq C0 (Paired.mapP pt λ_ _ z=>sq.tup z)
 |cons r N7=>
  rw[hd]at pa';obtain⟨p,dx,rw,av,rfl,a1,a2,a3⟩:=pa';have il:i<l.length:=by
   have z:=P7 List.length hd;rw[eC,M1]at z
   lia
  have er:l[i]?=some r:=by
   have z:=P7 List.head? hd;rw[List.head?_drop]at z;exact z
  refine b7 ?_;refine⟨_,rfl,.inl ⟨rfl,_,SqL.of C0⟩,_,rfl,p,_,dx,_,_,rfl,sq _ _ a1,T.KA.c,T.fN,rfl,q,_,_,rfl,rfl,C0,(by rw[B0];lia),?_⟩;rw[V4];refine⟨_,rfl,p,_,dx,_,_,rfl,(by rw[M0 (C1 a1 nq)];exact a1),T.KA.c,T.yO,rfl,?_⟩;refine⟨⟨i+1,av,ts++[rw],il,rfl,?_,by rw[V0];rfl,?_⟩,?_⟩
  .have z:l.drop (i+1)=N7:=by
    have y:=P7 List.tail hd;rw[List.tail_drop]at y;exact y
   rw[z];exact a3
  .rw[Q3 er];exact K4 pt a2
  show(match upd H q (.lst (ts.map V.ref++[.ref rw])) q with
   |some (.lst xs)=>l.length-xs.length
   |_=>0)<(match upd H q (.lst (ts.map V.ref)) q with
   |some (.lst xs)=>l.length-xs.length
   |_=>0)
  rw[C0,C0];show l.length-(ts.map V.ref++[V.ref rw]).length<l.length-(ts.map V.ref).length;rw[Y1,B0,m8]
  lia
theorem Me(T:oA Kq g9 aq):Fo Pq wq bq true T.RB 1 (wX Kq):=by
 refine T.RB.F.kk T.RB.S λH vs Q E h=>?_;obtain⟨p,r,x,rfl,hp,r1,k⟩:=h;refine⟨rfl,λhr=>?_⟩;have zl:=gN;refine⟨_,(T0 (RC 2 T.RB.S (d6 Z0))
  (T0 (RC 3 T.RB.S (pv 1))
  (T0 (E8 O1.po rfl (eP (pv 0)) (SE 4 T.RB.S) (T0 (L6 (mE P2 K3 L3 V9 (pv 2) (F0 (AD (F0 (pv 3) (F0 (pv 4) Z0))) Z0)))
  (X0 (psa 3 T.RB.S (O7 XC (aC (v:=.ref aq.rB) rfl T.gM rfl) (pv 4) (λ_ _=>rfl)) wS))))
  (X0 (S3 (pv 2)))))),?_⟩
 refine⟨E1 _,λq nq=>?_⟩;refine⟨_,rfl,?_⟩;have s0':Same H (upd H q (.lst [])):=(Same.refl _).new nq;refine⟨_,rfl,p,rfl,⟨_,s0'.tup hp⟩,Rj (K:=Kq) (a:=p) (xs:=(rI r).map V.int) (λi σ H'=>E2 λ(v4:Option V)(ts:List Addr)=>A4 (σ=[some (.ref p),some (.int x),some (.ref q),some (.int ((x+lengthOf (r.take i):Nat):Int)),v4]) (Same H H') (H' q=some (.lst (ts.map V.ref))) (LB H' ts ((Bd.placed x (r.take i)).map λz=>pI (rk z))))
  ⟨none,[],rfl,s0',C0,.nil⟩ (by rintro i σ H' _ ⟨_,_,_,s1,_⟩;exact s1.tup hp) ?_ ?_⟩
 .rintro i v σ H' hi ⟨v4,ts,rfl,s1,oK,tt⟩;obtain⟨pc,Ny,rfl⟩:=SU hi;have il:=(N0.mp Ny).1;have Ly:=K1 tt;have pl:∀(x:Nat)(r:Bd.Row),(Bd.placed x r).length=r.length:=λx r=>by
   have z:=P7 List.length (DJ x r);rw[B0]at z;exact z
  rw[B0,pl,Z1]at Ly;refine⟨_,rfl,.inl ⟨rfl,_,SqL.of oK⟩,_,rfl,_,rfl,(by show 2<=sizeLine;decide),λt nt=>?_⟩;have Jy:upd H' t (.tup [.int ((x+lengthOf (r.take i):Nat):Int),.int pc.rank]) q=some (.lst (ts.map V.ref)):=by rw[M0 (C1 oK nt)];exact oK
  refine⟨q,_,_,rfl,rfl,Jy,(by rw[B0];lia),?_⟩;refine⟨_,rfl,_,rfl,aq.rB,_,_,_,rfl,rfl,T.iM _,S5 (rS pc),_,_,rfl,rfl,?_⟩;have nq':q≠t:=C1 oK nt;refine⟨some (.int pc.rank),ts++[t],?_,?_,?_,?_⟩
  .have e1:=Q3 Ny;have e2:lengthOf (r.take (i+1))=lengthOf (r.take i)+pc.length:=by rw[e1,BM]
   have c1:((x+lengthOf (r.take i):Nat):Int)+(pc.length:Int)=((x+lengthOf (r.take (i+1)):Nat):Int):=by rw[e2];lia
   show[some (V.ref p),some (V.int x),some (V.ref q),some (V.int (((x+lengthOf (r.take i):Nat):Int)+(pc.length:Int))),some (V.int pc.rank)]=_;rw[c1]
  .exact(s1.new nt).set nq
  .rw[V0];exact C0
  .rw[Le Ny,V0];refine K4 (Paired.mapP tt λt' z e=>?_) ?_
   .rw[M0 (λz=>by rw[z,oK]at e;cases e),M0 (C1 e nt)];exact e
   .rw[M0 nq'.symm,C0];rfl
 .rintro σ H' ⟨v4,ts,rfl,s1,oK,tt⟩;rw[N9,V1]at tt;exact⟨_,rfl,k _ q ts s1 oK tt⟩
def Q5(K:Frag)(H:Hp):List Addr->List Bd.Row->Prop:=Paired λt r=>S9 K H t ((rI r).map V.int)
theorem Q5.same{K:Frag}(s:Same H H') (h:Q5 K H ts l):Q5 K H' ts l:=Paired.mapP h λ_ _ q=>s.tup q
theorem Q5.len{K:Frag}(h:Q5 K H ts l):ts.length=l.length:=K1 h
theorem Q5.app{K:Frag}{us:List Addr}(h:Q5 K H ts l) (h2:Q5 K H us m):Q5 K H (ts++us) (l++m):=by
 induction h with
 |nil=>exact h2
 |cons a _ ih=>exact .cons a ih
theorem Q5.set{K:Frag}(hq:H q=some (.lst xs)) (h:Q5 K H ts l):Q5 K (upd H q (.lst ys)) ts l:=Paired.mapP h λ_ _ z=>zF hq z
theorem Ej(h:b.courses≠[])(k:Nat):b.courses[k%b.courses.length]?=some (b.course k):=by
 have l:k%b.courses.length<b.courses.length:=PM _ (c5.mpr h);unfold Bond.course;rw[U2,O0 l];rfl
inductive Qm(K:Frag)(C:Addr)(vs:List V)(H:Hp)(Q:VK)(E':XK):Prop
 |mk (p dx mk pp:Addr) (ps:List Addr) (b:Bond) (k:Nat):vs=[.ref p,.int k]->VH K C H p dx mk pp ps b->b.courses≠[]->(∀q:Addr,H q=some (.tup ((rI (b.course k)).map V.int))->Q (.ref q) H)->Qm K C vs H Q E'
def BF(mk:Bd.Row)(l:List Bd.Row):List Bd.Row:=l.flatMap λr=>mk.map λp=>r++[p]
def DB(mk:Bd.Row):Nat->List Bd.Row
 |0=>[[]]
 |n+1=>BF mk (DB mk n)
def QL(mk:Bd.Row):Nat->List Bd.Row
 |0=>[[]]
 |n+1=>QL mk n++DB mk (n+1)
theorem VJ(mk:Bd.Row):∀l:List Bd.Row,(BF mk l).length=l.length*mk.length
 |[]=>by simp[BF]
 |r::l=>by
  show((mk.map λp=>r++[p])++BF mk l).length=_;rw[Y1,B0,VJ mk l,M1,Nat.add_mul,Nat.one_mul,Nat.add_comm]
theorem bJ(mk:Bd.Row):∀(n:Nat)(r:Bd.Row),r∈DB mk n↔r.length=n/\∀p∈r,p∈mk
 |0,r=>by
  show r∈[[]]↔_;rw[Q1];exact⟨λe=>by rw[e];exact⟨rfl,λp h=>by cases h⟩,λh=>X3.mp h.1⟩
 |n+1,r=>by
  show r∈BF mk (DB mk n)↔_;unfold BF;rw[u7];constructor
  .rintro⟨s,hs,h⟩;obtain⟨p,hp,rfl⟩:=S2.mp h;obtain⟨h1,h2⟩:=(bJ mk n s).mp hs;refine⟨by rw[Y1,h1];rfl,λq hq=>?_⟩;rcases N2.mp hq with m|m
   .exact h2 q m
   .rw[Q1.mp m];exact hp
  .rintro⟨h1,h2⟩;have JK:r≠[]:=λe=>by rw[e]at h1;simp at h1
   refine⟨r.dropLast,(bJ mk n _).mpr ⟨by rw[List.length_dropLast];lia,λp hp=>h2 p (List.dropLast_subset r hp)⟩,S2.mpr ⟨r.getLast JK,h2 _ (List.getLast_mem JK),lB JK⟩⟩
theorem UU(mk:Bd.Row):∀(n:Nat)(r:Bd.Row),r∈QL mk n↔r.length<=n/\∀p∈r,p∈mk
 |0,r=>by
  show r∈[[]]↔_;rw[Q1];exact⟨λe=>by rw[e];exact⟨j1 _,λp h=>by cases h⟩,λh=>X3.mp (by lia)⟩
 |n+1,r=>by
  show r∈QL mk n++DB mk (n+1)↔_;rw[N2,UU mk n,bJ];constructor
  .rintro(⟨h1,h2⟩|⟨h1,h2⟩)
   .exact⟨by lia,h2⟩
   .exact⟨by lia,h2⟩
  .rintro⟨h1,h2⟩;by_cases c:r.length=n+1
   .exact .inr ⟨c,h2⟩
   .exact .inl ⟨by lia,h2⟩
theorem cJ(mk:Bd.Row)(h:mk.length<=5):∀n,(DB mk n).length<=5^n
 |0=>j1 _
 |n+1=>by
  show(BF mk (DB mk n)).length<=_;rw[VJ,PN];exact NG (cJ mk h n) h
theorem VU(mk:Bd.Row)(h:mk.length<=5)(hn:n<=2):(QL mk n).length<=31:=by
 have h1:=cJ mk h 1;have h2:=cJ mk h 2;have e:n=0\/n=1\/n=2:=by lia
 rcases e with rfl|rfl|rfl
 .show 1<=31;decide
 .show([[]]++DB mk 1).length<=31;rw[Y1,m8]
  lia
 .show(([[]]++DB mk 1)++DB mk 2).length<=31;rw[Y1,Y1,m8]
  lia
theorem WU{mk:Bd.Row}:∀{n:Nat},(0<n->mk≠[])->DB mk n≠[]
 |0,_=>by
  show([[]]:List Bd.Row)≠[];simp
 |n+1,h=>by
  intro e;have h1:=WU (n:=n) λ_=>h (by lia);have z:=P7 List.length e;have e2:(DB mk (n+1)).length=(DB mk n).length*mk.length:=VJ mk (DB mk n);rw[e2,F6]at z;have a1:=c5.mpr h1;have a2:=c5.mpr (h (by lia));have:=Nat.mul_pos a1 a2
  lia
def eE(b:Bond):List Bd.Row:=QL b.makes b.most
theorem yD:r∈eE b↔zcI b r:=UU _ _ _
inductive Pw(K:Frag)(C:Addr)(vs:List V)(H:Hp)(Q:VK)(E':XK):Prop
 |mk (p dx mk pp:Addr) (ps:List Addr) (b:Bond):vs=[.ref p]->VH K C H p dx mk pp ps b->OD b->(∀(H':Hp)(q:Addr)(ts:List Addr),Same H H'->H' q=some (.lst (ts.map V.ref))->Q5 K H' ts (eE b)->Q (.ref q) H')->Pw K C vs H Q E'
def DM(K:Frag)(H:Hp)(kvs:List (MC×V))(l:List Bd.Row):Prop:=∀n:Nat,match Y8 kvs (.inl (n:Int))with
 |none=>l.filter (λr=>lengthOf r==n)=[]
 |some v=>∃(q:Addr)(ts:List Addr),v=.ref q/\H q=some (.lst (ts.map V.ref))/\Q5 K H ts (l.filter λr=>lengthOf r==n)
inductive Rm(K:Frag)(vs:List V)(H:Hp)(Q:VK)(E':XK):Prop
 |mk (p:Addr) (ts:List Addr) (l:List Bd.Row):vs=[.ref p]->H p=some (.lst (ts.map V.ref))->Q5 K H ts l->l.length<=1000->(∀r∈l,r.length<=1000)->(∀(H':Hp)(d:Addr)(kvs:List (MC×V)),Same H H'->H d=none->H' d=some (.dK kvs)->DM K H' kvs l->(∀(n:Nat)(q:Addr),Y8 kvs (.inl (n:Int))=some (.ref q)->H q=none)->Q (.ref d) H')->Rm K vs H Q E'
theorem RG(T:oA Kq g9 aq):Mo g9 Pq wq bq true T.X7 1 (Qm Kq aq.fD):=by
 refine T.X7.F.kk T.X7.S λH vs Q E h=>?_;obtain⟨p,dx,mk,pp,ps,b,n,rfl,B,hc,k⟩:=h;refine⟨rfl,λhr=>?_⟩;refine⟨_,(X0 (S3 (O7 Z6 (Q2 (pv 0) rfl) (W4 Tf (pv 1) (oS T.UA (Q2 (pv 0) rfl))) (λ_ _=>rfl)))),?_⟩;have lp:ps.length=b.courses.length:=by
  have z:=K1 B.ps;rw[B0]at z;exact z
 have pos:0<b.courses.length:=c5.mpr hc;have em:=Ej hc n;obtain⟨q,hq,Jy⟩:=Paired.getR B.ps (show(b.courses.map rI)[n%b.courses.length]?=some (rI (b.course n)) by rw[P1,em];rfl);refine⟨_,rfl,p,_,dx,_,_,rfl,B.ob,T.XD.c,T.AF,rfl,_,rfl,_,rfl,p,_,dx,_,_,rfl,B.ob,T.XD.c,T.AF,rfl,pp,_,rfl,.inl (SqL.of B.pt),_,_,rfl,rfl,?_,pp,_,_,.ref q,rfl,rfl,SqL.of B.pt,NS (j:=n%b.courses.length) ?_ (by rw[P1,hq];rfl),k q Jy⟩
 .show(0:Int)<(((ps.map V.ref).length:Nat):Int);rw[B0,lp]
  lia
 .show(n:Int)%(((ps.map V.ref).length:Nat):Int)=_;rw[B0,lp]
  push_cast
  rfl
theorem VR(T:oA Kq g9 aq):Fo Pq wq bq true T.B6 1 (Pw Kq aq.fD):=by
 refine T.B6.F.kk T.B6.S λH vs Q E h=>?_;obtain⟨p,dx,mk,pp,ps,b,rfl,B,kE,k⟩:=h;refine⟨rfl,λhr=>?_⟩;have zl:=gN;refine⟨_,(T0 (RC 1 T.B6.S (d6 (F0 (AD Z0) Z0)))
  (T0 (RC 2 T.B6.S (d6 (F0 (AD Z0) Z0)))
  (T0 (uN O1.po (V3 Wj (oS T.UA (O7 Z6 (pv 2) A2 (λ_ _=>rfl))) (Q2 (pv 0) rfl) (U3 _)) (T0 (RC 3 T.B6.S (d6 Z0))
  (T0 (E8 O1.po rfl (L7 (pv 2)) (SE 4 T.B6.S) (X0 (L6 (mE P2 Q8 R8 mI (pv 3) (F0 (bD O1 rfl rfl (own:=[("piece",5)]) rfl T.B6.S.nd (eP (Q2 (pv 0) rfl)) (WW ["bond","rows","longest","longer","row","piece"] (Z3 vL) [("piece",5)]) (λtk=>(SE 5 T.B6.S)) (λtk=>cA) (λtk=>(W4 (QW (K:=Kq) rfl) (pv 4) (AD (F0 (pv 5) Z0))))) Z0)))))
  (T0 (RC 2 T.B6.S (pv 3))
  (X0 (L6 (mE P2 Q8 R8 mI (pv 1) (F0 (pv 2) Z0))))))))
  (X0 (S3 (pv 1)))))),?_⟩
 refine⟨(by show 0<=sizeLine;exact E1 _),λt1 n1=>⟨(by show 1<=sizeLine;decide),λq nq=>?_⟩⟩;have s1:Same H (upd (upd H t1 (.tup [])) q (.lst [.ref t1])):=((Same.refl _).new n1).new nq;refine⟨(by show 0<=sizeLine;exact E1 _),λt2 n2=>⟨(by show 1<=sizeLine;decide),λg ng=>?_⟩⟩;have s2:Same (upd (upd H t1 (.tup [])) q (.lst [.ref t1])) (upd (upd (upd (upd H t1 (.tup [])) q (.lst [.ref t1])) t2 (.tup [])) g (.lst [.ref t2])):=((Same.refl _).new n2).new ng;have hq0:upd (upd (upd (upd H t1 (.tup [])) q (.lst [.ref t1])) t2 (.tup [])) g (.lst [.ref t2]) q=some (.lst ([t1].map V.ref)):=s2 _ _ C0;have ht1:upd (upd (upd (upd H t1 (.tup [])) q (.lst [.ref t1])) t2 (.tup [])) g (.lst [.ref t2]) t1=some (.tup []):=s2 _ _ (by rw[M0 (C1 C0 nq)];exact C0);have ht2:upd (upd (upd (upd H t1 (.tup [])) q (.lst [.ref t1])) t2 (.tup [])) g (.lst [.ref t2]) t2=some (.tup []):=by rw[M0 (C1 C0 ng)];exact C0
 have hg0:upd (upd (upd (upd H t1 (.tup [])) q (.lst [.ref t1])) t2 (.tup [])) g (.lst [.ref t2]) g=some (.lst ([t2].map V.ref)):=C0;have gq:g≠q:=(C1 (s2 q _ C0 |> λz=>by rw[M0 (C1 (show(upd (upd (upd H t1 (.tup [])) q (.lst [.ref t1])) t2 (.tup [])) q=some _ from by rw[M0 (C1 C0 n2)];exact C0) ng)]at z;exact z) ng).symm;have UG:=s1.trans s2;have nqH:H q=none:=((Same.refl H).new n1 (o:=HO.tup [])).free nq;generalize upd (upd (upd (upd H t1 (.tup [])) q (.lst [.ref t1])) t2 (.tup [])) g (.lst [.ref t2])=H0 at UG hq0 ht1 ht2 hg0;refine vN (λσ H'=>E7 λ(i:Nat)(g:Addr)(v3 v4 v5:Option V)(ts us:List Addr)=>A8 (i<=b.most) (σ=[some (.ref p),some (.ref q),some (.ref g),v3,v4,v5]) (Same H H') (g≠q) (H' q=some (.lst (ts.map V.ref))) (Q5 Kq H' ts (QL b.makes i)) (H' g=some (.lst (us.map V.ref))) (Q5 Kq H' us (DB b.makes i))) (λ_ H'=>match H' q with
  |some (.lst xs)=>1000-xs.length
  |_=>0) ⟨0,g,none,none,none,[t1],[t2],E1 _,rfl,UG,gq,hq0,.cons (.inl (.inl ht1)) .nil,hg0,.cons (.inl (.inl ht2)) .nil⟩ ?_ ?_
 case refine_2=>
  intro σ H' R R' m h;obtain⟨x1,x2,x3,x4,x5,x6,x7,x8,x9,y1,y2,y3,y4,y5,y6,y7,y8,y9,z1,z2,z3,z4,z5,z6,z7,z8,z9,u1,u2,u3,u4,u5,zz⟩:=h;exact⟨x1,x2,x3,x4,x5,x6,x7,x8,x9,y1,y2,y3,y4,y5,y6,y7,y8,y9,z1,z2,z3,z4,z5,z6,z7,z8,z9,u1,u2,u3,u4,u5,m _ _ zz⟩
 rintro σ H' ⟨i,g,v3,v4,v5,ts,us,hi,rfl,sm,gq,hq,rq,hg,rg⟩;have m2:=kE.most;have lq:=rq.len;have lg:=rg.len;have zmN:=VU b.makes kE.makes (n:=i) (by lia);have ne:DB b.makes i≠[]:=WU λq=>kE.some (by lia);obtain⟨r0,hr0⟩:∃r,(DB b.makes i)[0]?=some r:=⟨_,O0 (c5.mpr ne)⟩
 obtain⟨u0,hu0,su0⟩:=Paired.getR rg hr0;have r0l:=((bJ b.makes i r0).mp (N1 hr0)).1;refine⟨_,rfl,g,_,_,.ref u0,rfl,rfl,SqL.of hg,S5 (j:=0) (by rw[P1,hu0];rfl),u0,_,rfl,.inr su0,_,rfl,p,_,dx,_,_,rfl,sm _ _ B.ob,T.XD.c,T.NQ,rfl,_,_,rfl,rfl,_,rfl,?_⟩;rw[N9,r0l];by_cases c:i<b.most
 .rw[F1 (show(i:Int)<(b.most:Int) by lia)];refine b7 ⟨E1 _,λe ne'=>?_⟩;have sm1:Same H (upd H' e (.lst [])):=sm.new ne';have eq_:e≠q:=(C1 hq ne').symm;have eg:e≠g:=(C1 hg ne').symm;have oK:upd H' e (.lst []) q=some (.lst (ts.map V.ref)):=by rw[M0 eq_.symm];exact hq
  have hg1:upd H' e (.lst []) g=some (.lst (us.map V.ref)):=by rw[M0 eg.symm];exact hg
  have rq1:Q5 Kq (upd H' e (.lst [])) ts (QL b.makes i):=rq.same ((Same.refl _).new ne');have rg1:Q5 Kq (upd H' e (.lst [])) us (DB b.makes i):=rg.same ((Same.refl _).new ne');have he1:upd H' e (.lst []) e=some (.lst (([]:List Addr).map V.ref)):=C0;have neH:H e=none:=sm.free ne';have lN:(DB b.makes i).length<=25:=by
   have z:=cJ b.makes kE.makes i;have:5^i<=5^1:=eA (by decide) (by lia)
   lia
  generalize upd H' e (.lst [])=H1 at sm1 oK hg1 rq1 rg1 he1;refine⟨_,rfl,g,rfl,⟨_,SqL.of hg1⟩,DA (K:=Kq) (a:=g) (xs:=us.map V.ref) (λj σ G=>E2 λ(v4:Option V)(ws:List Addr)=>A8 (σ=[some (.ref p),some (.ref q),some (.ref g),some (.ref e),v4,v5]) (Same H G) (G q=some (.lst (ts.map V.ref))) (Q5 Kq G ts (QL b.makes i)) (G g=some (.lst (us.map V.ref))) (Q5 Kq G us (DB b.makes i)) (G e=some (.lst (ws.map V.ref))) (Q5 Kq G ws (BF b.makes ((DB b.makes i).take j))))
   ⟨v4,[],rfl,sm1,oK,rq1,hg1,rg1,he1,.nil⟩ (by rintro j σ G _ ⟨_,_,_,_,_,_,z,_⟩;exact SqL.of z) ?_ ?_⟩
  .rintro j v σ G hj ⟨v4,ws,rfl,sg,gq1,rq1,gg,rg1,ge,rw1⟩;obtain⟨u,hu,rfl⟩:=b9 hj;obtain⟨r,hr,su⟩:=Paired.get rg1 hu;have rl:=((bJ b.makes i r).mp (N1 hr)).1;refine⟨_,rfl,.inl ⟨rfl,_,SqL.of ge⟩,_,rfl,p,_,dx,_,_,rfl,sg _ _ B.ob,T.XD.c,T.vO,rfl,mk,rfl,⟨_,sg.tup B.mks⟩,λD hD=>?_⟩;refine VX (K:=Kq) (a:=mk) (xs:=(rI b.makes).map V.int) (λm G'=>∃(xs:List Addr),A3 (Same G G') (G' D=some (.lst (xs.map V.ref))) (Q5 Kq G' xs ((b.makes.take m).map λp=>r++[p]))) ⟨[],(Same.refl _).new hD,C0,.nil⟩ (by rintro m G' _ ⟨_,s3,_⟩;exact s3.tup (sg.tup B.mks)) ?_ ?_
   .rintro m v G' hm ⟨xs,s3,hD3,rx⟩;obtain⟨pc,Ny,rfl⟩:=SU hm;have ml:=(N0.mp Ny).1;have lx:=rx.len;rw[B0,Z1]at lx;have f5:=kE.makes;refine⟨rfl,?_⟩;dsimp only[Hg];rw[K0 rfl];refine⟨_,rfl,_,rfl,(by show 1<=sizeLine;decide),λt nt=>?_⟩;have st:Same G' (upd G' t (.tup [.int pc.rank])):=(Same.refl _).new nt;refine⟨u,t,_,_,rfl,rfl,(s3.trans st).tup su,.inl (.inl C0),(by rw[N9];show r.length+1<=sizeLine;lia),λG2 t2 s4 Ij=>?_⟩;have Tx:=s4 _ _ (st _ _ hD3);refine⟨_,Tx,(by rw[B0];lia),xs++[t2],?_,by rw[V0];exact C0,?_⟩
    .intro b' o z;have nb:b'≠D:=λy=>by rw[y,hD]at z;cases z
     rw[M0 nb];exact s4 _ _ (st _ _ (s3 _ _ z))
    .rw[Q3 Ny,V0];refine K4 ((rx.same (st.trans s4)).set Tx) (zF Tx ?_);show S9 Kq G2 t2 ((rI (r++[pc])).map V.int);rw[<-aZ];exact Ij
   .rintro G2 ⟨xs,s3,hD3,rx⟩;rw[N9,V1]at rx;have ge3:=s3 _ _ ge;have lx:=rx.len;rw[B0]at lx;have lw:=rw1.len;rw[VJ,Z1]at lw;have f5:=kE.makes;have bw:ws.length<=125:=by
     rw[lw];exact d4 (NG (yE _ _) f5) (by lia)
    refine⟨e,D,_,_,rfl,rfl,ge3,hD3,(by rw[B0,B0];lia),some (.ref u),ws++xs,rfl,?_,?_,?_,?_,?_,by rw[V0];exact C0,?_⟩
    .exact(sg.trans s3).set neH
    .rw[M0 eq_.symm];exact s3 _ _ gq1
    .exact(rq1.same s3).set ge3
    .rw[M0 eg.symm];exact s3 _ _ gg
    .exact(rg1.same s3).set ge3
    .rw[Q3 hr];have el:BF b.makes ((DB b.makes i).take j++[r])=BF b.makes ((DB b.makes i).take j)++b.makes.map λp=>r++[p]:=by
      unfold BF;rw[xC,List.flatMap_singleton]
     rw[el];exact((rw1.same s3).set ge3).app (rx.set ge3)
  .rintro σ G ⟨v4,ws,rfl,sg,gq1,rq1,gg,rg1,ge,rw1⟩;rw[B0,lg,V1]at rw1;refine⟨_,rfl,?_⟩;have lw:=rw1.len;have lN1:=cJ b.makes kE.makes (i+1);have:5^(i+1)<=5^2:=eA (by decide) (by lia);have wn:0<ws.length:=by
    rw[lw];exact c5.mpr (WU (n:=i+1) λq=>kE.some (by lia))
   have wl:ws.length<=25:=by
    have:(BF b.makes (DB b.makes i)).length<=5^(i+1):=lN1
    lia
   refine⟨_,rfl,.inl ⟨rfl,_,SqL.of gq1⟩,_,rfl,q,e,_,_,rfl,rfl,gq1,ge,(by rw[B0,B0];lia),?_⟩;refine⟨⟨i+1,e,some (.ref e),v4,v5,ts++ws,ws,by lia,rfl,sg.set nqH,eq_,by rw[V0];exact C0,?_,?_,?_⟩,?_⟩
   .exact(rq1.set gq1).app (rw1.set gq1)
   .rw[M0 eq_];exact ge
   .exact rw1.set gq1
   .show(match upd G q (.lst (ts.map V.ref++ws.map V.ref)) q with
     |some (.lst xs)=>1000-xs.length
     |_=>0)<(match H' q with
     |some (.lst xs)=>1000-xs.length
     |_=>0)
    rw[C0,hq];show 1000-(ts.map V.ref++ws.map V.ref).length<1000-(ts.map V.ref).length;rw[Y1,B0,B0]
    lia
 .rw[Y0 (show ¬(i:Int)<(b.most:Int) by lia)];refine S7 ⟨_,rfl,?_⟩;have e:i=b.most:=by lia
  rw[e]at rq;exact k _ q ts sm hq rq
def Sm(H0:Hp)(d:Addr)(kvs:List (MC×V)):Prop:=(∀(n m:Nat)(q:Addr),Y8 kvs (.inl (n:Int))=some (.ref q)->Y8 kvs (.inl (m:Int))=some (.ref q)->n=m)/\∀(n:Nat)(q:Addr),Y8 kvs (.inl (n:Int))=some (.ref q)->H0 q=none/\q≠d
theorem Sm.nil{H0:Hp}:Sm H0 d []:=⟨λ_ _ _ h=>(nomatch h),λ_ _ h=>(nomatch h)⟩
theorem DM.nil{K:Frag}:DM K H [] []:=λ_=>rfl
theorem DM.same{K:Frag}(s:Same H H') (h:DM K H kvs l):DM K H' kvs l:=λn=>by
 have z:=h n;cases e:Y8 kvs (.inl (n:Int))with
 |none=>rw[e]at z;exact z
 |some v=>
  rw[e]at z;obtain⟨q,ts,rfl,h1,h2⟩:=z;exact⟨q,ts,rfl,s _ _ h1,h2.same s⟩
theorem XO{K:Frag}{b:Addr}(hS:H d=some (.dK k1)) (q:S9 K H b xs):S9 K (upd H d (.dK k2)) b xs:=by
 rcases q with q|q
 .rcases q with q|⟨o,q⟩
  .exact .inl (.inl (by rw[M0 (λz=>by rw[z,hS]at q;cases q)];exact q))
  .exact .inl (.inr ⟨o,by rw[M0 (λz=>by rw[z,hS]at q;cases q)];exact q⟩)
 .exact .inr q
theorem Q5.setD{K:Frag}(hd:H d=some (.dK k1)) (h:Q5 K H ts l):Q5 K (upd H d (.dK k2)) ts l:=Paired.mapP h λ_ _ z=>XO hd z
theorem eR(h:l[i]?=some r)(n:Nat):(l.take (i+1)).filter (λr=>lengthOf r==n)=(l.take i).filter (λr=>lengthOf r==n)++if lengthOf r=n then[r]else[]:=by
 rw[Q3 h,j7];by_cases c:lengthOf r=n
 .rw[K0 c,List.filter_cons_of_pos (by rw[c];exact gC n),uF]
 .rw[D0 c,List.filter_cons_of_neg (by rw[L4];exact c),uF]
theorem Oe(w:Bd.Row)(i n:Nat):repeated w i (n+1)=repeated w i n++[w.getD ((i+n)%w.length) .S]:=by
 unfold repeated;rw[SC,V0];rfl
theorem IA(p:Piece):1<=p.length:=by cases p<;>decide
theorem pC:∀r:Bd.Row,r.length<=lengthOf r
 |[]=>j1 _
 |p::r=>by
  have h1:=pC r;have h2:=IA p;have e:lengthOf (p::r)=p.length+lengthOf r:=D4 [p] r;rw[e,M1]
  lia
theorem Qw(w:Bd.Row)(i:Nat){m:Nat}(h:n<=m):lengthOf (repeated w i n)<=lengthOf (repeated w i m):=by
 induction m with
 |zero=>rw[Nat.le_zero.mp h];exact j1 _
 |succ m ih=>
  by_cases c:n=m+1
  .rw[c];exact j1 _
  .rw[Oe,D4];have:=ih (by lia)
   lia
inductive Um(K:Frag)(vs:List V)(H:Hp)(Q:VK)(E':XK):Prop
 |mk (t pt d:Addr) (s n:Nat) (left YH:Bd.Row) (kvs:List (MC×V)) (made:List Bd.Row):vs=[.ref t,.ref pt,.int s,.int n,.ref d]->S9 K H t ((rI left).map V.int)->S9 K H pt ((rI YH).map V.int)->YH≠[]->YH.length<=8->s<YH.length->n<=64->left.length<=64->H d=some (.dK kvs)->DM K H kvs made->made.length<=31->(∀r∈made,r.length<=64)->(∀(H':Hp)(q:Addr)(ts:List Addr)(l:List Bd.Row),Same H H'->H' q=some (.lst (ts.map V.ref))->Q5 K H' ts l->l.length<=2015->
  (∀r,r∈l↔∃m right,right∈made/\r=(left++repeated YH s m)++right/\lengthOf r=n)->Q (.ref q) H')->Um K vs H Q E'
inductive xX(K:Frag)(C:Addr)(vs:List V)(H:Hp)(Q:VK)(E':XK):Prop
 |mk (p dx mk pp:Addr) (ps:List Addr) (b:Bond) (c n:Nat):vs=[.ref p,.int c,.int n]->VH K C H p dx mk pp ps b->OD b->n<=64->(∀(H':Hp)(q:Addr)(ts:List Addr)(l:List Bd.Row),Same H H'->H' q=some (.lst (ts.map V.ref))->Q5 K H' ts l->l.length<=500000->(∀r,r∈l↔lengthOf r=n/\Yg b c r)->Q (.ref q) H')->xX K C vs H Q E'
theorem Pe(h:OD b):(eE b).length<=31:=VU b.makes h.makes h.most
def Rw(q:Addr)(H H':Hp):Prop:=∀b o,H b=some o->b≠q->H' b=some o
theorem Rw.tup{K:Frag}(f:Rw q H H') (hq:H q=some (.lst ys)) (h:S9 K H t xs):S9 K H' t xs:=by
 rcases h with h|h
 .rcases h with h|⟨o,h⟩
  .exact .inl (.inl (f _ _ h λz=>by rw[z,hq]at h;cases h))
  .exact .inl (.inr ⟨o,f _ _ h λz=>by rw[z,hq]at h;cases h⟩)
 .exact .inr h
theorem Rw.rows{K:Frag}(f:Rw q H H') (hq:H q=some (.lst ys)) (h:Q5 K H ts l):Q5 K H' ts l:=Paired.mapP h λ_ _ z=>f.tup hq z
theorem YO(T:oA Kq g9 aq):Fo Pq wq bq true T.D9 2 (Rm Kq):=by
 refine T.D9.F.kk T.D9.S λH vs Q E h=>?_;obtain⟨p,ts,l,rfl,hp,rt,zkl,zgb,k⟩:=h;refine⟨rfl,λhr=>?_⟩;have zl:=gN;have lt:=rt.len;refine⟨_,(T0 (RC 1 T.D9.S LS)
  (T0 (E8 O1.po rfl (L7 (pv 0)) (SE 2 T.D9.S) (X0 (L6 (mE P2 K3 L3 V9 (Zu (pv 1) (JC T.OB (VO T) hr (F0 (pv 2) Z0)) (d6 Z0) ⟨rfl,rfl,rfl,rfl⟩) (F0 (pv 2) Z0)))))
  (X0 (S3 (pv 1))))),?_⟩
 refine λd nd=>?_;have s1:Same H (upd H d (.dK [])):=(Same.refl _).new nd;refine⟨_,rfl,p,rfl,⟨_,SqL.of (s1 _ _ hp)⟩,DA (K:=Kq) (a:=p) (xs:=ts.map V.ref) (λi σ H'=>E2 λ(v:Option V)(kvs:List (MC×V))=>A6 (σ=[some (.ref p),some (.ref d),v]) (Same H H') (H' d=some (.dK kvs)) (kvs.length<=i) (DM Kq H' kvs (l.take i)) (Sm H d kvs))
  ⟨none,[],rfl,s1,C0,E1 _,DM.nil,Sm.nil⟩ (by rintro i σ H' _ ⟨_,_,_,s,_⟩;exact SqL.of (s _ _ hp)) ?_ ?_⟩
 .rintro i y σ H' hi ⟨v,kvs,rfl,s2,hd,lk,bl,ow⟩;obtain⟨t,ht,rfl⟩:=b9 hi;obtain⟨r,hr,sr⟩:=Paired.get rt ht;have il:=(N0.mp hr).1;have rm:=N1 hr;refine⟨_,rfl,d,rfl,.inl ⟨_,.inl hd⟩,_,rfl,t,r,rfl,s2.tup sr,zgb r rm,λH3 s3=>⟨E1 _,λz nz=>?_⟩⟩;have s4:Same H3 (upd H3 z (.lst [])):=(Same.refl _).new nz;have Sn:=s4 _ _ (s3 _ _ hd);have hz4:upd H3 z (.lst []) z=some (.lst []):=C0;have s24:=s2.trans (s3.trans s4);have bl4:=bl.same (s3.trans s4);have nzH:H z=none:=(s2.trans s3).free nz;generalize upd H3 z (.lst [])=H4 at s4 Sn hz4 s24 bl4;refine⟨kvs,.inl (lengthOf r:Int),Sn,rfl,by lia,λv hv=>?_,λhv=>?_⟩
  .have b0:=bl4 (lengthOf r);rw[hv]at b0;obtain⟨q,us,rfl,hq,ru⟩:=b0;obtain⟨nqH,qd⟩:=ow.2 _ q hv;have lu:=ru.len;have:=t8 (λx=>lengthOf x==lengthOf r) (l.take i);rw[Z1]at this;refine⟨.inl ⟨rfl,_,SqL.of hq⟩,_,rfl,q,_,.ref t,rfl,rfl,hq,(by rw[B0];lia),some (.ref t),kvs,rfl,s24.set nqH,by rw[M0 qd.symm];exact Sn,by lia,λn=>?_,ow⟩;rw[eR hr];by_cases c:lengthOf r=n
   .subst c;rw[hv,K0 rfl];exact⟨q,us++[t],rfl,by rw[C0,V0];rfl,(ru.set hq).app (.cons (zF hq (s24.tup sr)) .nil)⟩
   .rw[D0 c,d3];have b1:=bl4 n;cases e:Y8 kvs (.inl (n:Int))with
    |none=>rw[e]at b1;exact b1
    |some v1=>
     rw[e]at b1;obtain⟨q1,us1,rfl,oK,ru1⟩:=b1;have qq:q1≠q:=λz=>c (ow.1 _ _ q hv (by rw[e,z]));exact⟨q1,us1,rfl,by rw[M0 qq];exact oK,ru1.set hq⟩
  .have zd:z≠d:=λe=>by rw[e,s3 _ _ hd]at nz;cases nz
   have hz5:upd H4 d (.dK (aF kvs (.inl (lengthOf r:Int)) (.ref z))) z=some (.lst []):=by rw[M0 zd];exact hz4
   have b0:=bl4 (lengthOf r);rw[hv]at b0;have lp:=sD kvs (.inl (lengthOf r:Int)) (.ref z);have vp:∀n:Nat,Y8 (aF kvs (.inl (lengthOf r:Int)) (.ref z)) (.inl (n:Int))=if n=lengthOf r then some (.ref z)else Y8 kvs (.inl (n:Int)):=λn=>by
    rw[LZ];by_cases c:n=lengthOf r
    .rw[K0 (by rw[c]),K0 c]
    .rw[D0 (λe=>c (by have:=fA e;lia)),D0 c]
   have ozq:∀(n:Nat)(q:Addr),Y8 kvs (.inl (n:Int))=some (.ref q)->q≠z:=λn q e ez=>by
    have b1:=bl n;rw[e]at b1;obtain⟨q1,us1,e1,oK,_⟩:=b1;obtain rfl:=V.ref.inj e1;rw[ez]at oK;rw[s3 _ _ oK]at nz;cases nz
   refine⟨.inl ⟨rfl,_,SqL.of hz5⟩,_,rfl,z,_,.ref t,rfl,rfl,hz5,(by show 0<sizeLine;lia),some (.ref t),_,rfl,(s24.set nd).set nzH,by rw[M0 zd.symm];exact C0,by lia,λn=>?_,⟨λn m q e1 e2=>?_,λn q e=>?_⟩⟩
   .rw[eR hr,vp];by_cases c:n=lengthOf r
    .rw[K0 c,K0 c.symm];subst c;rw[b0];exact⟨z,[t],rfl,C0,.cons (zF hz5 (XO Sn (s24.tup sr))) .nil⟩
    .rw[D0 c,D0 (λe=>c e.symm),d3];have b1:=bl4 n;cases e:Y8 kvs (.inl (n:Int))with
     |none=>rw[e]at b1;exact b1
     |some v1=>
      rw[e]at b1;obtain⟨q1,us1,rfl,oK,ru1⟩:=b1;exact⟨q1,us1,rfl,by rw[M0 (ozq n q1 e),M0 (ow.2 n q1 e).2];exact oK,(ru1.setD Sn).set hz5⟩
   .rw[vp]at e1 e2;by_cases c1:n=lengthOf r
    .by_cases c2:m=lengthOf r
     .rw[c1,c2]
     .rw[K0 c1]at e1;rw[D0 c2]at e2;exact absurd (V.ref.inj (J0 e1)).symm (ozq m q e2)
    .rw[D0 c1]at e1;by_cases c2:m=lengthOf r
     .rw[K0 c2]at e2;exact absurd (V.ref.inj (J0 e2)).symm (ozq n q e1)
     .rw[D0 c2]at e2;exact ow.1 n m q e1 e2
   .rw[vp]at e;by_cases c1:n=lengthOf r
    .rw[K0 c1]at e;obtain rfl:=V.ref.inj (J0 e);exact⟨nzH,zd⟩
    .rw[D0 c1]at e;exact ow.2 n q e
 .rintro σ H' ⟨v,kvs,rfl,s2,hd,lk,bl,ow⟩;rw[B0,lt,V1]at bl;exact⟨_,rfl,k _ d kvs s2 nd hd bl λn q e=>(ow.2 n q e).1⟩
theorem YV(T:oA Kq g9 aq):Fo Pq wq bq true T.c6 2 (Um Kq):=by
 refine T.c6.F.kk T.c6.S λH vs Q E h=>?_;obtain⟨t,pt,d,s,n,left,YH,kvs,made,rfl,ht,hpt,pn,p8,sp,n64,l64,hd,bl,m31,mr,k⟩:=h;refine⟨rfl,λhr=>?_⟩;have zl:=gN;refine⟨_,(T0 (RC 5 T.c6.S (d6 Z0))
  (T0 (RC 6 T.c6.S (pv 0))
  (T0 (RC 7 T.c6.S (W4 vC (pv 3) (JC T.OB (VO T) hr (F0 (pv 0) Z0))))
  (T0 (RC 8 T.c6.S (pv 2))
  (T0 (uN O1.po (V3 za7 (pv 7) A2 (U3 _)) (T0 (L6 (mE P2 Q8 R8 mI (pv 5) (F0 (bD O1 rfl rfl (own:=[("right",9)]) rfl T.c6.S.nd (L7 (MS (tM hr) (pv 4) (pv 7) (d6 Z0) ⟨rfl,rfl,rfl,rfl⟩)) (WW ["left","pattern","start","length","by_length","rows","begun","rest","number","right","piece"] (Z3 iO) [("right",9)]) (λtk=>(SE 9 T.c6.S)) (λtk=>cA) (λtk=>(W4 (QW (K:=Kq) rfl) (pv 6) (pv 9)))) Z0)))
  (T0 (RC 10 T.c6.S (O7 XC (pv 1) (W4 Tf (pv 8) (oS T.UA (pv 1))) (λ_ _=>rfl)))
  (T0 (RC 6 T.c6.S (W4 Eb (pv 6) (AD (F0 (pv 10) Z0))))
  (T0 (psa 7 T.c6.S (O7 XC (aC (v:=.ref aq.rB) rfl T.gM rfl) (pv 10) (λ_ _=>rfl)) zcb)
  (X0 (psa 8 T.c6.S A2 wS)))))))
  (X0 (S3 (pv 5)))))))),?_⟩
 refine⟨E1 _,λq nq=>?_⟩;have s1:Same H (upd H q (.lst [])):=(Same.refl _).new nq;refine⟨_,rfl,_,rfl,_,rfl,t,left,rfl,s1.tup ht,by lia,λH1 s2=>⟨_,_,rfl,rfl,_,rfl,?_⟩⟩;have UG:=s1.trans s2;have oK:H1 q=some (.lst (([]:List Addr).map V.ref)):=s2 _ _ C0;have r0:left++repeated YH s 0=left:=d3 left;refine vN (λσ H'=>E6 λ(m:Nat)(bt:Addr)(v9 v10:Option V)(ts:List Addr)(l:List Bd.Row)=>A8 (m<=65) (σ=[some (.ref t),some (.ref pt),some (.int s),some (.int n),some (.ref d),some (.ref q),some (.ref bt),some (.int ((n:Int)-(lengthOf (left++repeated YH s m):Int))),some (.int ((s+m:Nat):Int)),v9,v10]) (Same H H') (S9 Kq H' bt ((rI (left++repeated YH s m)).map V.int)) (H' q=some (.lst (ts.map V.ref))) (Q5 Kq H' ts l) (l.length<=31*m) (∀r,r∈l↔∃m' right,m'<m/\right∈made/\r=(left++repeated YH s m')++right/\lengthOf r=n)) (λ(σ:L2.St) _=>match σ[7]? with
  |some (some (V.int z))=>(z+1).toNat
  |_=>0) ⟨0,t,none,none,[],[],E1 _,by rw[r0];rfl,UG,by rw[r0];exact UG.tup ht,oK,.nil,E1 _,λr=>⟨λh=>(nomatch h),λ⟨m',_,h,_⟩=>absurd h (by lia)⟩⟩ ?_ ?_
 case refine_2=>
  intro σ H' R R' m h;obtain⟨x1,x2,x3,x4,x5,x6,x7,x8,zz⟩:=h;exact⟨x1,x2,x3,x4,x5,x6,x7,x8,m _ _ zz⟩
 rintro σ H' ⟨m,bt,v9,v10,ts,l,m65,rfl,sm,hbt,hq,rl,ll,mem⟩;have bl1:=pC (left++repeated YH s m);rw[Y1,Al]at bl1;refine⟨_,rfl,_,_,rfl,rfl,_,rfl,?_⟩;by_cases c:lengthOf (left++repeated YH s m)<=n
 .rw[F1 (show(n:Int)-(lengthOf (left++repeated YH s m):Int)≥0 by lia)];have hd1:=sm _ _ hd;refine b7 ⟨_,rfl,.inl ⟨rfl,_,SqL.of hq⟩,_,rfl,d,rfl,.inl ⟨_,.inl hd1⟩,_,rfl,E1 _,λz nz=>?_⟩;have s3:Same H' (upd H' z (.lst [])):=(Same.refl _).new nz;have hz3:upd H' z (.lst []) z=some (.lst (([]:List Addr).map V.ref)):=C0;have er:(n:Int)-(lengthOf (left++repeated YH s m):Int)=((n-lengthOf (left++repeated YH s m):Nat):Int):=by lia
  rw[er];have rZ:=s3 _ _ hd1;refine⟨_,rK.k (k:=.inl ((n-lengthOf (left++repeated YH s m):Nat):Int)) rZ,?_⟩;have bl3:=(bl.same (sm.trans s3)) (n-lengthOf (left++repeated YH s m));have nzH:=sm.free nz;have hq3:=s3 _ _ hq;have rl3:=rl.same s3;have zdJ:=s3.tup hbt;have zgh:=(sm.trans s3).tup hpt;have kZ:=sm.trans s3;generalize upd H' z (.lst [])=H3 at s3 hz3 rZ bl3 hq3 rl3 zdJ zgh kZ;obtain⟨g,us,eg,hg,ru⟩:∃(g:Addr)(us:List Addr),(Y8 kvs (.inl ((n-lengthOf (left++repeated YH s m):Nat):Int))).getD (.ref z)=.ref g/\H3 g=some (.lst (us.map V.ref))/\Q5 Kq H3 us (made.filter λr=>lengthOf r==n-lengthOf (left++repeated YH s m)):=by
   cases e:Y8 kvs (.inl ((n-lengthOf (left++repeated YH s m):Nat):Int))with
   |none=>
    rw[e]at bl3;exact⟨z,[],rfl,hz3,by rw[bl3];exact .nil⟩
   |some v=>
    rw[e]at bl3;obtain⟨g,us,rfl,h1,h2⟩:=bl3;exact⟨g,us,rfl,h1,h2⟩
  rw[eg];generalize hbm:left++repeated YH s m=bm at *;have lf:=t8 (λr=>lengthOf r==n-lengthOf bm) made;have lu:=ru.len;generalize hmf:(made.filter λr=>lengthOf r==n-lengthOf bm)=mf at ru lf lu;have bmr:bm.length<=64:=by
   have:=pC bm
   lia
  refine⟨g,rfl,⟨_,SqL.of hg⟩,λD hD=>?_⟩;refine RF (K:=Kq) (a:=g) (xs:=us.map V.ref) (λj G=>∃(xs:List Addr),A3 (Same H3 G) (G D=some (.lst (xs.map V.ref))) (Q5 Kq G xs ((mf.take j).map λx=>bm++x))) ⟨[],(Same.refl _).new hD,C0,.nil⟩ (by rintro j G _ ⟨_,s4,_⟩;exact SqL.of (s4 _ _ hg)) ?_ ?_
  .rintro j y G hj ⟨xs,s4,Tx,rx⟩;obtain⟨u,hu,rfl⟩:=b9 hj;obtain⟨r,YJ,su⟩:=Paired.get ru hu;have jl:=(N0.mp YJ).1;have rm:r∈made:=by
    have:=N1 YJ;rw[<-hmf]at this;exact(O4.mp this).1
   have r64:=mr r rm;have lx:=rx.len;rw[B0,Z1]at lx;refine⟨rfl,?_⟩;dsimp only[Hg];rw[K0 rfl];refine⟨_,rfl,_,rfl,bt,u,_,_,rfl,rfl,s4.tup zdJ,s4.tup su,(by rw[N9,N9];lia),λG2 t2 s5 Ij=>?_⟩;have hD5:=s5 _ _ Tx;refine⟨_,hD5,(by rw[B0];lia),xs++[t2],(s4.trans s5).set hD,by rw[V0];exact C0,?_⟩;rw[Q3 YJ,V0];refine K4 ((rx.same s5).set hD5) (zF hD5 ?_);show S9 Kq G2 t2 ((rI (bm++r)).map V.int);rw[<-aZ];exact Ij
  .rintro G ⟨xs,s4,Tx,rx⟩;rw[B0,lu,V1]at rx;have lx:=rx.len;rw[B0]at lx;have Ay:=s4 _ _ hq3;have lt:=rl3.len;refine⟨q,D,_,_,rfl,rfl,Ay,Tx,(by rw[B0,B0];lia),?_⟩;have sq:Same H (upd G q (.lst (ts.map V.ref++xs.map V.ref))):=(kZ.trans s4).set nq;have Jr:upd G q (.lst (ts.map V.ref++xs.map V.ref)) q=some (.lst ((ts++xs).map V.ref)):=by rw[C0,V0]
   have rq5:Q5 Kq (upd G q (.lst (ts.map V.ref++xs.map V.ref))) (ts++xs) (l++mf.map λx=>bm++x):=((rl3.same s4).set Ay).app (rx.set Ay);have bt5:S9 Kq (upd G q (.lst (ts.map V.ref++xs.map V.ref))) bt ((rI bm).map V.int):=zF Ay (s4.tup zdJ);have pt5:S9 Kq (upd G q (.lst (ts.map V.ref++xs.map V.ref))) pt ((rI YH).map V.int):=zF Ay (s4.tup zgh);generalize upd G q (.lst (ts.map V.ref++xs.map V.ref))=G5 at sq Jr rq5 bt5 pt5;have p0:0<YH.length:=by lia
   have ml:(s+m)%YH.length<YH.length:=PM _ p0;have eg':YH[(s+m)%YH.length]?=some (YH[(s+m)%YH.length]'ml):=O0 ml;have egd:YH.getD ((s+m)%YH.length) .S=YH[(s+m)%YH.length]'ml:=by rw[U2,eg'];rfl
   generalize Ny:YH[(s+m)%YH.length]'ml=pc at eg' egd;refine⟨_,rfl,_,rfl,_,rfl,pt,_,rfl,.inr pt5,_,_,rfl,rfl,?_,pt,_,_,_,rfl,rfl,pt5,NS (j:=(s+m)%YH.length) ?_ (nQ eg'),?_⟩
   .show(0:Int)<((((rI YH).map V.int).length:Nat):Int);rw[N9]
    lia
   .show(((s+m:Nat):Int))%((((rI YH).map V.int).length:Nat):Int)=_;rw[N9]
    push_cast
    rfl
   refine⟨_,rfl,_,rfl,(by show 1<=sizeLine;decide),λt1 nt1=>?_⟩;have s6:Same G5 (upd G5 t1 (.tup [.int pc.rank])):=(Same.refl _).new nt1;refine⟨bt,t1,_,_,rfl,rfl,s6.tup bt5,.inl (.inl C0),(by rw[N9];show bm.length+1<=sizeLine;lia),λG7 t2 s7 Ij=>?_⟩;have s57:=s6.trans s7;have pl1:=IA pc;have bm1:left++repeated YH s (m+1)=bm++[pc]:=by rw[Oe,egd,<-R7,hbm]
   have len1:lengthOf (left++repeated YH s (m+1))=lengthOf bm+pc.length:=by rw[bm1,D4];rfl
   refine⟨_,rfl,_,rfl,aq.rB,_,_,_,rfl,rfl,T.iM _,S5 (rS pc),_,_,rfl,rfl,_,rfl,_,_,rfl,rfl,⟨m+1,t2,v9,some (.int pc.rank),ts++xs,_,by lia,?_,sq.trans s57,?_,s57 _ _ Jr,rq5.same s57,?_,λr=>?_⟩,?_⟩
   .rw[len1,show(n:Int)-((lengthOf bm+pc.length:Nat):Int)=((n-lengthOf bm:Nat):Int)-(pc.length:Int) by lia];rfl
   .rw[bm1,<-aZ];exact Ij
   .rw[Y1,B0]
    lia
   .rw[N2,mem,S2,<-hmf];constructor
    .rintro(⟨m',right,h1,h2,h3,h4⟩|⟨x,hx,rfl⟩)
     .exact⟨m',right,by lia,h2,h3,h4⟩
     .obtain⟨h1,h2⟩:=O4.mp hx;rw[L4]at h2;exact⟨m,x,by lia,h1,by rw[hbm],by rw[D4,h2];lia⟩
    .rintro⟨m',right,h1,h2,h3,h4⟩;by_cases g:m'<m
     .exact .inl ⟨m',right,g,h2,h3,h4⟩
     .have e:m'=m:=by lia
      subst e;rw[hbm]at h3;refine .inr ⟨right,O4.mpr ⟨h2,?_⟩,h3.symm⟩;rw[h3,D4]at h4;rw[L4]
      lia
   .show((((n-lengthOf bm:Nat):Int)-(pc.length:Int))+1).toNat<(((n-lengthOf bm:Nat):Int)+1).toNat
    lia
 .rw[Y0 (show ¬(n:Int)-(lengthOf (left++repeated YH s m):Int)≥0 by lia)];refine S7 ⟨_,rfl,?_⟩;refine k _ q ts l sm hq rl (by lia) λr=>?_;rw[mem];constructor
  .rintro⟨m',right,h1,h2,h3,h4⟩;exact⟨m',right,h2,h3,h4⟩
  .rintro⟨m',right,h2,h3,h4⟩;refine⟨m',right,?_,h2,h3,h4⟩;by_cases g:m'<m
   .exact g
   .have:=Qw YH s (show m<=m' by lia);rw[h3,D4,D4]at h4;rw[D4]at c
    lia
theorem XR(T:oA Kq g9 aq):Fo Pq wq bq true T.W7 3 (xX Kq aq.fD):=by
 refine T.W7.F.kk T.W7.S λH vs Q E h=>?_;obtain⟨p,dx,mk,pp,ps,b,c,n,rfl,B,kE,n64,k⟩:=h;refine⟨rfl,λhr=>?_⟩;have zl:=gN;refine⟨_,(T0 (RC 3 T.W7.S (d6 Z0))
  (T0 (RC 4 T.W7.S (JC T.B6 (VR T) hr (F0 (pv 0) Z0)))
  (T0 (RC 5 T.W7.S (JC T.D9 (YO T) hr (F0 (pv 4) Z0)))
  (T0 (E8 O1.po rfl (L7 (pv 4)) (SE 6 T.W7.S) (X0 (E8 O1.po rfl (ZH rfl T.wH (F0 (oS T.UA (BD (pv 0) T.XD.c T.X7.M (RG T) hr.mo T.X7.b .nil O1.passes (F0 (pv 1) Z0))) Z0)) (SE 7 T.W7.S) (X0 (L6 (mE P2 Q8 R8 mI (pv 3) (F0 (JC T.c6 (YV T) hr (F0 (pv 6) (F0 (BD (pv 0) T.XD.c T.X7.M (RG T) hr.mo T.X7.b .nil O1.passes (F0 (pv 1) Z0)) (F0 (pv 7) (F0 (pv 2) (F0 (pv 5) Z0)))))) Z0)))))))
  (X0 (S3 (pv 3))))))),?_⟩
 refine⟨E1 _,λq nq=>?_⟩;have s1:Same H (upd H q (.lst [])):=(Same.refl _).new nq;have oK:upd H q (.lst []) q=some (.lst (([]:List Addr).map V.ref)):=C0;generalize upd H q (.lst [])=H1 at s1 oK;refine⟨_,rfl,p,dx,mk,pp,ps,b,rfl,B.same s1,kE,λH2 mq ts s2 hm rm=>?_⟩;have lm:=Pe kE;have mb:∀r∈eE b,r.length<=2:=λr hr=>by
  have:=(yD.mp hr).1;have:=kE.most
  lia
 refine⟨_,rfl,mq,ts,eE b,rfl,hm,rm,by lia,λr hr=>by have:=mb r hr;lia,λH3 d kvs s3 nd hd bl ow=>?_⟩;have hq3:=s3 _ _ (s2 _ _ oK);have hm3:=s3 _ _ hm;have rm3:=rm.same s3;have s13:=s1.trans (s2.trans s3);have qm:mq≠q:=λe=>by
  rw[e,s2 _ _ oK]at hm;have z:=P7 List.length (HO.lst.inj (J0 hm));have h1:[]∈eE b:=yD.mpr ⟨E1 _,λp h=>(nomatch h)⟩;have h2:=HJ h1;have h3:=rm.len;rw[B0,B0,F6]at z
  lia
 have qd:d≠q:=λe=>by rw[e,s2 _ _ oK]at nd;cases nd
 have lt:=rm3.len;refine⟨_,rfl,mq,rfl,⟨_,SqL.of hm3⟩,DA (K:=Kq) (a:=mq) (xs:=ts.map V.ref) (λi σ H'=>E4 λ(v6 v7:Option V)(us:List Addr)(l:List Bd.Row)=>A7 (σ=[some (.ref p),some (.int c),some (.int n),some (.ref q),some (.ref mq),some (.ref d),v6,v7]) (Same H H') (Rw q H3 H') (H' q=some (.lst (us.map V.ref))) (Q5 Kq H' us l) (l.length<=i*16120) (∀r,r∈l↔∃left∈(eE b).take i,∃st<(b.course c).length,∃m right,right∈eE b/\r=(left++repeated (b.course c) st m)++right/\lengthOf r=n))
  ⟨none,none,[],[],rfl,s13,λ_ _ e _=>e,hq3,.nil,E1 _,λr=>⟨λh=>(nomatch h),λ⟨_,h,_⟩=>(nomatch h)⟩⟩ (by rintro i σ H' _ ⟨_,_,_,_,_,_,f,_⟩;exact SqL.of (f _ _ hm3 qm)) ?_ ?_⟩
 .rintro i y σ H' hi ⟨v6,v7,us,l,rfl,sm,f,hq,rl,ll,mem⟩;obtain⟨t,ht,rfl⟩:=b9 hi;obtain⟨left,hl,st⟩:=Paired.get rm3 ht;have il:=(N0.mp hl).1;have lm2:=mb left (N1 hl);have cin:=Np kE c;have cne:=kE.one _ cin;have c8:=kE.len _ cin;have B':=B.same sm;refine⟨_,rfl,p,dx,_,rfl,B'.ob,rfl,_,rfl,p,dx,mk,pp,ps,b,c,rfl,B',kE.ne,λpq hpq=>?_⟩;refine⟨pq,_,rfl,.inr (.inl (.inl hpq)),?_⟩;rw[N9];refine⟨_,rfl,by lia,by lia,?_⟩;rw[P4];refine UL (lo:=0) (n:=(b.course c).length) (λj σ G=>E3 λ(v7:Option V)(us2:List Addr)(l2:List Bd.Row)=>A7 (σ=[some (.ref p),some (.int c),some (.int n),some (.ref q),some (.ref mq),some (.ref d),some (.ref t),v7]) (Same H G) (Rw q H3 G) (G q=some (.lst (us2.map V.ref))) (Q5 Kq G us2 l2) (l2.length<=i*16120+j*2015) (∀r,r∈l2↔r∈l\/∃st<j,∃m right,right∈eE b/\r=(left++repeated (b.course c) st m)++right/\lengthOf r=n))
   ⟨v7,us,l,rfl,sm,f,hq,rl,by lia,λr=>⟨.inl,λh=>h.elim id λ⟨_,h,_⟩=>absurd h (by lia)⟩⟩ ?_ ?_
  .rintro j σ G hj ⟨v7,us2,l2,rfl,sg,fg,gq,rg,lg,mg2⟩;rw[show(0:Int)+(j:Int)=(j:Int)from NO _];have B2:=B.same sg;refine⟨_,rfl,.inl ⟨rfl,_,SqL.of gq⟩,_,rfl,_,rfl,p,dx,_,rfl,B2.ob,rfl,_,rfl,p,dx,mk,pp,ps,b,c,rfl,B2,kE.ne,λpq2 ziO=>?_⟩;have blG:DM Kq G kvs (eE b):=λm=>by
    have z:=bl m;cases e:Y8 kvs (.inl (m:Int))with
    |none=>rw[e]at z;exact z
    |some v=>
     rw[e]at z;obtain⟨g,gs,rfl,h1,h2⟩:=z;exact⟨g,gs,rfl,fg _ _ h1 (λe2=>by have:=ow m g e;rw[e2,s2 _ _ oK]at this;cases this),fg.rows hq3 h2⟩
   refine⟨_,rfl,_,rfl,_,rfl,t,pq2,d,j,n,left,b.course c,kvs,eE b,rfl,fg.tup hq3 st,.inl (.inl ziO),cne,c8,hj,n64,by lia,fg _ _ hd qd,blG,lm,λr hr=>by have:=mb r hr;lia,λG4 q4 ts4 l4 s4 Ay rl4 ll4 ziP=>?_⟩;have gq4:=s4 _ _ gq;have lr:=rg.len;have lr4:=rl4.len;refine⟨q,q4,_,_,rfl,rfl,gq4,Ay,(by rw[B0,B0];lia),some (.int j),us2++ts4,l2++l4,rfl,(sg.trans s4).set nq,λx o e ne=>by rw[M0 ne];exact s4 _ _ (fg _ _ e ne),by rw[C0,V0],((rg.same s4).set gq4).app (rl4.set gq4),?_,λr=>?_⟩
   .rw[Y1]
    lia
   .rw[N2,mg2,ziP];constructor
    .rintro((h|⟨s,h1,h2⟩)|⟨m,h⟩)
     .exact .inl h
     .exact .inr ⟨s,by lia,h2⟩
     .exact .inr ⟨j,by lia,m,h⟩
    .rintro(h|⟨s,h1,h2⟩)
     .exact .inl (.inl h)
     .by_cases e:s<j
      .exact .inl (.inr ⟨s,e,h2⟩)
      .have e:s=j:=by lia
       subst e;exact .inr h2
  .rintro σ G ⟨v7,us2,l2,rfl,sg,fg,gq,rg,lg,mg2⟩;refine⟨_,_,us2,l2,rfl,sg,fg,gq,rg,by have:=Nat.mul_le_mul_right 2015 c8;lia,λr=>?_⟩;rw[mg2,mem,Q3 hl];constructor
   .rintro(⟨x,h1,h2⟩|h)
    .exact⟨x,n6 _ h1,h2⟩
    .exact⟨left,Y3 _ (Q1.mpr rfl),h⟩
   .rintro⟨x,h1,h2⟩;rcases N2.mp h1 with h|h
    .exact .inl ⟨x,h,h2⟩
    .obtain rfl:=Q1.mp h;exact .inr h2
 .rintro σ H' ⟨v6,v7,us,l,rfl,sm,f,hq,rl,ll,mem⟩;rw[B0,lt]at ll mem;rw[V1]at mem;refine⟨_,rfl,k _ q us l sm hq rl (by lia) λr=>?_⟩;rw[mem,<-Ya];constructor
  .rintro⟨left,h1,st,h2,m,right,h3,h4,h5⟩;exact⟨left,yD.mp h1,st,h2,m,right,yD.mp h3,h4,h5⟩
  .rintro⟨left,h1,st,h2,m,right,h3,h4,h5⟩;exact⟨left,yD.mpr h1,st,h2,m,right,yD.mpr h3,h4,h5⟩
theorem WN{x y:Piece}(h:x.rank=y.rank):x=y:=by
 cases x<;>cases y<;>first|rfl|exact absurd h (by decide)
theorem bZ:∀{r s:Bd.Row},lengthOf r=lengthOf s->HT.lexLt (rI r) (rI s)=rowBefore r s
 |[],[],_=>rfl
 |[],y::s,h=>by
  rw[F3]at h;have:=IA y;have:lengthOf []=0:=rfl
  lia
 |x::r,[],h=>by
  rw[F3]at h;have:=IA x;have:lengthOf []=0:=rfl
  lia
 |x::r,y::s,h=>by
  rw[F3,F3]at h;show HT.lexLt ((x.rank:Int)::rI r) ((y.rank:Int)::rI s)=_;rw[HT.lexLt_cons,XN];by_cases c:x=y
  .subst c;rw[K0 rfl,bZ (by lia),gC,Y0 (B5 _)];rfl
  .have c2:x.rank≠y.rank:=λe=>c (WN e);rw[D0 (by lia),show(x==y)=false from by simpa using c,GB,EM];exact P3.mpr (by lia)
def YR(r:Bd.Row):List KI:=[.inl (cutsOf r:Int),.inr (rI r)]
theorem Sw{s:Bd.Row}(h:rI r=rI s):r=s:=by
 induction r generalizing s with
 |nil=>cases s with
  |nil=>rfl
  |cons _ _=>cases h
 |cons x r ih=>
  cases s with
  |nil=>cases h
  |cons y s=>
   have z:=pB h;have z1:(x.rank:Int)=(y.rank:Int):=z.1;rw[WN (x:=x) (y:=y) (by lia),ih z.2]
theorem Vm{s:Bd.Row}(h:lengthOf r=lengthOf s):bG (YR r) (YR s)=true↔cutsOf r<cutsOf s\/(cutsOf r=cutsOf s/\rowBefore r s=true):=by
 show(if (Sum.inl (cutsOf r:Int):KI)=.inl (cutsOf s:Int)then(if (Sum.inr (rI r):KI)=.inr (rI s)then false else HT.lexLt (rI r) (rI s))else decide ((cutsOf r:Int)<(cutsOf s:Int)))=true↔_;by_cases c:cutsOf r=cutsOf s
 .rw[K0 (by rw[c]),bZ h];by_cases e:rI r=rI s
  .rw[K0 (by rw[e])];obtain rfl:=Sw e;rw[cM];constructor
   .intro z;cases z
   .rintro(z|⟨_,z⟩)
    .lia
    .cases z
  .rw[D0 (λz=>e (Sum.inr.inj z))];exact⟨λz=>.inr ⟨c,z⟩,λz=>z.elim (λq=>absurd q (by lia)) λq=>q.2⟩
 .rw[D0 (λz=>c (by have:=fA z;lia)),P0];exact⟨λz=>.inl (by lia),λz=>z.elim (λq=>by lia) λq=>absurd q.1 c⟩
theorem Qe{s:Bd.Row}(h:lengthOf r=lengthOf s):(bG (YR r) (YR s)=true->DE r s)/\(bG (YR r) (YR s)=false->DE s r):=by
 refine⟨λz=>?_,λz=>?_⟩
 .rcases(Vm h).mp z with q|⟨q1,q2⟩
  .exact .inl q
  .exact .inr ⟨q1,.inr q2⟩
 .have n:¬(cutsOf r<cutsOf s\/(cutsOf r=cutsOf s/\rowBefore r s=true)):=λq=>by rw[(Vm h).mpr q]at z;cases z
  rcases pT h with e|e|e
  .exact .inr ⟨by rw[e],.inl e.symm⟩
  .by_cases c:cutsOf s<cutsOf r
   .exact .inl c
   .exact absurd (show _\/_ from if c2:cutsOf r<cutsOf s then .inl c2 else .inr ⟨by lia,e⟩) n
  .by_cases c:cutsOf s<cutsOf r
   .exact .inl c
   .exact .inr ⟨by have:¬cutsOf r<cutsOf s:=λq=>n (.inl q);lia,.inr e⟩
structure WH(D:List (Nat×Bd.Row))(L:Bd.Row->Prop):Prop where
 good:∀z∈D,z.1=G6 z.2/\L z.2
 nd:(D.map Prod.fst).Nodup
 all:∀r,L r->∃z∈D,z.1=G6 r/\DE z.2 r
theorem WH.new(h:WH D L)(hL:∀x,L' x↔L x\/x=r)(no:∀z∈D,z.1≠G6 r):WH (D++[(G6 r,r)]) L':=by
 refine⟨λz hz=>?_,?_,λx hx=>?_⟩
 .rcases N2.mp hz with m|m
  .exact⟨(h.good z m).1,(hL _).mpr (.inl (h.good z m).2)⟩
  .rw[Q1.mp m];exact⟨rfl,(hL _).mpr (.inr rfl)⟩
 .rw[V0,List.nodup_append];refine⟨h.nd,by simp,λa ha b hb=>?_⟩;obtain⟨z,hz,rfl⟩:=S2.mp ha;rw[show b=G6 r by simpa using hb];exact no z hz
 .rcases(hL x).mp hx with q|rfl
  .obtain⟨z,hz,e⟩:=h.all x q;exact⟨z,n6 _ hz,e⟩
  .exact⟨(G6 x,x),Y3 _ (by simp),rfl,.refl _⟩
theorem WH.old(h:WH D L)(hL:∀x,L' x↔L x\/x=r)(hz:z∈D)(ez:z.1=G6 r)(bt:DE r z.2):WH (D.map λz=>if z.1=G6 r then(z.1,r)else z) L':=by
 have one:∀y∈D,y.1=G6 r->y=z:=λy hy e=>by
  obtain⟨i,hi,ei⟩:=j4.mp hy;obtain⟨j,hj,ej⟩:=j4.mp hz;have q:(D.map Prod.fst)[i]'(by rw[B0];exact hi)=(D.map Prod.fst)[j]'(by rw[B0];exact hj):=by rw[U5,U5,ei,ej,e,ez]
  have q2:=(ZB h.nd).mp q;subst q2;rw[<-ei,<-ej]
 have inn:(G6 r,r)∈D.map λz=>if z.1=G6 r then(z.1,r)else z:=S2.mpr ⟨z,hz,by rw[K0 ez,ez]⟩
 refine⟨λy hy=>?_,?_,λx hx=>?_⟩
 .obtain⟨x,hx,rfl⟩:=S2.mp hy;by_cases c:x.1=G6 r
  .rw[K0 c];exact⟨c,(hL _).mpr (.inr rfl)⟩
  .rw[D0 c];exact⟨(h.good x hx).1,(hL _).mpr (.inl (h.good x hx).2)⟩
 .rw[B3,show D.map (Prod.fst ∘ λz:Nat×Bd.Row=>if z.1=G6 r then(z.1,r)else z)=D.map Prod.fst from Y5 λx _=>by
   show(if x.1=G6 r then(x.1,r)else x).1=x.1;split<;>rfl]
  exact h.nd
 .rcases(hL x).mp hx with q|rfl
  .obtain⟨y,hy,e1,e2⟩:=h.all x q;by_cases c:y.1=G6 r
   .obtain rfl:=one y hy c;exact⟨_,inn,by rw[<-c];exact e1,bt.trans e2⟩
   .exact⟨y,S2.mpr ⟨y,hy,by rw[D0 c]⟩,e1,e2⟩
  .exact⟨_,inn,rfl,.refl _⟩
theorem WH.stay(h:WH D L)(hL:∀x,L' x↔L x\/x=r)(hz:z∈D)(ez:z.1=G6 r)(bt:DE z.2 r):WH D L':=
 ⟨λy hy=>⟨(h.good y hy).1,(hL _).mpr (.inl (h.good y hy).2)⟩,h.nd,λx hx=>((hL x).mp hx).elim (λq=>h.all x q) λe=>by rw[e];exact⟨z,hz,ez,bt⟩⟩
def fE(K:Frag)(H:Hp):List (MC×V)->List (Nat×Bd.Row)->Prop:=Paired λkv z=>kv.1=.inl ((z.1:Nat):Int)/\∃t,kv.2=.ref t/\S9 K H t ((rI z.2).map V.int)
theorem fE.same{K:Frag}(s:Same H H') (h:fE K H kvs D):fE K H' kvs D:=Paired.mapP h λ_ _ ⟨e,t,e2,q⟩=>⟨e,t,e2,s.tup q⟩
theorem fE.setD{K:Frag}(hd:H d=some (.dK k1)) (h:fE K H kvs D):fE K (upd H d (.dK k2)) kvs D:=Paired.mapP h λ_ _ ⟨e,t,e2,q⟩=>⟨e,t,e2,XO hd q⟩
theorem fE.val{K:Frag}(h:fE K H kvs D) (n:Nat):(Y8 kvs (.inl (n:Int))=none/\∀z∈D,z.1≠n)\/∃z t,z∈D/\z.1=n/\Y8 kvs (.inl (n:Int))=some (.ref t)/\S9 K H t ((rI z.2).map V.int):=by
 induction h with
 |nil=>exact .inl ⟨rfl,λz hz=>(nomatch hz)⟩
 |@cons kv z ks D a _ ih=>
  obtain⟨e,t,e2,q⟩:=a;by_cases c:z.1=n
  .exact .inr ⟨z,t,by simp,c,by rw[GA (by rw[e,c]),e2],q⟩
  .rw[HA (by rw[e];exact λy=>c (by have:=fA y;lia))];rcases ih with⟨h1,h2⟩|⟨y,t,h1,h2⟩
   .exact .inl ⟨h1,λy hy=>by
     rcases S1.mp hy with rfl|m
     .exact c
     .exact h2 y m⟩
   .exact .inr ⟨y,t,o3 _ h1,h2⟩
theorem fE.new{K:Frag}(h:fE K H kvs D) (hn:Y8 kvs (.inl (n:Int))=none) (hr:S9 K H t ((rI r).map V.int)):fE K H (aF kvs (.inl (n:Int)) (.ref t)) (D++[(n,r)]):=by
 rw[JS _ hn];exact K4 h ⟨rfl,t,rfl,hr⟩
theorem fE.old{K:Frag}(h:fE K H kvs D) (hn:Y8 kvs (.inl (n:Int))=some v) (hr:S9 K H t ((rI r).map V.int)):fE K H (aF kvs (.inl (n:Int)) (.ref t)) (D.map λz=>if z.1=n then(z.1,r)else z):=by
 unfold aF;rw[K0 (by rw[bF,hn];rfl)];clear hn
 induction h with
 |nil=>exact .nil
 |@cons kv z ks D a _ ih=>
  refine .cons ?_ ih;obtain⟨e,t',e2,q⟩:=a;dsimp only;by_cases c:z.1=n
  .rw[K0 c,K0 (by rw[e,c])];exact⟨e,t,rfl,hr⟩
  .rw[D0 c,D0 (by rw[e];exact λy=>c (by have:=fA y;lia))];exact⟨e,t',e2,q⟩
theorem fE.got{K:Frag}(h:fE K H kvs D):(D.map Prod.fst).Nodup->D[i]?=some z->kvs[i]?=some (.inl (z.1:Int),V.ref t)->Y8 kvs (.inl (z.1:Int))=some (.ref t):=by
 induction h generalizing i with
 |nil=>intro _ h;simp at h
 |@cons kv y ks D a _ ih=>
  intro nd h1 h2;rw[C3,N5]at nd;cases i with
  |zero=>
   obtain rfl:kv=_:=by simpa using h2
   exact GA rfl
  |succ i=>
   have h1':D[i]?=some z:=by simpa using h1
   have ne:y.1≠z.1:=λe=>nd.1 (by rw[e];exact List.mem_map_of_mem (N1 h1'));rw[HA (by rw[a.1];exact λe=>ne (by have:=fA e;lia))];exact ih nd.2 h1' (by simpa using h2)
inductive yX(K:Frag)(C:Addr)(vs:List V)(H:Hp)(Q:VK)(E':XK):Prop
 |mk (p dx mk pp te:Addr) (ps:List Addr) (b:Bond) (c:Nat) (pn:Panel):vs=[.ref p,.int c,.int pn.length,.ref te]->VH K C H p dx mk pp ps b->OD b->1<=pn.length->pn.length<=63->H te=some (.tup [.int pn.left,.int pn.right])->pn.left<=2->pn.right<=2->(∀(H':Hp)(d:Addr)(kvs:List (MC×V))(D:List (Nat×Bd.Row)),Same H H'->H' d=some (.dK kvs)->fE K H' kvs D->kvs.length<=500000->nY b pn c D->Q (.ref d) H')->yX K C vs H Q E'
theorem Rw.tupD{K:Frag}(f:Rw q H H') {ys:List (MC×V)}(hq:H q=some (.dK ys)) (h:S9 K H t xs):S9 K H' t xs:=by
 rcases h with h|h
 .rcases h with h|⟨o,h⟩
  .exact .inl (.inl (f _ _ h λz=>by rw[z,hq]at h;cases h))
  .exact .inl (.inr ⟨o,f _ _ h λz=>by rw[z,hq]at h;cases h⟩)
 .exact .inr h
theorem fR(T:oA Kq g9 aq):Fo Pq wq bq true T.SB 4 (yX Kq aq.fD):=by
 refine T.SB.F.kk T.SB.S λH vs Q E h=>?_;obtain⟨p,dx,mk,pp,te,ps,b,c,pn,rfl,B,kE,n1,n63,hte,l2,r2,k⟩:=h;refine⟨rfl,λhr=>?_⟩;have zl:=gN;refine⟨_,(T0 (RC 4 T.SB.S LS)
  (T0 (E8 O1.po rfl (L7 (JC T.W7 (XR T) hr (F0 (pv 0) (F0 (pv 1) (F0 (pv 2) Z0))))) (SE 5 T.SB.S) (X0 (Q6 (VC (JC T.PJ (Ge T) hr (F0 (pv 5) (F0 (pv 1) (F0 (pv 3) Z0))))) (T0 (RC 6 T.SB.S (JC T.gA (YY T) hr (F0 (pv 5) Z0)))
  (X0 (Q6 (PW.pt (vS (zb4 (Io (tM hr) (pv 6) (pv 4))) (HM (V3 (zcQ hr.units) (AD (F0 (JC T.vD (oN T) hr (F0 (pv 5) Z0)) (F0 (pv 5) Z0))) (AD (F0 (JC T.vD (oN T) hr (F0 (iS (tM hr) (pv 4) (pv 6) (λ_ _=>rfl)) Z0)) (F0 (iS (tM hr) (pv 4) (pv 6) (λ_ _=>rfl)) Z0))) (U3 _))))) (X0 (Jk (tM hr) (pv 4) (pv 6) (pv 5) rfl)) T4))) T4)))
  (X0 (S3 (pv 4))))),?_⟩
 refine λd nd=>?_;have s1:Same H (upd H d (.dK [])):=(Same.refl _).new nd;have hd1:upd H d (.dK []) d=some (.dK []):=C0;generalize upd H d (.dK [])=H1 at s1 hd1;refine⟨_,rfl,_,rfl,_,rfl,p,dx,mk,pp,ps,b,c,pn.length,rfl,B.same s1,kE,by lia,λH2 q ts l s2 hq rt ll mem=>?_⟩;have bW:=s2 _ _ hd1;have qd:q≠d:=λe=>by rw[e,bW]at hq;cases hq
 have lt:=rt.len;have UG:=s1.trans s2;refine⟨q,rfl,⟨_,SqL.of hq⟩,DA (K:=Kq) (a:=q) (xs:=ts.map V.ref) (λi σ H'=>E4 λ(v5 v6:Option V)(kvs:List (MC×V))(D:List (Nat×Bd.Row))=>A7 (σ=[some (.ref p),some (.int c),some (.int pn.length),some (.ref te),some (.ref d),v5,v6]) (Same H H') (Rw d H2 H') (H' d=some (.dK kvs)) (kvs.length<=i) (fE Kq H' kvs D) (WH D (λr=>r∈l.take i/\(endIs pn.left c r.head?&&endIs pn.right c r.getLast?)=true)))
  ⟨none,none,[],[],rfl,UG,λ_ _ e _=>e,bW,E1 _,.nil,⟨λz hz=>(nomatch hz),.nil,λr hr=>(nomatch hr.1)⟩⟩ (by rintro i σ H' _ ⟨_,_,_,_,_,_,f,_⟩;exact SqL.of (f _ _ hq qd)) ?_ ?_⟩
 .rintro i y σ H' hi ⟨v5,v6,kvs,D,rfl,sm,f,hd,lk,dr,ri⟩;obtain⟨t,ht,rfl⟩:=b9 hi;obtain⟨r,YJ,st⟩:=Paired.get rt ht;have il:=(N0.mp YJ).1;have rin:=(mem r).mp (N1 YJ);have rne:r≠[]:=λe=>by
   have z:=rin.1;rw[e]at z;have:lengthOf []=0:=rfl
   lia
  have zm0:=pC r;have Bf:=f.tupD bW st;have hL:(endIs pn.left c r.head?&&endIs pn.right c r.getLast?)=true->∀x,(x∈l.take (i+1)/\(endIs pn.left c x.head?&&endIs pn.right c x.getLast?)=true)↔(x∈l.take i/\(endIs pn.left c x.head?&&endIs pn.right c x.getLast?)=true)\/x=r:=λhe x=>by
   rw[Q3 YJ,N2,Q1];constructor
   .rintro⟨h1|h1,h2⟩
    .exact .inl ⟨h1,h2⟩
    .exact .inr h1
   .rintro(⟨h1,h2⟩|h1)
    .exact⟨.inl h1,h2⟩
    .exact⟨.inr h1,by rw[h1];exact he⟩
  refine⟨_,rfl,_,rfl,_,rfl,t,te,r,c,pn.left,pn.right,rfl,Bf,rne,sm _ _ hte,l2,r2,?_⟩;refine⟨_,rfl,?_⟩;by_cases he:(endIs pn.left c r.head?&&endIs pn.right c r.getLast?)=true
  .rw[he];refine b7 ⟨_,rfl,t,r,rfl,Bf,by lia,λH3 s3=>?_⟩;have rZ:=s3 _ _ hd;have dr3:=dr.same s3;have Ex:=s3.tup Bf;have kj:bitsOf (jointsOf r)=G6 r:=rfl;rw[kj];have rl:=rin.1;have kZ:=sm.trans s3;dsimp only[aH,aK,iR,jV];rcases dr3.val (G6 r)with⟨vn,no⟩|⟨z,t',hz,ez,vs,jA⟩
   .refine LU (x:=true) (y:=false) (λH6=>Same H3 H6) (λR rr=>?_) (λhx=>by cases hx) λH4 s4=>?_
    .refine⟨_,rfl,_,rfl,d,_,rfl,rK.k (k:=.inl (G6 r:Int)) rZ,_,rfl,?_⟩;rw[vn];exact rr _ (Same.refl _)
    .have Sn:=s4 _ _ rZ;refine b7 ⟨_,rfl,_,rfl,_,rfl,d,_,rfl,Ig.k (k:=.inl (G6 r:Int)) Sn (by lia),some (.ref t),some (.int (G6 r)),_,_,rfl,(kZ.trans s4).set nd,λx o e ne=>by rw[M0 ne];exact s4 _ _ (s3 _ _ (f _ _ e ne)),C0,?_,((dr3.same s4).setD Sn).new vn (XO Sn (s4.tup Ex)),ri.new (hL he) no⟩;have:=sD kvs (.inl (G6 r:Int)) (.ref t)
     lia
   .have zl:lengthOf z.2=pn.length:=((mem _).mp (List.mem_of_mem_take (ri.good z hz).2.1)).1;have z1:=pC z.2;refine LU (x:=false) (y:=bG (YR r) (YR z.2)) (λH6=>Same H3 H6) (λR rr=>?_) (λ_ H4 s4 R rr=>?_) λH4 s4=>?_
    .refine⟨_,rfl,_,rfl,d,_,rfl,rK.k (k:=.inl (G6 r:Int)) rZ,_,rfl,?_⟩;rw[vs];exact rr _ (Same.refl _)
    .refine⟨_,rfl,t,r,rfl,s4.tup Ex,by lia,λH5 s5=>⟨_,rfl,(by show 2<=sizeLine;lia),λt1 n1=>?_⟩⟩;have Lr:=s4.trans s5;have s6:Same H5 (upd H5 t1 (.tup [.int (cutsOf r),.ref t])):=(Same.refl _).new n1;have h6:upd H5 t1 (.tup [.int (cutsOf r),.ref t]) t1=some (.tup [.int (cutsOf r),.ref t]):=C0;generalize upd H5 t1 (.tup [.int (cutsOf r),.ref t])=H6 at s6 h6;have s46:=Lr.trans s6;have g6:rK H6 d (kV (.inl (G6 r:Int))) (some (.ref t')):=by
      have:=rK.k (k:=.inl (G6 r:Int)) (s46 _ _ rZ);rw[vs]at this;exact this
     refine⟨_,rfl,_,rfl,d,_,rfl,g6,t',z.2,rfl,s46.tup jA,by lia,λH7 s7=>?_⟩;have s47:=s46.trans s7;have g7:rK H7 d (kV (.inl (G6 r:Int))) (some (.ref t')):=by
      have:=rK.k (k:=.inl (G6 r:Int)) (s47 _ _ rZ);rw[vs]at this;exact this
     refine⟨_,rfl,_,rfl,d,_,rfl,g7,(by show 2<=sizeLine;lia),λt2 n2=>?_⟩;have s8:Same H7 (upd H7 t2 (.tup [.int (cutsOf z.2),.ref t'])):=(Same.refl _).new n2;refine⟨YR r,YR z.2,trivial,⟨t1,_,rfl,.inl (.inl (s8 _ _ (s7 _ _ h6))),.cons rfl (.cons ⟨t,rfl,(s47.trans s8).tup Ex⟩ .nil)⟩,⟨t2,_,rfl,.inl (.inl C0),.cons rfl (.cons ⟨t',rfl,(s47.trans s8).tup jA⟩ .nil)⟩,_,rfl,rr _ (s47.trans s8)⟩
    .have Sn:=s4 _ _ rZ;obtain⟨bt,bf⟩:=Qe (r:=r) (s:=z.2) (by lia);rw[BH];cases c2:bG (YR r) (YR z.2)with
     |true=>
      refine b7 ⟨_,rfl,_,rfl,_,rfl,d,_,rfl,Ig.k (k:=.inl (G6 r:Int)) Sn (by lia),some (.ref t),some (.int (G6 r)),_,_,rfl,(kZ.trans s4).set nd,λx o e ne=>by rw[M0 ne];exact s4 _ _ (s3 _ _ (f _ _ e ne)),C0,?_,((dr3.same s4).setD Sn).old vs (XO Sn (s4.tup Ex)),ri.old (hL he) hz ez (bt c2)⟩;have:=sD kvs (.inl (G6 r:Int)) (.ref t)
      lia
     |false=>exact S7 ⟨some (.ref t),some (.int (G6 r)),kvs,D,rfl,kZ.trans s4,λx o e ne=>s4 _ _ (s3 _ _ (f _ _ e ne)),Sn,by lia,dr3.same s4,ri.stay (hL he) hz ez (bf c2)⟩
  .rw[Bool.not_eq_true]at he;rw[he];refine S7 ⟨some (.ref t),v6,kvs,D,rfl,sm,f,hd,by lia,dr,?_⟩;have hL':∀x,(x∈l.take (i+1)/\(endIs pn.left c x.head?&&endIs pn.right c x.getLast?)=true)↔(x∈l.take i/\(endIs pn.left c x.head?&&endIs pn.right c x.getLast?)=true):=λx=>by
    rw[Q3 YJ,N2,Q1];constructor
    .rintro⟨h1|h1,h2⟩
     .exact⟨h1,h2⟩
     .rw[h1,he]at h2;cases h2
    .rintro⟨h1,h2⟩;exact⟨.inl h1,h2⟩
   exact⟨λz hz=>⟨(ri.good z hz).1,(hL' _).mpr (ri.good z hz).2⟩,ri.nd,λx hx=>ri.all x ((hL' x).mp hx)⟩
 .rintro σ H' ⟨v5,v6,kvs,D,rfl,sm,f,hd,lk,dr,ri⟩;rw[B0,lt]at lk ri;rw[V1]at ri;refine⟨_,rfl,k _ d kvs D sm hd dr (by lia) ⟨λz hz=>⟨(ri.good z hz).1,aO.mpr ⟨((mem _).mp (ri.good z hz).2.1).1,(ri.good z hz).2.2,((mem _).mp (ri.good z hz).2.1).2⟩⟩,ri.nd,λr hr=>?_⟩⟩;obtain⟨h1,h2,h3⟩:=aO.mp hr;exact ri.all r ⟨(mem r).mpr ⟨h1,h3⟩,h2⟩
def sS(kvs:List (MC×V))(ks:List Nat):Prop:=∀x:Nat,(Y8 kvs (.inl (x:Int))).getD (.int 0)=.int (tL ks x)
inductive zX(K:Frag)(C:Addr)(vs:List V)(H:Hp)(Q:VK)(E':XK):Prop
 |mk (q:Addr) (ps:List Addr) (O:List (List Bd.Row)):vs=[.ref q]->H q=some (.lst (ps.map V.ref))->QG K C H ps O->O.length<=500000->(∀l∈O,l≠[]/\P6 l<2^63)->(∀(H':Hp)(d:Addr)(kvs:List (MC×V)),Same H H'->H d=none->H' d=some (.dK kvs)->sS kvs (O.map P6)->Q (.ref d) H')->zX K C vs H Q E'
def WJ(ks:List Nat)(k i x:Nat):Nat:=if x∈(O5 k).take i then tL ks x|||2^ks.length else tL ks x
theorem Tw(ks:List Nat)(k x:Nat):WJ ks k 0 x=tL ks x:=by
 unfold WJ;rw[List.take_zero,D0 (by simp)]
theorem Fj(ks:List Nat)(k x:Nat):WJ ks k (O5 k).length x=tL (ks++[k]) x:=by
 unfold WJ;rw[V1,Lh];by_cases c:k.testBit x=true
 .rw[K0 (GJ.mpr c),K0 c]
 .rw[D0 (λh=>c (GJ.mp h)),D0 c]
theorem Re{ks:List Nat}{k j x:Nat}(h:(O5 k)[j]?=some x) (y:Nat):WJ ks k (j+1) y=if y=x then WJ ks k j x|||2^ks.length else WJ ks k j y:=by
 have nd:(O5 k).Nodup:=List.Pairwise.filter _ List.nodup_range;have nx:x∉(O5 k).take j:=λm=>by
  obtain⟨i,hi,e⟩:=j4.mp m;rw[Z1]at hi;rw[List.getElem_take]at e;obtain⟨jl,e2⟩:=N0.mp h;have:=(ZB nd).mp (e.trans e2.symm)
  lia
 unfold WJ;rw[Q3 h];by_cases c:y=x
 .subst c;rw[K0 rfl,K0 (by simp),D0 nx]
 .rw[D0 c];by_cases c2:y∈(O5 k).take j
  .rw[K0 c2,K0 (n6 _ c2)]
  .rw[D0 c2,D0 (λm=>(N2.mp m).elim c2 λm=>c (Q1.mp m))]
def pN(kvs:List (MC×V)):Prop:=(kvs.map Prod.fst).Nodup/\∀z∈kvs,∃x:Nat,x<64/\z.1=.inl (x:Int)
theorem pN.len(h:pN kvs):kvs.length<=64:=by
 have z:=Sb (l:=kvs.map Prod.fst) (m:=(List.range 64).map λ(x:Nat)=>(.inl (x:Int):MC)) h.1 λk hk=>by
  obtain⟨y,hy,rfl⟩:=S2.mp hk;obtain⟨x,hx,e⟩:=h.2 y hy;exact S2.mpr ⟨x,j6.mpr hx,e.symm⟩
 simpa using z
theorem pN.put(h:pN kvs){x:Nat}(hx:x<64) (v:V):pN (aF kvs (.inl (x:Int)) v):=by
 cases e:Y8 kvs (.inl (x:Int))with
 |none=>
  refine⟨Iz v h.1 e,λz hz=>?_⟩;rw[JS v e]at hz;rcases N2.mp hz with m|m
  .exact h.2 z m
  .rw[Q1.mp m];exact⟨x,hx,rfl⟩
 |some u=>
  unfold aF;rw[K0 (by rw[bF,e];rfl)];refine⟨?_,λz hz=>?_⟩
  .rw[B3,show kvs.map (Prod.fst ∘ λkv:MC×V=>if kv.1=.inl (x:Int)then(kv.1,v)else kv)=kvs.map Prod.fst from Y5 λy _=>by
    show(if y.1=.inl (x:Int)then(y.1,v)else y).1=y.1;split<;>rfl]
   exact h.1
  .obtain⟨y,hy,rfl⟩:=S2.mp hz;obtain⟨x',Bs,e'⟩:=h.2 y hy;refine⟨x',Bs,?_⟩;show(if y.1=.inl (x:Int)then(y.1,v)else y).1=_;rw[<-e'];split<;>rfl
theorem sS.put{f:Nat->Nat}(h:∀x:Nat,(Y8 kvs (.inl (x:Int))).getD (.int 0)=.int (f x)) (x n:Nat) (y:Nat):(Y8 (aF kvs (.inl (x:Int)) (.int n)) (.inl (y:Int))).getD (.int 0)=.int (((if y=x then n else f y:Nat)):Int):=by
 rw[LZ];by_cases c:y=x
 .rw[K0 (by rw[c]),K0 c];rfl
 .rw[D0 (λe=>c (by have:=fA e;lia)),D0 c];exact h y
theorem ZO(T:oA Kq g9 aq):Fo Pq wq bq true T.C7 2 (zX Kq aq.V7):=by
 refine T.C7.F.kk T.C7.S λH vs Q E h=>?_;obtain⟨q,ps,O,rfl,hq,pl,o5,lo,k⟩:=h;refine⟨rfl,λhr=>?_⟩;have zl:=gN;have lp:ps.length=O.length:=K1 pl;refine⟨_,(T0 (RC 1 T.C7.S LS)
  (T0 (E8 O1.po rfl (HN rfl T.wD (F0 (pv 0) Z0)) (IM rfl (aA (SE 2 T.C7.S) (aA (SE 3 T.C7.S) gJ))) (X0 (E8 O1.po rfl (L7 (JC T.PB (WO T) hr (F0 (Q2 (pv 3) rfl) Z0))) (SE 4 T.C7.S) (X0 (Jk (tM hr) (pv 1) (pv 4) (W4 wZ (MS (tM hr) (pv 1) (pv 4) A2 ⟨rfl,rfl,rfl,rfl⟩) (W4 yS A2 (pv 2))) rfl)))))
  (X0 (S3 (pv 1))))),?_⟩
 refine λd nd=>?_;have s1:Same H (upd H d (.dK [])):=(Same.refl _).new nd;refine⟨_,rfl,q,_,rfl,SqL.of (s1 _ _ hq),IL (K:=Kq) (a:=q) (xs:=ps.map V.ref) (λi σ H'=>E4 λ(v2 v3 v4:Option V)(kvs:List (MC×V))=>A5 (σ=[some (.ref q),some (.ref d),v2,v3,v4]) (Same H H') (H' d=some (.dK kvs)) (pN kvs) (sS kvs ((O.take i).map P6)))
  ⟨none,none,none,[],rfl,s1,C0,⟨.nil,λz hz=>(nomatch hz)⟩,λx=>rfl⟩ (by rintro i σ H' _ ⟨_,_,_,_,_,sm,_⟩;exact SqL.of (sm _ _ hq)) ?_ ?_⟩
 .rintro i y σ H' t hi ⟨v2,v3,v4,kvs,rfl,sm,hd,lk,bj⟩ nt;obtain⟨p,hp,rfl⟩:=b9 hi;obtain⟨l,hl,pa⟩:=Paired.get pl hp;have il:=(N0.mp hl).1;obtain⟨ne,lt⟩:=lo l (N1 hl);obtain⟨r,m,rfl⟩:∃r m,l=r::m:=by
   cases l with
   |nil=>exact absurd rfl ne
   |cons r m=>exact⟨r,m,rfl⟩
  obtain⟨p',dx,GX,av,e,hp1,_,_⟩:=pa;obtain rfl:=V.ref.inj e;have s2:Same H' (upd H' t (.tup [.int i,.ref p])):=(Same.refl _).new nt;have hp2:=s2 _ _ (sm _ _ hp1);have sm2:=sm.trans s2;have bW:=s2 _ _ hd;refine⟨t,_,rfl,.inl (.inl C0),rfl,_,_,rfl,_,_,rfl,rfl,?_⟩;generalize upd H' t (.tup [.int i,.ref p])=H2 at s2 hp2 sm2 bW;refine⟨_,rfl,p,_,dx,_,_,rfl,hp2,T.KA.c,T.TH,rfl,G6 r,rfl,ID lt (by decide),λH3 g s3 hg=>?_⟩;have rZ:=s3 _ _ bW;have gd:g≠d:=λe=>by rw[e,rZ]at hg;cases hg
  have lks:((O.take i).map P6).length=i:=by rw[B0,Z1];lia
  generalize hks:(O.take i).map P6=ks at bj lks;refine⟨g,rfl,⟨_,SqL.of hg⟩,DA (K:=Kq) (a:=g) (xs:=nL (O5 (G6 r))) (λj σ G=>E2 λ(v4:Option V)(kvs:List (MC×V))=>A6 (σ=[some (.ref q),some (.ref d),some (.int i),some (.ref p),v4]) (Same H G) (Rw d H3 G) (G d=some (.dK kvs)) (pN kvs) (∀x:Nat,(Y8 kvs (.inl (x:Int))).getD (.int 0)=.int (WJ ks (G6 r) j x)))
   ⟨v4,kvs,rfl,sm2.trans s3,λ_ _ e _=>e,rZ,lk,λx=>by rw[Tw];exact bj x⟩ (by rintro j σ G _ ⟨_,_,_,_,f,_⟩;exact SqL.of (f _ _ hg gd)) ?_ ?_⟩
  .rintro j y σ G hj ⟨v4,kvs,rfl,sg,f,hdG,lk,bj⟩;unfold nL at hj;rw[P1]at hj;obtain⟨x,hx,rfl⟩:∃x,(O5 (G6 r))[j]?=some x/\y=.int x:=by
    cases e:(O5 (G6 r))[j]? with
    |none=>rw[e]at hj;cases hj
    |some x=>rw[e]at hj;exact⟨x,rfl,(J0 hj).symm⟩
   have x64:x<64:=by
    have tb:=GJ.mp (N1 hx);have:2^x<=G6 r:=Nat.ge_two_pow_of_testBit tb;have:(2:Nat)^x<2^63:=F9 this lt;have:=(Nat.pow_lt_pow_iff_right (a:=2) (by decide)).mp this
    lia
   have zm2:=lk.len;refine⟨_,rfl,d,rfl,.inl ⟨_,.inl hdG⟩,_,rfl,_,rK.k (k:=.inl (x:Int)) hdG,_,rfl,_,_,rfl,rfl,⟨by lia,by lia,by decide⟩,_,_,bj x,rfl,?_⟩;dsimp only[];rw[show(1:Int)=((1:Nat):Int)from rfl,cO,DI,dE];refine⟨_,rfl,_,rfl,d,_,rfl,Ig.k (k:=.inl (x:Int)) hdG (by lia),some (.int x),_,rfl,sg.set nd,λb o e ne=>by rw[M0 ne];exact f _ _ e ne,C0,lk.put x64 _,λy=>?_⟩;rw[sS.put bj,Re hx,lks]
  .rintro σ G ⟨v4,kvs,rfl,sg,f,hdG,lk,bj⟩;refine⟨_,_,_,kvs,rfl,sg,hdG,lk,λx=>?_⟩;have e:(nL (O5 (G6 r))).length=(O5 (G6 r)).length:=B0 _;rw[bj x,e,Fj,Q3 hl,V0,hks];rfl
 .rintro σ H' ⟨v2,v3,v4,kvs,rfl,sm,hd,lk,bj⟩;rw[B0,lp,V1]at bj;exact⟨_,rfl,k _ d kvs sm nd hd bj⟩
theorem zaB(h:n<2^40)(l:lap<=3):near lap n<2^64:=by
 have g:∀i,i<=3->nN n i<2^64:=λi=>by
  induction i with
  |zero=>intro _;exact mK 64
  |succ i ih=>
   intro hi;rw[bR];refine Nat.or_lt_two_pow (Nat.or_lt_two_pow (ih (by lia)) ?_) ?_
   .rw[EI];have:2^i<=2^3:=eA (by decide) (by lia);exact O2 (Nat.mul_lt_mul_of_lt_of_le h this (by decide)) (by decide)
   .rw[rC];exact F9 (Nat.div_le_self _ _) (ID h (by decide))
 exact g lap l
theorem zaC(b m:Nat):Builtin.bitAnd (b:Int) (Builtin.bitNot (m:Int))=((b-(b&&&m):Nat):Int):=by
 unfold Builtin.bitAnd;rw[F1 (show(0:Int)<=(b:Int) by lia),Y0 (show ¬(0:Int)<=Builtin.bitNot (m:Int) by unfold Builtin.bitNot;lia)];dsimp only;have e:(Builtin.bitNot (Builtin.bitNot (m:Int))).toNat=m:=by
  unfold Builtin.bitNot
  lia
 have l:b&&&m<=b:=gK;rw[e,P4]
 lia
theorem Uw{s:Bd.Row}(h:lengthOf r=lengthOf s) (ne:G6 r≠G6 s) (so:sooner (s::m) (r::l)=true):bG (CM (s::m)) (CM (r::l))=true:=by
 have sr:s≠r:=λe=>ne (by rw[e]);show(if (Sum.inl (cutsIn (s::m):Int):KI)=.inl (cutsIn (r::l):Int)then(if (Sum.inl (piecesIn (s::m):Int):KI)=.inl (piecesIn (r::l):Int)then(if (Sum.inr (rI s):KI)=.inr (rI r)then false else HT.lexLt (rI s) (rI r))else decide ((piecesIn (s::m):Int)<(piecesIn (r::l):Int)))else decide ((cutsIn (s::m):Int)<(cutsIn (r::l):Int)))=true;rcases(HH _ _).mp so with q|⟨q,q2|⟨q2,q3⟩⟩
 .rw[D0 (λz=>by have:=fA z;lia),P0]
  lia
 .rw[K0 (by rw[q]),D0 (λz=>by have:=fA z;lia),P0]
  lia
 .rw[K0 (by rw[q]),K0 (by rw[q2]),D0 (λz=>sr (Sw (Sum.inr.inj z))),bZ h.symm];rw[yJ]at q3;rcases Bool.or_eq_true_iff.mp q3 with e|e
  .exact e
  .exact absurd (L4.mp (HB.mp e).1) sr
def AX(n:Nat)(P:List (List Bd.Row)):Prop:=∀l∈P,∃r m,l=r::m/\lengthOf r=n
theorem XU{P:List (List Bd.Row)}(hd:AX n P) (nd:(P.map P6).Nodup) (ml:l∈P) (mm:m∈P) (p:bG (CM m) (CM l)=false):¬sooner m l=true:=λso=>by
 obtain⟨r,l',rfl,lr⟩:=hd l ml;obtain⟨s,m',rfl,ls⟩:=hd m mm;by_cases c:G6 r=G6 s
 .have q:(r::l')=(s::m'):=by
   obtain⟨x,hx,ex⟩:=j4.mp ml;obtain⟨y,hy,ey⟩:=j4.mp mm;have Bs:x<(P.map P6).length:=by rw[B0];exact hx
   have hy':y<(P.map P6).length:=by rw[B0];exact hy
   have z4:(P.map P6)[x]=(P.map P6)[y]:=by rw[U5,U5,ex,ey];exact c
   have:=(ZB nd).mp z4;subst this;rw[<-ex,<-ey]
  rw[q]at so;exact qP _ so
 .rw[Uw (by lia) c so]at p;cases p
theorem Se{K:Frag}{P:List (List Bd.Row)}(pl:QG K C H ps P) (hd:AX n P) (nd:(P.map P6).Nodup):ps.Nodup:=by
 have lp:ps.length=P.length:=K1 pl;rw[List.nodup_iff_pairwise_ne,R9];intro i j hi hj ij e;obtain⟨l,hl,pa⟩:=Paired.get pl (O0 hi);obtain⟨m,hm,pb⟩:=Paired.get pl (O0 hj);obtain⟨r,l',rfl,_⟩:=hd l (N1 hl);obtain⟨s,m',rfl,_⟩:=hd m (N1 hm);obtain⟨p1,d1,w1,v1,e1,a1,_⟩:=pa;obtain⟨p2,d2,w2,v2,e2,a2,_⟩:=pb;have q1:=V.ref.inj e1;have q2:=V.ref.inj e2;rw[<-q1,e,q2,a2]at a1;have z:=(HO.ins.inj (J0 a1)).2.2;have z2:V.int (G6 s)=V.int (G6 r):=(KB (pB (pB z).2).1).2;have z3:G6 s=G6 r:=by have:=V.int.inj z2;lia
 have hi':i<(P.map P6).length:=by rw[B0];lia
 have Ox:j<(P.map P6).length:=by rw[B0];lia
 have z4:(P.map P6)[i]=(P.map P6)[j]:=by
  rw[U5,U5,(N0.mp hl).2,(N0.mp hm).2];exact z3.symm
 have:=(ZB nd).mp z4
 lia
theorem cZ{K:Frag}{P:List (List Bd.Row)}{zs:List (Addr×List KI)}(pl:QG K C H ps P) (hd:AX n P) (nd:(P.map P6).Nodup) (pm:(zs.map Prod.fst).Perm ps) (mem:∀z∈zs,z∈ps.zip (P.map CM)) (pw:zs.Pairwise λa b=>bG b.2 a.2=false) :
  ∃O,QG K C H (zs.map Prod.fst) O/\O.Perm P/\O.Pairwise λl m=>¬sooner m l=true:=by
 have pn:=Se pl hd nd;have lp:ps.length=P.length:=K1 pl;have at_:∀z∈zs,∃l,P.getD (ps.idxOf z.1) []=l/\l∈P/\sA K C H l (.ref z.1)/\z.2=CM l:=λz hz=>by
  obtain⟨i,hi,e⟩:=j4.mp (mem z hz);rw[yF,B0]at hi;rw[HI]at e;have h1:i<ps.length:=by lia
  have h2:i<P.length:=by lia
  have e1:ps[i]=z.1:=by rw[<-e]
  have e2:CM P[i]=z.2:=by rw[<-e,U5]
  have ei:ps.idxOf z.1=i:=by rw[<-e1];exact XH pn i h1
  obtain⟨l,hl,pa⟩:=Paired.get pl (O0 h1);have el:=(N0.mp hl).2;refine⟨l,?_,N1 hl,by rw[<-e1];exact pa,by rw[<-e2,el]⟩;rw[ei,U2,hl];rfl
 refine⟨zs.map λz=>P.getD (ps.idxOf z.1) [],?_,?_,?_⟩
 .clear pm pw
  induction zs with
  |nil=>exact .nil
  |cons z zs ih=>
   refine .cons ?_ (ih (λy hy=>mem y (by simp[hy])) λy hy=>at_ y (by simp[hy]));obtain⟨l,e,_,pa,_⟩:=at_ z (by simp);show sA K C H (P.getD (ps.idxOf z.1) []) _;rw[e];exact pa
 .have z:=pm.map λa=>P.getD (ps.idxOf a) [];rw[B3]at z;refine z.trans ?_;have e:ps.map (λa=>P.getD (ps.idxOf a) [])=P:=by
   apply List.ext_getElem (by rw[B0,lp]);intro i h1 h2;rw[U5,XH pn i (by lia),U2,O0 h2];rfl
  rw[e]
 .have zn:(zs.map Prod.fst).Nodup:=pm.nodup_iff.mpr pn;rw[List.pairwise_map,R9];rw[R9]at pw;intro i j hi hj ij so;obtain⟨l,e1,ml,pa,k1⟩:=at_ zs[i] (FE hi);obtain⟨m,e2,mm,pb,k2⟩:=at_ zs[j] (FE hj);rw[e1,e2]at so;have p:=pw i j hi hj ij;rw[k1,k2]at p;exact XU hd nd ml mm p so
inductive Xm(K:Frag)(C:Addr)(vs:List V)(H:Hp)(Q:VK)(E':XK):Prop
 |mk (q d:Addr) (ps:List Addr) (P:List (List Bd.Row)) (kvs:List (MC×V)) (D:List (Nat×Bd.Row)) (n lap:Nat):vs=[.ref q,.ref d,.int lap]->H q=some (.lst (ps.map V.ref))->QG K C H ps P->AX n P->(P.map P6).Nodup->P.length<=500000->H d=some (.dK kvs)->fE K H kvs D->kvs.length<=500000->(∀z∈D,z.1=G6 z.2/\lengthOf z.2=n)->(D.map Prod.fst).Nodup->n<=40->1<=lap->lap<=3->(∀(H':Hp)(q':Addr)(ps':List Addr)(O:List (List Bd.Row)),Same H H'->H' q'=some (.lst (ps'.map V.ref))->QG K C H' ps' (EE lap D O)->O.Perm P->(O.Pairwise λl m=>¬sooner m l=true)->Q (.ref q') H')->Xm K C vs H Q E'
theorem Ym{K:Frag}{b:Addr}{o:Obj}(hS:H d=some (.frz o (.dK k1))) (q:S9 K H b xs):S9 K (upd H d u) b xs:=by
 rcases q with q|q
 .rcases q with q|⟨o,q⟩
  .exact .inl (.inl (by rw[M0 (λz=>by rw[z,hS]at q;cases q)];exact q))
  .exact .inl (.inr ⟨o,by rw[M0 (λz=>by rw[z,hS]at q;cases q)];exact q⟩)
 .exact .inr q
def Vw(d f:Addr)(H H':Hp):Prop:=∀b o,H b=some o->b≠d->b≠f->H' b=some o
theorem Vw.tup{K:Frag}(x:Vw d f H H') (hd:H d=some u) (nu:∀xs,u≠.tup xs) (nu2:∀o xs,u≠.frz o (.tup xs)) (hf:H f=some (.lst ys)) (h:S9 K H t xs):S9 K H' t xs:=by
 rcases h with h|h
 .rcases h with h|⟨o,h⟩
  .exact .inl (.inl (x _ _ h (λz=>by rw[z,hd]at h;exact nu _ (J0 h)) λz=>by rw[z,hf]at h;cases h))
  .exact .inl (.inr ⟨o,x _ _ h (λz=>by rw[z,hd]at h;exact nu2 _ _ (J0 h)) λz=>by rw[z,hf]at h;cases h⟩)
 .exact .inr h
theorem YU(T:oA Kq g9 aq):Fo Pq wq bq true T.W6 4 (Xm Kq aq.V7):=by
 refine T.W6.F.kk T.W6.S λH vs Q E h=>?_;obtain⟨q,d,ps,Pq,kvs,D,n,lap,rfl,hq,pl,gZ,nd,p5,hd,dr,k5,dg,nD,n40,lap1,lap3,k⟩:=h;refine⟨rfl,λhr=>?_⟩;have zl:=gN;have lp:ps.length=Pq.length:=K1 pl;have lD:kvs.length=D.length:=K1 dr;refine⟨_,(T0 (RC 3 T.W6.S (Iv (dR T) hr.mo rfl T.Fd VW rfl T.jD.m T.jD.b zbi (F0 (pv 0) Z0)))
  (T0 (RC 4 T.W6.S (JC T.C7 (ZO T) hr (F0 (pv 3) Z0)))
  (T0 (RC 5 T.W6.S (d6 Z0))
  (T0 (Kk (E8 O1.po rfl (Pb (pv 1)) (SE 6 T.W6.S) (T0 (RC 7 T.W6.S (W4 vC (W4 yS A2 (oS T.UA (pv 3))) A2))
  (T0 (E8 O1.po rfl (L7 (JC T.PB (WO T) hr (F0 (JC T.p9 (OL T) hr (F0 (pv 6) (F0 (pv 2) Z0))) Z0))) (SE 8 T.W6.S) (X0 (RC 7 T.W6.S (W4 JX (pv 7) (bK zcg (MS (tM hr) (pv 4) (pv 8) A2 ⟨rfl,rfl,rfl,rfl⟩))))))
  (X0 (Q6 (V3 Vj (pv 7) A2 (U3 _)) (X0 (L6 (mE P2 K3 L3 V9 (pv 5) (F0 (VL (T.KA.k0 T.f9) (aJ T) hr.mo rfl T.KA.m T.f9.b .nil O1.passes (F0 (iS (tM hr) (pv 1) (pv 6) (λ_ _=>rfl)) (F0 (pv 6) (F0 (O7 Z6 (pv 3) (JC T.XF (XV T) hr (F0 (pv 7) Z0)) (λ_ _=>rfl)) Z0)))) Z0)))) T4))))))
  (X0 (S3 (pv 5))))))),?_⟩
 refine⟨_,rfl,q,ps,Pq.map CM,rfl,SqL.of hq,⟨by rw[B0,lp],λi p m hi hm H2 s2=>?_⟩,⟨λky hk=>?_,λx hx y hy=>?_⟩,λzs H1 oq pm mem pw s1 hoq=>?_⟩
 .obtain⟨l,hl,pa⟩:=Paired.get pl hi;rw[P1,hl]at hm;obtain rfl:=J0 hm;obtain⟨r,m',rfl,_⟩:=gZ l (N1 hl);exact⟨p,r,m',rfl,pa.same s2,λH3 v s3 ky=>⟨s3,ky⟩⟩
 .obtain⟨l,hl,rfl⟩:=S2.mp hk;obtain⟨r,m',rfl,_⟩:=gZ l hl;exact⟨_,_,rfl⟩
 .obtain⟨l,hl,rfl⟩:=S2.mp hx;obtain⟨r,m',rfl,_⟩:=gZ l hl;obtain⟨l2,Wr,rfl⟩:=S2.mp hy;obtain⟨r2,m2,rfl,_⟩:=gZ l2 Wr;exact trivial
 obtain⟨O,po,op,ord⟩:=cZ pl gZ nd pm mem pw;have hdO:AX n O:=λl hl=>gZ l (op.mem_iff.mp hl);have lO:O.length<=500000:=by rw[op.length_eq];exact p5
 have eo:zs.map (λz=>V.ref z.1)=(zs.map Prod.fst).map V.ref:=by rw[B3];rfl
 rw[eo]at hoq;have lz:(zs.map Prod.fst).length=O.length:=K1 po;generalize zs.map Prod.fst=os at *;have po1:=po.same s1;have ziS:∀l∈O,l≠[]/\P6 l<2^63:=λl hl=>by
  obtain⟨r,m,rfl,lr⟩:=hdO l hl;exact⟨by simp,O2 (Qu (r:=r) (n:=40) (by lia)) (by decide)⟩
 refine⟨_,rfl,oq,os,O,rfl,hoq,po1,lO,ziS,λH2 wd wk s2 nwd hw bj=>?_⟩;have UG:=s1.trans s2;refine⟨E1 _,λf nf=>?_⟩;have s3:Same H2 (upd H2 f (.lst [])):=(Same.refl _).new nf;have hf3:upd H2 f (.lst []) f=some (.lst (([]:List Addr).map V.ref)):=C0;have nfH:=UG.free nf;generalize upd H2 f (.lst [])=H3 at s3 hf3;have s13:=UG.trans s3;have rZ:=s13 _ _ hd;have dr3:=dr.same s13;have zdL:=(s2.trans s3) _ _ hoq;have po3:=po1.same (s2.trans s3);have hw3:=s3 _ _ hw;have fd:f≠d:=λe=>by rw[e,UG _ _ hd]at nf;cases nf
 have oqd:oq≠d:=λe=>by rw[e,rZ]at zdL;cases zdL
 have oqf:oq≠f:=λe=>by rw[e]at hoq;rw[s2 _ _ hoq]at nf;cases nf
 have wdd:wd≠d:=λe=>by rw[e,s1 _ _ hd]at nwd;cases nwd
 have wdf:wd≠f:=λe=>by rw[e,hf3]at hw3;cases hw3
 refine⟨d,_,rZ,trivial,λod=>?_⟩;have frz:upd H3 d (.frz od (.dK kvs)) d=some (.frz od (.dK kvs)):=C0;have o0:Vw d f H3 (upd H3 d (.frz od (.dK kvs))):=λb o e n1 _=>by rw[M0 n1];exact e
 refine⟨_,rfl,d,od,kvs,rfl,frz,Ow (d:=d) (o:=od) (kvs:=kvs) (λi σ G=>E4 λ(v6 v7 v8:Option V)(fs:List Addr)=>A6 (σ=[some (.ref q),some (.ref d),some (.int lap),some (.ref oq),some (.ref wd),some (.ref f),v6,v7,v8]) (G d=some (.frz od (.dK kvs))) (Vw d f H3 G) (G f=some (.lst (fs.map V.ref))) (fs.length<=i) (QG Kq aq.V7 G fs (EE lap (D.take i) O)))
  ⟨none,none,none,[],rfl,frz,o0,by rw[M0 fd];exact hf3,E1 _,.nil⟩ (by rintro i σ G _ ⟨_,_,_,_,_,z,_⟩;exact z) ?_ ?_⟩
 .rintro i iV v σ G hi ⟨v6,v7,v8,fs,rfl,gd,off,gf,lf,pf⟩;obtain⟨z,hz,ek,t,et,st⟩:=Paired.get dr3 hi;have zm:=N1 hz;have il:=(N0.mp hz).1;obtain⟨zk,zl'⟩:=dg z zm;have z40:z.1<2^40:=by rw[zk];exact Qu (r:=z.2) (n:=40) (by lia)
  dsimp only at ek et;subst ek;subst et;have goq:=off _ _ zdL oqd oqf;have gw:=off _ _ hw3 wdd wdf;refine⟨_,rfl,oq,_,rfl,.inl (SqL.of goq),_,_,rfl,rfl,⟨by lia,by rw[B0];lia,by decide⟩,_,_,rfl,rfl,?_⟩;dsimp only[];rw[B0,lz,show(1:Int)=((1:Nat):Int)from rfl,cO,dE,show(((2^O.length:Nat):Int)-((1:Nat):Int))=((2^O.length-1:Nat):Int) by have:=mK O.length;lia];have b0:2^O.length-1=WD (O.map P6) []:=by rw[Rp,B0]
  rw[b0];refine⟨_,rfl,_,rfl,z.1,lap,rfl,lap1,lap3,ID z40 (by decide),near lap z.1,rfl,zaB z40 lap3,λG4 g s4 hg=>?_⟩;have gw4:=s4 _ _ gw;refine⟨g,rfl,⟨_,SqL.of hg⟩,DA (K:=Kq) (a:=g) (xs:=nL (O5 (near lap z.1))) (λj σ G'=>∃(v8:Option V),σ=[some (.ref q),some (.ref d),some (.int lap),some (.ref oq),some (.ref wd),some (.ref f),some (.int z.1),some (.int ((WD (O.map P6) ((O5 (near lap z.1)).take j):Nat):Int)),v8]/\G'=G4)
   ⟨v8,rfl,rfl⟩ (λj σ G' _ ⟨_,_,e⟩=>by rw[e];exact SqL.of hg) ?_ ?_⟩
  .rintro j y σ G' hj ⟨v8,rfl,rfl⟩;unfold nL at hj;rw[P1]at hj;obtain⟨x,hx,rfl⟩:∃x,(O5 (near lap z.1))[j]?=some x/\y=.int x:=by
    cases e:(O5 (near lap z.1))[j]? with
    |none=>rw[e]at hj;cases hj
    |some x=>rw[e]at hj;exact⟨x,rfl,(J0 hj).symm⟩
   refine⟨_,rfl,_,rfl,wd,rfl,.inl ⟨_,.inl gw4⟩,_,rfl,_,rK.k (k:=.inl (x:Int)) gw4,_,bj x,_,_,rfl,rfl,?_⟩;dsimp only[];rw[zaC,<-Kh,<-Q3 hx];exact⟨some (.int x),rfl,rfl⟩
  .rintro σ G' ⟨v8,rfl,rfl⟩;have el:(nL (O5 (near lap z.1))).length=(O5 (near lap z.1)).length:=B0 _;rw[el,V1];have hb:=λi=>Qb (ks:=O.map P6) (m:=near lap z.1) (xs:=O5 (near lap z.1)) (λx=>GJ) i;have hb2:∀i,(WD (O.map P6) (O5 (near lap z.1))).testBit i=(decide (i<O.length)&&(near lap z.1&&&(O.map P6).getD i 0==0)):=λi=>by rw[hb,B0]
   obtain⟨f0,f1⟩:=Tp hb2;generalize WD (O.map P6) (O5 (near lap z.1))=bn at hb2 f0 f1;have gd4:=s4 _ _ gd;have gf4:=s4 _ _ gf;have pf4:=pf.same s4;have eW:Vw d f H3 G':=λb o e n1 n2=>s4 _ _ (off _ _ e n1 n2);have po4:QG Kq aq.V7 G' os O:=Paired.mapP po3 λp l h=>h.keep (λb C' dx fs e _=>eW _ _ e (λz=>by rw[z,rZ]at e;cases e) λz=>by rw[z,hf3]at e;cases e) λb xs h=>eW.tup rZ (λ_ z=>by cases z) (λ_ _ z=>by cases z) hf3 h;have st4:S9 Kq G' t ((rI z.2).map V.int):=eW.tup rZ (λ_ z=>by cases z) (λ_ _ z=>by cases z) hf3 st;have ziW:=s4 _ _ goq;have sn:EE lap (D.take (i+1)) O=EE lap (D.take i) O++((TM lap z.1 O).map λl=>z.2::l).toList:=by
    unfold EE;rw[Q3 hz,List.filterMap_append];congr 1
   refine⟨_,rfl,rfl,_,rfl,?_⟩;by_cases c:bn=0
   .have e0:=f0 c;rw[F1 (show V.int bn=V.int 0 by rw[c];rfl)];refine S7 ⟨some (.int z.1),_,v8,fs,rfl,gd4,eW,gf4,by lia,?_⟩;rw[sn,show TM lap z.1 O=none from e0];rw[Option.map_none,Option.toList_none,d3];exact pf4
   .rw[Y0 (show ¬V.int bn=V.int 0 from λh=>c (by have:=V.int.inj h;lia))];have zdM:=dr3.got nD hz hi;refine b7 ⟨_,rfl,.inl ⟨rfl,_,SqL.of gf4⟩,_,rfl,_,rfl,d,_,rfl,.inl ⟨kvs,.inl (z.1:Int),.inr ⟨od,gd4⟩,rfl,zdM.symm⟩,_,rfl,_,rfl,_,rfl,bn,rfl,by lia,λl hl1 Wr=>?_⟩;have ll:l<O.length:=by
     have:=hb2 l;rw[hl1]at this;exact Y4 (HB.mp this.symm).1
    have ef:=f1 l hl1 Wr;rw[O0 ll]at ef;have lo:l<os.length:=by lia
    obtain⟨m,hm,pm4⟩:=Paired.get po4 (O0 lo);have em:=(N0.mp hm).2;have zl3:=pC z.2;refine⟨oq,_,_,.ref os[l],rfl,rfl,SqL.of ziW,S5 (by rw[P1,O0 lo];rfl),λp dx np Vx npd=>?_⟩;have s5:Same G' (upd (upd G' dx (.own p)) p (.ins aq.V7 dx [])):=((Same.refl _).new Vx).new (by rw[M0 npd.symm];exact np);refine⟨p,dx,t,z.2,z.1,.ref os[l],m,rfl,C0,s5.tup st4,by lia,zk,pm4.same s5,λH5 h5 fr5=>⟨rfl,?_⟩⟩;have Lr:Same G' H5:=λb o e=>fr5 b o (C1 e np) (s5 _ _ e);have gf5:=Lr _ _ gf4;have upl:∀{p:Addr}{l:List Bd.Row}{xs ys:List V},H5 f=some (.lst xs)->sA Kq aq.V7 H5 l (.ref p)->sA Kq aq.V7 (upd H5 f (.lst ys)) l (.ref p):=λhf h=>h.keep (λb C' dx fs e _=>by rw[M0 (λz=>by rw[z,hf]at e;cases e)];exact e) λb xs h=>zF hf h;refine⟨f,_,.ref p,rfl,rfl,gf5,(by rw[B0];lia),some (.int z.1),some (.int bn),v8,fs++[p],rfl,by rw[M0 fd.symm];exact Lr _ _ gd4,λb o e n1 n2=>by rw[M0 n2];exact Lr _ _ (eW _ _ e n1 n2),by rw[C0,V0];rfl,by rw[Y1];exact Nat.succ_le_succ lf,?_⟩;rw[sn,show TM lap z.1 O=some O[l]from ef,em];exact K4 (Paired.mapP (pf4.same Lr) λ_ _ h=>upl gf5 h) (upl gf5 ⟨p,dx,t,.ref os[l],rfl,h5,Lr.tup st4,pm4.same Lr⟩)
 .rintro σ G ⟨v6,v7,v8,fs,rfl,gd,off,gf,lf,pf⟩;refine⟨gd,_,rfl,?_⟩;rw[lD,V1]at pf;refine k _ f fs O (λb o e=>?_) (by rw[M0 fd];exact gf) ?_ op ord
  .by_cases c:b=d
   .rw[c,C0,<-hd,<-c];exact e
   .rw[M0 c];exact off _ _ (s13 _ _ e) c λz=>by rw[z,nfH]at e;cases e
  .exact Paired.mapP pf λp l h=>h.keep (λb C' dx fs e _=>by rw[M0 (λz=>by rw[z,gd]at e;cases e)];exact e) λb xs h=>Ym gd h
inductive Ww(K:Frag)(C CP:Addr)(vs:List V)(H:Hp)(Q:VK)(E':XK):Prop
 |mk (p dx mk pp q te:Addr) (ps:List Addr) (b:Bond) (pt:Part) (pn:Panel) (fl:List Nat):vs=[.ref p,.ref q,.ref te,.int (bitsOf fl)]->VH K C H p dx mk pp ps b->OD b->Yi CP H q pt->pn.length=pt.long->pn.first=pt.y->pn.courses=pt.high->1<=pt.long->pt.long<=40->1<=pt.high->pt.high<=8->pt.y<=1000->H te=some (.tup [.int pn.left,.int pn.right])->pn.left<=2->pn.right<=2->bitsOf fl<2^64->(∀(H':Hp)(q':Addr)(ts:List Addr),Same H H'->H q'=none->H' q'=some (.lst (ts.map V.ref))->Q5 K H' ts ((fillOf b pn fl).getD [])->Q (.ref q') H')->Ww K C CP vs H Q E'
theorem Te{k:Nat}{P:List (List Bd.Row)}(h:BJ b pn n k P):AX pn.length P:=λl hl=>by
 obtain⟨s,ll⟩:=h.good l hl;cases l with
 |nil=>simp at ll
 |cons r m=>exact⟨r,m,rfl,dM s r (by simp)⟩
theorem Xw(lap:Nat)(D:List (Nat×Bd.Row))(O:List (List Bd.Row)):(EE lap D O).length<=D.length:=List.length_filterMap_le _ _
theorem Zm{k:Nat}(h:nY b pn k D):∀z∈D,z.1=G6 z.2/\lengthOf z.2=pn.length:=λz hz=>⟨(h.good z hz).1,(aO.mp (h.good z hz).2).1⟩
theorem ZR(T:oA Kq g9 aq):Fo Pq wq bq true T.P5 6 (Ww Kq aq.fD aq.zB):=by
 refine T.P5.F.kk T.P5.S λH vs Q E h=>?_;obtain⟨p,dx,mk,pp,q,te,ps,b,pt,pn,fl,rfl,B,kE,⟨dq,hq⟩,e1,e2,e3,n1,n40,h1,h8,y1,hte,l2,r2,f64,k⟩:=h;refine⟨rfl,λhr=>?_⟩;have zl:=gN;refine⟨_,(T0 (RC 4 T.P5.S (W4 vC (W4 uC (Q2 (pv 1) rfl) (Q2 (pv 1) rfl)) A2))
  (T0 (RC 5 T.P5.S (JC T.SB (fR T) hr (F0 (pv 0) (F0 (pv 4) (F0 (Q2 (pv 1) rfl) (F0 (pv 2) Z0))))))
  (T0 (Kk (wI (i:=6) O1 rfl rfl (own:=[("joints",7)]) rfl T.P5.S.nd rfl rfl rfl (Pb (pv 5)) (WW ["bond","panel","ends","floor","top","rows","piles","joints","course","pile"] (Z3 DG) [("joints",7)]) (λtk=>(SE 7 T.P5.S)) (λtk=>cA) (λtk=>(VL (T.KA.k0 T.f9) (aJ T) hr.mo rfl T.KA.m T.f9.b .nil tk.passes (F0 (iS (tM hr) (pv 5) (pv 7) (λ_ _=>rfl)) (F0 (pv 7) (F0 IX Z0)))))))
  (T0 (E8 O1.po rfl (Jo rfl T.wH (F0 (W4 vC (pv 4) A2) (F0 (W4 vC (Q2 (pv 1) rfl) A2) (F0 (bK jG A2) Z0)))) (SE 8 T.P5.S) (X0 (RC 6 T.P5.S (JC T.W6 (YU T) hr (F0 (pv 6) (F0 (JC T.SB (fR T) hr (F0 (pv 0) (F0 (pv 8) (F0 (Q2 (pv 1) rfl) (F0 (pv 2) Z0))))) (F0 (Q2 (pv 0) rfl) Z0)))))))
  (T0 (wI (i:=6) O1 rfl rfl (own:=[("pile",9)]) rfl T.P5.S.nd rfl rfl rfl (L7 (pv 6)) (WW ["bond","panel","ends","floor","top","rows","piles","joints","course","pile"] (Z3 DG) [("pile",9)]) (λtk=>(SE 9 T.P5.S)) (λtk=>(TX (VC (pcg T.UE (TU T) hr.mo tk.passes (F0 (Em (K:=Kq) rfl (pv 9) rfl) (F0 (pv 3) (F0 (Em (K:=Kq) rfl (pv 0) rfl) Z0))))))) (λtk=>(pv 9)))
  (X0 (S3 (JC T.dG (Dj T) hr (F0 (zan (dR T) hr.mo rfl rfl T.ze4 zcY rfl T.jD.m T.jD.b zbi (F0 (pv 6) Z0)) Z0))))))))),?_⟩
 refine⟨_,rfl,q,_,dq,_,_,rfl,hq,T.l8.c,T.M9,rfl,_,rfl,q,_,dq,_,_,rfl,hq,T.l8.c,T.jK,rfl,_,_,rfl,rfl,_,_,rfl,rfl,?_⟩;dsimp only[];obtain⟨Q9,et⟩:∃Q9:Nat,pt.y+pt.high=Q9+1:=⟨pt.y+pt.high-1,by lia⟩
 rw[show(pt.y:Int)+(pt.high:Int)-1=(Q9:Int) by lia];refine⟨_,rfl,_,rfl,_,rfl,q,_,dq,_,_,rfl,hq,T.l8.c,T.XB,rfl,_,rfl,p,dx,mk,pp,te,ps,b,Q9,pn,by rw[e1];rfl,B,kE,by lia,by lia,hte,l2,r2,λH1 d kvs D s1 hd dr k5 ro=>?_⟩;have lD:kvs.length=D.length:=K1 dr;refine⟨d,_,hd,trivial,λod=>?_⟩;have frz:upd H1 d (.frz od (.dK kvs)) d=some (.frz od (.dK kvs)):=C0;have o0:Rw d H1 (upd H1 d (.frz od (.dK kvs))):=λb o e n1=>by rw[M0 n1];exact e
 generalize upd H1 d (.frz od (.dK kvs))=H2 at frz o0;refine⟨_,rfl,d,od,kvs,rfl,frz,λL hL=>?_⟩;have Ld:L≠d:=λe=>by rw[e,frz]at hL;cases hL
 have sL:Same H2 (upd H2 L (.lst [])):=(Same.refl _).new hL;refine zaz (d:=d) (o:=od) (kvs:=kvs) (λi G=>∃(fs:List Addr),A3 (Same H2 G) (G L=some (.lst (fs.map V.ref))) (QG Kq aq.V7 G fs ((D.take i).map λz=>[z.2]))) ⟨[],sL,C0,.nil⟩ (by rintro i G _ ⟨_,s,_⟩;exact s _ _ frz) ?_ ?_
 .rintro i iV v G hi ⟨fs,s2,hG,pf⟩;obtain⟨z,hz,ek,t,et',st⟩:=Paired.get dr hi;have il:=(N0.mp hz).1;have zk:=(ro.good z (N1 hz)).1;dsimp only at ek et';subst ek;subst et';have lf:fs.length<=i:=by
   have:=K1 pf;rw[B0,Z1]at this
   lia
  have zdM:=dr.got ro.nd hz hi;have Ij:S9 Kq G t ((rI z.2).map V.int):=s2.tup (o0.tupD hd st);have zl3:=pC z.2;have zle:=(Zm ro z (N1 hz)).2;refine⟨rfl,?_⟩;dsimp only[Hg];rw[K0 rfl];refine⟨_,rfl,_,rfl,d,_,rfl,.inl ⟨kvs,.inl (z.1:Int),.inr ⟨od,s2 _ _ frz⟩,rfl,zdM.symm⟩,_,rfl,λp' Er np Vx npd=>?_⟩;have s5:Same G (upd (upd G Er (.own p')) p' (.ins aq.V7 Er [])):=((Same.refl _).new Vx).new (by rw[M0 npd.symm];exact np);refine⟨p',Er,t,z.2,z.1,.non,[],rfl,C0,s5.tup Ij,by lia,zk,rfl,λH5 h5 fr5=>⟨rfl,?_⟩⟩;have Lr:Same G H5:=λb o e=>fr5 b o (C1 e np) (s5 _ _ e);have hG5:=Lr _ _ hG;have upl:∀{p:Addr}{l:List Bd.Row},sA Kq aq.V7 H5 l (.ref p)->sA Kq aq.V7 (upd H5 L (.lst (fs.map V.ref++[.ref p']))) l (.ref p):=λh=>h.keep (λb C' dx fs e _=>by rw[M0 (λz=>by rw[z,hG5]at e;cases e)];exact e) λb xs h=>zF hG5 h;refine⟨_,hG5,(by rw[B0];lia),fs++[p'],(s2.trans Lr).set hL,by rw[C0,V0];rfl,?_⟩;rw[Q3 hz,V0];exact K4 (Paired.mapP (pf.same Lr) λ_ _ h=>upl h) (upl ⟨p',Er,t,.non,rfl,h5,Lr.tup Ij,rfl⟩)
 .rintro G ⟨fs,s2,hG,pf⟩;rw[lD,V1]at pf;refine⟨s2 _ _ frz,?_⟩;have s6:Same H1 (upd G d (.dK kvs)):=λb o e=>by
   by_cases c:b=d
   .rw[c,C0,<-hd,<-c];exact e
   .rw[M0 c];exact s2 _ _ (o0 _ _ e c)
  have pf2:QG Kq aq.V7 (upd G d (.dK kvs)) fs (D.map λz=>[z.2]):=Paired.mapP pf λp l h=>h.keep (λb C' dx fs e _=>by rw[M0 (λz=>by rw[z,s2 _ _ frz]at e;cases e)];exact e) λb xs h=>Ym (s2 _ _ frz) h;have hG2:upd G d (.dK kvs) L=some (.lst (fs.map V.ref)):=by rw[M0 Ld];exact hG
  generalize upd G d (.dK kvs)=H3 at s6 pf2 hG2;have s3:=s1.trans s6;have po:=Lp (b:=b) (p:=pn) (by lia) ro;refine⟨_,rfl,_,_,rfl,rfl,_,rfl,q,_,dq,_,_,rfl,s3 _ _ hq,T.l8.c,T.M9,rfl,_,_,rfl,rfl,1,rfl,_,_,-1,pt.high-1,rfl,?_,?_⟩
  .have z:=RgC.neg (i:=(Q9:Int)-1) (j:=(pt.y:Int)-1) (by lia) (by lia) (by lia) (by lia);rw[show((Q9:Int)-1-((pt.y:Int)-1)).toNat=pt.high-1 by lia]at z;exact z
  refine Jg (λi σ G=>E6 λ(v7 v8 v9:Option V)(u:Addr)(as:List Addr)(A:List (List Bd.Row))=>A7 (σ=[some (.ref p),some (.ref q),some (.ref te),some (.int (bitsOf fl)),some (.int Q9),some (.ref d),some (.ref u),v7,v8,v9]) (Same H G) (G u=some (.lst (as.map V.ref))) (QG Kq aq.V7 G as A) (A.length<=500000) (i<=Q9) (BJ b pn i (Q9-i) A))
   ⟨_,_,_,L,fs,_,rfl,s3,hG2,pf2,by rw[B0];lia,E1 _,po⟩ ?_ ?_
  .rintro i σ G' hi ⟨v7,v8,v9,u,as,A,rfl,sg,hu,pa,la,it,pk⟩;obtain⟨c,ec⟩:∃c:Nat,Q9=c+i+1:=⟨Q9-i-1,by lia⟩
   rw[show(Q9:Int)-1+(i:Int)*(-1)=(c:Int) by lia];refine⟨_,rfl,_,rfl,_,rfl,_,rfl,q,_,dq,_,_,rfl,sg _ _ hq,T.l8.c,T.XB,rfl,_,rfl,p,dx,mk,pp,te,ps,b,c,pn,by rw[e1];rfl,B.same sg,kE,by lia,by lia,sg _ _ hte,l2,r2,λH7 d7 kv7 D7 s7 hd7 dr7 k7 ro7=>?_⟩;have sg7:=sg.trans s7;rw[show Q9-i=c+1 by lia]at pk;have lD7:kv7.length=D7.length:=K1 dr7;refine⟨_,rfl,p,_,dx,_,_,rfl,sg7 _ _ B.ob,T.XD.c,T.eN,rfl,u,d7,as,A,kv7,D7,pn.length,b.lap,rfl,s7 _ _ hu,pa.same s7,Te pk,pk.nd,la,hd7,dr7,k7,Zm ro7,ro7.nd,by lia,kE.lap1,kE.lap3,λH8 q8 ps8 O s8 hq8 pl8 op ord=>?_⟩;have:=Xw b.lap D7 O;exact⟨_,_,_,q8,ps8,_,rfl,sg7.trans s8,hq8,pl8,by lia,by lia,by rw[show Q9-(i+1)=c by lia];exact Bh (by lia) ro7 pk op ord⟩
  .rintro σ G' ⟨v7,v8,v9,u,as,A,rfl,sg,hu,pa,la,it,pk⟩;rw[show Q9-(pt.high-1)=pn.first by lia,show pt.high-1=pn.courses-1 by lia]at pk;have gZ:=Te pk;have lpa:as.length=A.length:=K1 pa;refine⟨_,rfl,u,rfl,⟨_,SqL.of hu⟩,λL2 hL2=>?_⟩;refine RF (K:=Kq) (a:=u) (xs:=as.map V.ref) (λi G=>∃(bs:List Addr),A3 (Same G' G) (G L2=some (.lst (bs.map V.ref))) (QG Kq aq.V7 G bs ((A.take i).filter λl=>decide (P6 l&&&near b.lap (bitsOf fl)=0)))) ⟨[],(Same.refl _).new hL2,C0,.nil⟩ (by rintro i G _ ⟨_,s,_⟩;exact SqL.of (s _ _ hu)) ?_ ?_
   .rintro i v G2 hi ⟨bs,sb,hb,pb⟩;obtain⟨x,hx,rfl⟩:=b9 hi;obtain⟨l,hl,px⟩:=Paired.get pa hx;have il:=(N0.mp hl).1;obtain⟨r,m,rfl,lr⟩:=gZ l (N1 hl);have px2:=px.same sb;obtain⟨x',Er,GX,av,ex,hx2,sx,pv'⟩:=px2;obtain rfl:=V.ref.inj ex;have lb:bs.length<=i:=by
     have:=K1 pb;have z:=t8 (λl=>decide (P6 l&&&near b.lap (bitsOf fl)=0)) (A.take i);rw[Z1]at z
     lia
    refine⟨rfl,_,rfl,x,_,Er,_,_,rfl,hx2,T.KA.c,T.TH,rfl,_,rfl,_,rfl,p,_,dx,_,_,rfl,(sg.trans sb) _ _ B.ob,T.XD.c,T.eN,rfl,G6 r,bitsOf fl,b.lap,rfl,kE.lap1,kE.lap3,f64,_,rfl,?_⟩;rw[Q3 hl,j7,i5,uF];have ek:P6 (r::m)=G6 r:=rfl;rw[ek];cases hc:decide (G6 r&&&near b.lap (bitsOf fl)=0)with
    |false=>
     refine S7 ?_;rw[D0 (by decide),d3];exact⟨bs,sb,hb,pb⟩
    |true=>
     refine b7 ?_;rw[K0 rfl];have upl:∀{p:Addr}{l:List Bd.Row},sA Kq aq.V7 G2 l (.ref p)->sA Kq aq.V7 (upd G2 L2 (.lst (bs.map V.ref++[.ref x]))) l (.ref p):=λh=>h.keep (λb C' dx fs e _=>by rw[M0 (λz=>by rw[z,hb]at e;cases e)];exact e) λb xs h=>zF hb h;exact⟨_,rfl,_,hb,(by rw[B0];lia),bs++[x],sb.set hL2,by rw[C0,V0];rfl,K4 (Paired.mapP pb λ_ _ h=>upl h) (upl ⟨x,Er,GX,av,rfl,hx2,sx,pv'⟩)⟩
   .rintro G2 ⟨bs,sb,hb,pb⟩;rw[B0,lpa,V1]at pb;have sg2:=sg.trans sb;obtain⟨F,hF⟩:∃F,(A.filter λl=>decide (P6 l&&&near b.lap (bitsOf fl)=0))=F:=⟨_,rfl⟩
    rw[hF]at pb;have Oj:∀l,l∈F↔l∈A/\P6 l&&&near b.lap (bitsOf fl)=0:=λl=>by rw[<-hF,O4,P0]
    have lpb:bs.length=F.length:=K1 pb;refine⟨_,rfl,L2,bs,F.map CM,rfl,SqL.of hb,⟨by rw[B0,lpb],λi x m hi hm H3 Zr=>?_⟩,⟨λky hk=>?_,λx hx y hy=>?_⟩,λi x m H3 hi hm jF Zr=>?_,λe H3 Zr=>?_⟩
    .obtain⟨l,hl,px⟩:=Paired.get pb hi;rw[P1,hl]at hm;obtain rfl:=J0 hm;obtain⟨r,m',rfl,_⟩:=gZ l ((Oj l).mp (N1 hl)).1;exact⟨x,r,m',rfl,px.same Zr,λH4 v s4 ky=>⟨s4,ky⟩⟩
    .obtain⟨l,hl,rfl⟩:=S2.mp hk;obtain⟨r,m',rfl,_⟩:=gZ l ((Oj l).mp hl).1;exact⟨_,_,rfl⟩
    .obtain⟨l,hl,rfl⟩:=S2.mp hx;obtain⟨r,m',rfl,_⟩:=gZ l ((Oj l).mp hl).1;obtain⟨l2,Wr,rfl⟩:=S2.mp hy;obtain⟨r2,m2,rfl,_⟩:=gZ l2 ((Oj l2).mp Wr).1;exact trivial
    .obtain⟨l,hl,px⟩:=Paired.get pb hi;rw[P1,hl]at hm;obtain rfl:=J0 hm;obtain⟨ml,el⟩:=(Oj l).mp (N1 hl);have ll:=(pk.good l ml).2;refine⟨.ref x,l,rfl,px.same Zr,by lia,λH4 q' ts s4 nq Ay rt=>k _ q' ts (sg2.trans (Zr.trans s4)) ((sg2.trans Zr).free nq) Ay ?_⟩;rw[zab (by lia) pk ml el λm mm em=>?_]
     .exact rt
     .obtain⟨i',hi',e'⟩:=j4.mp ((Oj m).mpr ⟨mm,em⟩);exact XU gZ pk.nd ml mm (jF i' _ (by rw[P1,O0 hi',e'];rfl))
    .refine⟨.non,[],rfl,rfl,by decide,λH4 q' ts s4 nq Ay rt=>k _ q' ts (sg2.trans (Zr.trans s4)) ((sg2.trans Zr).free nq) Ay ?_⟩;rw[zac (by lia) pk λm mm em=>?_]
     .exact rt
     .have z:=(Oj m).mpr ⟨mm,em⟩;have lb:F.length=0:=by rw[<-lpb,e];rfl
      rw[X3.mp lb]at z;cases z
structure Yw(w:Wall):Prop where
 l:w.left<=2
 r:w.right<=2
 v:w.reveal<=2
theorem zaD{l:List Nat}(h:∀j∈l,j<64):bitsOf l<2^64:=WG _ λi hi=>by
 rw[BA];exact Y0 λq=>by have:=h i q;lia
def pfF(q:Addr)(v:V):List (Str×V):=[("number",.int (-3)),("told",.ref q),("panel",v)]
inductive Gj(C:Addr)(vs:List V)(H:Hp)(Q:VK)(E':XK):Prop
 |mk (p:Addr) (v:V) (fr:Bool) (tb:Value):vs=[.ref p,v]->H p=some (xO C fr none tb p)->(∀(d q:Addr)(H':Hp),H d=none->H q=none->d≠p->H' p=some (xO C fr (some d) tb p)->H' d=some (.xd (pfF q v))->H' q=some (.lst [v])->(∀b,b≠p->b≠d->b≠q->H' b=H b)->Q .non H')->Gj C vs H Q E'
def ZU(C:Addr)(E:XK)(H:Hp)(i:Nat):Prop:=∀(d q:Addr)(H':Hp),aX H H'->H' d=some (.xd (pfF q (.int i)))->H' q=some (.lst [.int i])->E (C,true) (some d) H'
theorem ZU.same{E:XK}(f:ZU C E H i) (s:Same H H1):ZU C E H1 i:=λd q H' m e e2=>f d q H' (s.thenM m) e e2
def g8(F:Filled)(n:Nat):List (List (Nat×Nat)):=(List.range n).map λy=>(piecesAt F y).map rk
theorem Zw{p:Part}(f:Rr w F) (hy:p.y<=n):ZY w p (g8 F n)=bitsOf (floorOf F p):=by
 unfold ZY;by_cases h0:p.y=0
 .rw[K0 h0];unfold floorOf;rw[K0 h0];rfl
 .rw[D0 h0];have e:(g8 F n).getD (p.y-1) []=(piecesAt F (p.y-1)).map rk:=by
   unfold g8;rw[U2,P1,d8 (by lia)];rfl
  rw[e];apply V8;intro j;rw[BA,BA,P3,LW f h0];unfold YF jM;simp only[S2,O4,D1,P0,O3,Bool.or_eq_false_iff,j5,dL,Bool.not_eq_true];constructor
  .rintro⟨z,⟨⟨q,hq,rfl⟩,⟨h1,h2⟩,h3,h4⟩,rfl⟩;have e:p.x+((rk q).1-p.x)=q.1:=by
    show p.x+(q.1-p.x)=q.1;have:p.x<=q.1:=h1
    lia
   refine⟨by lia,q,hq,e.symm,?_⟩;rw[e];exact⟨h3,h4⟩
  .rintro⟨h1,q,hq,e,h3,h4⟩;rw[<-e]at h3 h4;exact⟨rk q,⟨⟨q,hq,rfl⟩,⟨by show p.x<=q.1;lia,by show q.1<=_;lia⟩,h3,h4⟩,by show q.1-p.x=j;lia⟩
def aS(cs:List Addr)(H H':Hp):Prop:=∀b o,H b=some o->b∉cs->H' b=some o
theorem aS.tup{K:Frag}(f:aS cs H H') (hc:∀r∈cs,∃ys,H r=some (.lst ys)) (h:S9 K H t xs):S9 K H' t xs:=by
 rcases h with h|h
 .rcases h with h|⟨o,h⟩
  .exact .inl (.inl (f _ _ h λz=>by obtain⟨ys,e⟩:=hc _ z;rw[e]at h;cases h))
  .exact .inl (.inr ⟨o,f _ _ h λz=>by obtain⟨ys,e⟩:=hc _ z;rw[e]at h;cases h⟩)
 .exact .inr h
theorem f7.lists{L:List (List (Nat×Nat))}(h:f7 H cs L):∀r∈cs,∃ys,H r=some (.lst ys):=λr hr=>by
 obtain⟨i,hi,rfl⟩:=j4.mp hr;obtain⟨_,_,ts,e,_⟩:=Paired.get h (O0 hi);exact⟨_,e⟩
theorem f7.put{r:Addr}{VG:List (Nat×Nat)}(hr:H r=some (.lst xs)) (tt:LB H ts (VG.map pI)):∀{cs:List Addr}{L:List (List (Nat×Nat))}{k:Nat},f7 H cs L->cs.Nodup->cs[k]?=some r->f7 (L2.upd H r (.lst (ts.map V.ref))) cs (L.set k VG)
 |_,_,k,.nil,_,hk=>by simp at hk
 |c::cs,_,0,.cons h t,nd,hk=>by
  obtain rfl:c=r:=by simpa using hk
  rw[N5]at nd;exact .cons ⟨ts,C0,LB.upd tt hr⟩ (f7.upd hr t nd.1)
 |c::cs,_,k+1,.cons ⟨us,e,h⟩ t,nd,hk=>by
  rw[N5]at nd;have jZ:cs[k]?=some r:=by simpa using hk
  have ne:c≠r:=λz=>nd.1 (by rw[z];exact N1 jZ);exact .cons ⟨us,by rw[M0 ne];exact e,LB.upd h hr⟩ (f7.put hr tt t nd.2 jZ)
theorem zhE{F:α->β->Prop}{as cs:List α}{bs ds:List β}(h:Paired F as bs) (h2:Paired F cs ds):Paired F (as++cs) (bs++ds):=by
 induction h with
 |nil=>exact h2
 |cons a _ ih=>exact .cons a ih
def QA(F:Filled)(p:Part)(l:List Bd.Row)(n j:Nat):List (List (Nat×Nat)):=(List.range n).map λy=>(piecesAt F y++if p.y<=y/\y<p.y+j then Bd.placed p.x (l.getD (y-p.y) [])else[]).map rk
theorem Ue(F:Filled)(p:Part)(l:List Bd.Row)(n:Nat):QA F p l n 0=g8 F n:=by
 unfold QA g8;congr 1;funext y;rw[D0 (by lia),d3]
theorem ZV(F:Filled)(p:Part)(l:List Bd.Row)(n:Nat):QA F p l n p.high=g8 (F++[(p,l)]) n:=by
 unfold QA g8;congr 1;funext y;rw[IQ]
theorem aV(F:Filled)(p:Part){j:Nat}(hr:l[j]?=some r) (hn:p.y+j<n):(QA F p l n j).set (p.y+j) ((piecesAt F (p.y+j)).map rk++(Bd.placed p.x r).map rk)=QA F p l n (j+1):=by
 unfold QA;apply List.ext_getElem (by simp);intro i h1 h2;rw[List.getElem_set,U5,U5,List.getElem_range];by_cases c:p.y+j=i
 .rw[K0 c,<-c,K0 (by lia),V0,show p.y+j-p.y=j by lia,U2,hr];rfl
 .rw[D0 c];by_cases c2:p.y<=i/\i<p.y+j
  .rw[K0 c2,K0 (by lia)]
  .rw[D0 c2,D0 (by lia)]
theorem dZ(F:Filled)(p:Part)(l:List Bd.Row){j:Nat}(hn:p.y+j<n):(QA F p l n j)[p.y+j]?=some ((piecesAt F (p.y+j)).map rk):=by
 unfold QA;rw[P1,d8 hn,QC,D0 (by lia),d3]
def zde:Nat->Piece
 |0=>.S
 |1=>.H
 |2=>.T
 |3=>.B
 |_=>.C
theorem Ar(p:Piece):zde p.rank=p:=by cases p<;>rfl
def XJ(H:Hp)(t:Addr):Nat×Piece:=match H t with
 |some (.tup [.int x,.int k])=>(x.toNat,zde k.toNat)
 |_=>(0,.S)
theorem zaE{q:Nat×Piece}(h:H t=some (.tup ((pI (rk q)).map V.int))):XJ H t=q:=by
 unfold XJ;rw[h];show(((q.1:Int)).toNat,zde ((q.2.rank:Int)).toNat)=q;rw[P4,P4,Ar]
theorem Ve{H:Hp}:∀{ts:List Addr}{l:List (Nat×Piece)},LB H ts ((l.map rk).map pI)->ts.map (XJ H)=l/\∀t∈ts,H t=some (.tup ((pI (rk (XJ H t))).map V.int))
 |[],[],_=>⟨rfl,λt ht=>nomatch ht⟩
 |t::ts,q::l,.cons h r=>by
  obtain⟨e,g⟩:=Ve (ts:=ts) (l:=l) r;have z:=zaE h;refine⟨by rw[C3,e,z],λu hu=>?_⟩;rcases S1.mp hu with rfl|m
  .rw[z];exact h
  .exact g u m
theorem An{H H':Hp}:∀{ts:List Addr},(∀t∈ts,H' t=some (.tup ((pI (rk (XJ H t))).map V.int)))->LB H' ts (((ts.map (XJ H)).map rk).map pI)
 |[],_=>.nil
 |t::ts,h=>.cons (h t (by simp)) (An λu hu=>h u (by simp[hu]))
theorem BX{H:Hp}:∀{ts:List Addr}{l:List (Nat×Piece)},LB H ts ((l.map rk).map pI)->Paired (λt z=>H t=some (.tup [.int z.1,.int z.2])) ts (l.map λq=>(((q.1:Nat):Int),((q.2.rank:Nat):Int)))
 |[],[],_=>.nil
 |t::ts,q::l,.cons h r=>.cons h (BX r)
inductive Bn(K:Frag)(C CW CO CE:Addr)(vs:List V)(H:Hp)(Q:VK)(E:XK):Prop
 |mk (bo bx mk pp p dx op:Addr) (ps as:List Addr) (v0:V) (b:Bond) (w:Wall):vs=[.ref bo,.ref p]->VH K C H bo bx mk pp ps b->OD b->MG CW CO H p dx op v0 as w->Yw w->(match Bd.buildFrom b w w.parts []with
 |.error i=>ZU CE E H i
 |.ok F=>∀(H':Hp)(c:Addr)(cs:List Addr)(rows:List (List (Nat×Piece))),Same H H'->H c=none->H' c=some (.lst (cs.map V.ref))->f7 H' cs (rows.map λr=>r.map rk)->rows.length=w.high->(∀y<w.high,(rows.getD y []).Perm (piecesAt F y))->Q (.ref c) H')->Bn K C CW CO CE vs H Q E
theorem Br(w:Wall):w.parts.length<=w.high*(w.long+1):=lL w w.high
theorem bV(x:Nat)(r:Bd.Row):(Bd.placed x r).length=r.length:=by
 have:=P7 List.length (DJ x r);rw[B0]at this;exact this
theorem zdf(l:List Nat)(i x:Nat):(nL l).set i (.int x)=nL (l.set i x):=by
 unfold nL;rw[List.map_set]
theorem zdg(l:List Nat):(nL l).length=l.length:=B0 _
theorem zdh(h:i<n):Ys n (i:Int)=some i:=by
 unfold Ys;rw[K0 (by lia),K0 (by lia),P4]
theorem ZF(T:oA Kq g9 aq):Mo g9 Pq wq bq true T.D6 2 (Gj aq.C4):=by
 refine T.D6.F.kk T.D6.S λH vs Q E h=>?_;obtain⟨p,v,fr,tb,rfl,hp,k⟩:=h;refine⟨rfl,λhr=>?_⟩;refine⟨_,(T0 (L6 (XS (BC T) hr.mo rfl T.eM.m T.pD T.L8.b O1.passes (F0 (pv 0) (F0 (bK jG A2) (F0 (d6 (F0 (pv 1) Z0)) Z0)))))
  (X0 (bM (pv 0) (pv 1) rfl))),?_⟩
 refine⟨_,rfl,3,rfl,_,rfl,by show 1<=sizeLine;decide,λq nq=>?_⟩;have pq:p≠q:=C1 hp nq;refine⟨p,_,_,_,fr,tb,rfl,T.Z8.D,T.LC,T.ZD,by rw[M0 pq];exact hp,λd H1 nd dp e1 e2 kp=>?_⟩;have dq:d≠q:=λe=>by rw[e,C0]at nd;cases nd
 refine⟨_,rfl,_,rfl,p,_,fr,some d,tb,rfl,e1,T.Z8.D,T.SI,.inr ⟨d,_,rfl,e2,(by show 2<1000;decide),?_⟩⟩;refine k d q _ (by rw[M0 dq]at nd;exact nd) nq dp (by rw[M0 (K2 dp)];exact e1) ?_ (by rw[M0 (K2 dq),kp q (K2 pq) (K2 dq)];exact C0) λb hb hd hq=>by rw[M0 hd,kp b hb hd,M0 hq]
 rw[C0];rfl
theorem Hj(T:oA Kq g9 aq){E:XK}{D:MK}{t1:TE}(h1:Z4 t1 σ H (.int i)) (h:ZU aq.C4 E H i) :
  cY Kq (λ_=>E) (US aq.C4 (Gj aq.C4) (λ_=>E) (Bk t1 yZ)) D σ H:=by
 refine h1 _ ⟨(by show 1<=1000;decide),λz hz=>⟨z,_,true,.none,rfl,C0,λd q H' nd nq dx e1 e2 e3 kp=>⟨rfl,z,_,some d,rfl,e1,T.Z8.E,?_⟩⟩⟩;refine h d q _ (λb o e n=>?_) (LD e2 λφ q=>nomatch q) (LD e3 λφ q=>nomatch q);have bx:b≠z:=C1 e hz;have nd':H d=none:=by
  rw[M0 dx]at nd;exact nd
 have qx:q≠z:=λe=>by
  rw[e,C0]at nq;cases nq
 have nq':H q=none:=by
  rw[M0 qx]at nq;exact nq
 refine LD ?_ n;rw[kp b bx (C1 e nd') (C1 e nq'),M0 bx];exact e
theorem eZ(T:oA Kq g9 aq):Fo Pq wq bq true T.B7 7 (Bn Kq aq.fD aq.cB aq.T3 aq.C4):=by
 refine T.B7.F.kk T.B7.S λH vs Q E h=>?_;obtain⟨bo,bx,mk,pp,p,dx,op,ps,as,v0,b,wl,rfl,B,kE,W,ek,k⟩:=h;refine⟨rfl,λhr=>?_⟩;have zl:=gN;have h8:=W.h8;have l32:=W.l32;have zkT:wl.parts.length<=264:=d4 (Br wl) (NG h8 (by lia):_<=8*33);refine⟨_,(T0 (wI (i:=2) O1 rfl rfl (own:=[("course",3)]) rfl T.B7.S.nd rfl rfl rfl (ZH rfl T.wH (F0 (Q2 (pv 1) rfl) Z0)) (WW ["bond","wall","courses","course","number","panel","rows","step","row"] (Z3 wL) [("course",3)]) (λtk=>(SE 3 T.B7.S)) (λtk=>cA) (λtk=>(d6 Z0)))
  (T0 (E8 O1.po rfl (HN rfl T.wD (F0 (JC T.u9 (UY T) hr (F0 (pv 1) Z0)) Z0)) (IM rfl (aA (SE 4 T.B7.S) (aA (SE 5 T.B7.S) gJ))) (T0 (RC 6 T.B7.S (JC T.P5 (ZR T) hr (F0 (pv 0) (F0 (pv 5) (F0 (JC T.cG (Cj T) hr (F0 (pv 1) (F0 (pv 5) Z0))) (F0 (JC T.eB (He T) hr (F0 (pv 1) (F0 (pv 5) (F0 (pv 2) Z0)))) Z0))))))
  (T0 (Q6 (V3 (Tu hr.units0) (pv 6) (d6 Z0) (U3 _)) (X0 (SS O1 rfl (LN (T.Z8.k0 T.D6) (ZF T) hr.mo rfl T.Z8.m T.D6.b O1 (F0 (pv 4) Z0)))) T4)
  (X0 (E8 O1.po rfl (HN rfl T.wD (F0 (pv 6) Z0)) (IM rfl (aA (SE 7 T.B7.S) (aA (SE 8 T.B7.S) gJ))) (X0 (L6 (mE P2 Q8 R8 mI (O7 Z6 (pv 2) (W4 uC (Q2 (pv 5) rfl) (pv 7)) (λ_ _=>rfl)) (F0 (JC T.RB (Me T) hr (F0 (pv 8) (F0 (Q2 (pv 5) rfl) Z0))) Z0)))))))))
  (X0 (S3 (bD O1 rfl rfl (own:=[("course",3)]) rfl T.B7.S.nd (L7 (pv 2)) (WW ["bond","wall","courses","course","number","panel","rows","step","row"] (Z3 wL) [("course",3)]) (λtk=>(SE 3 T.B7.S)) (λtk=>cA) (λtk=>(FA (Mh (K:=Kq) rfl) rfl T.Fd VW (F0 (pv 3) Z0)))))))),?_⟩
 refine⟨_,rfl,p,_,dx,_,_,rfl,W.at_,T.pA.c,T.RH,rfl,_,rfl,by lia,by lia,λc nc=>?_⟩;rw[show((wl.high:Int)).toNat=wl.high by lia];refine IS (lo:=0) (n:=wl.high) (λi H'=>∃(cs:List Addr),A6 (Same H H') (H' c=some (.lst (cs.map V.ref))) (f7 H' cs (List.replicate i [])) (c∉cs) cs.Nodup (∀r∈cs,H r=none)) ⟨[],(Same.refl _).new nc,C0,.nil,by simp,.nil,λr hr=>nomatch hr⟩ ?_ ?_
 .rintro i H' hi ⟨cs,s1,hc,rows,nr,nd,new⟩;refine⟨rfl,E1 _,λr nr'=>?_⟩;have lcs:=K1 rows;rw[n8]at lcs;have cr:c≠r:=C1 hc nr';have s2:Same H' (upd H' r (.lst [])):=(Same.refl _).new nr';have rcs:r∉cs:=λz=>by obtain⟨ys,e⟩:=rows.lists r z;rw[nr']at e;cases e
  refine⟨_,s2 _ _ hc,(by rw[B0];lia),cs++[r],(s1.trans s2).set nc,?_,?_,?_,?_,?_⟩
  .rw[C0,V0];rfl
  .rw[List.replicate_succ'];exact K4 (f7.upd (s2 _ _ hc) (f7.same s2 rows) nr) ⟨[],by rw[M0 (K2 cr)];exact C0,.nil⟩
  .simp only[N2,Q1,dL];exact⟨nr,cr⟩
  .rw[List.nodup_append];exact⟨nd,by simp,λx hx y hy=>by rw[Q1.mp hy];exact λz=>rcs (by rw[<-z];exact hx)⟩
  .intro x hx;rcases N2.mp hx with m|m
   .exact new x m
   .rw[Q1.mp m];exact s1.free nr'
 .rintro H1 ⟨cs,s1,hc,rows,nr,nd,new⟩;have lcs:=K1 rows;rw[n8]at lcs;refine⟨_,rfl,p,dx,op,v0,as,wl,rfl,W.same s1,λH2 q ts s2 nq hq tt=>?_⟩;have UG:=s1.trans s2;have qZ:=s2 _ _ hc;have zbX:f7 H2 cs (g8 [] wl.high):=by
   have z:=f7.same s2 rows;have e:List.replicate wl.high ([]:List (Nat×Nat))=g8 [] wl.high:=by
    show _=(List.range wl.high).map λ_=>([]:List (Nat×Nat))
    rw[List.map_const',T7]
   rw[e]at z;exact z
  have zi2:=zbX.lists;have qcs:q∉cs:=λz=>by obtain⟨ys,e⟩:=rows.lists q z;rw[nq]at e;cases e
  have ltp:ts.length=wl.parts.length:=K1 tt;have Mr:∀{G:Hp},aS cs H2 G->Same H G:=λf b o e=>f _ _ (UG _ _ e) λz=>by rw[new b z]at e;cases e
  refine⟨q,_,rfl,SqL.of hq,IL (K:=Kq) (a:=q) (xs:=ts.map V.ref) (λi σ H'=>E7 λ(v3 v4 v5 v6 v7 v8:Option V)(F:Filled)=>A7 (σ=[some (.ref bo),some (.ref p),some (.ref c),v3,v4,v5,v6,v7,v8]) (aS cs H2 H') (f7 H' cs (g8 F wl.high)) (Rr wl F) (F.length=i) (Bd.buildFrom b wl wl.parts []=Bd.buildFrom b wl (wl.parts.drop i) F) (∀y,(piecesAt F y).length<=32*i))
   ⟨none,none,none,none,none,none,[],rfl,λ_ _ e _=>e,zbX,Tl _,rfl,rfl,λy=>E1 _⟩ (by rintro i σ H' _ ⟨_,_,_,_,_,_,_,_,f,_⟩;exact SqL.of (f _ _ hq qcs)) ?_ ?_⟩
  .rintro i v σ H' T' hi ⟨v3,v4,v5,v6,v7,v8,F,rfl,off,rF,fok,lF,bu,pc⟩ nT;obtain⟨t,ht,rfl⟩:=b9 hi;obtain⟨pt,hpt,dt,pn⟩:=Paired.get tt ht;have il:=(N0.mp hpt).1;have ptm:=N1 hpt;obtain⟨hi1,hyh⟩:=wT ptm;obtain⟨_,x1,x2,_⟩:=mY ptm (j1 _) (show pt.y<pt.y+pt.high by lia);have tcs:t∉cs:=λz=>by obtain⟨ys,e⟩:=zi2 t z;rw[pn]at e;cases e
   refine⟨T',_,rfl,.inl (.inl C0),rfl,_,_,rfl,_,_,rfl,rfl,?_⟩;have s3:Same H' (upd H' T' (.tup [.int i,.ref t])):=(Same.refl _).new nT;generalize upd H' T' (.tup [.int i,.ref t])=H3 at s3;have zdO:aS cs H2 H3:=λb o e n=>s3 _ _ (off b o e n);have lcF:(g8 F wl.high).length=wl.high:=by unfold g8;rw[B0,T7]
   refine⟨_,rfl,_,rfl,_,rfl,_,rfl,p,dx,op,t,v0,as,wl,pt,rfl,W.same (Mr zdO),⟨dt,zdO _ _ pn tcs⟩,λH4 te s4 hte=>?_⟩;have eW:aS cs H2 H4:=λb o e n=>s4 _ _ (zdO b o e n);refine⟨_,rfl,_,rfl,_,rfl,p,dx,op,t,c,v0,as,cs,wl,pt,g8 F wl.high,rfl,W.same (Mr eW),⟨dt,eW _ _ pn tcs⟩,eW _ _ qZ nr,(rF.same s3).same s4,by lia,by lia,λH5 s5=>?_⟩;have zdP:aS cs H2 H5:=λb o e n=>s5 _ _ (eW b o e n);refine⟨bo,bx,mk,pp,t,te,ps,b,pt,wl.panelOf pt,floorOf F pt,by rw[Zw fok (by lia)];rfl,B.same (Mr zdP),kE,⟨dt,zdP _ _ pn tcs⟩,rfl,rfl,rfl,by lia,by lia,hi1,by lia,by lia,s5 _ _ hte,?_,?_,zaD λj hj=>?_,λH6 q6 us s6 nq6 hq6 ra=>?_⟩
   .show(if pt.x=0 then wl.left else wl.reveal)<=2;split
    .exact ek.l
    .exact ek.v
   .show(if pt.x+pt.long=wl.long then wl.right else wl.reveal)<=2;split
    .exact ek.r
    .exact ek.v
   .by_cases h0:pt.y=0
    .unfold floorOf at hj;rw[K0 h0]at hj;cases hj
    .have:=((LW fok h0 j).mp hj).1
     lia
   have dr:wl.parts.drop i=pt::wl.parts.drop (i+1):=by
    rw[O6 il];congr 1;exact(N0.mp hpt).2
   rw[dr,UT]at bu;have zi4:aS cs H2 H6:=λb o e n=>s6 _ _ (zdP b o e n);have My:=ra.len;refine⟨_,rfl,E1 _,λz nz=>⟨q6,z,us.map V.ref,rfl,rfl,SqL.of (by rw[M0 (C1 hq6 nz)];exact hq6),SqL.of C0,_,rfl,?_⟩⟩;have s7:Same H6 (upd H6 z (.lst [])):=(Same.refl _).new nz;generalize upd H6 z (.lst [])=H7 at s7;have zdQ:aS cs H2 H7:=λb o e n=>s7 _ _ (zi4 b o e n);cases e:fillOf b (wl.panelOf pt) (floorOf F pt)with
   |none=>
    rw[e]at bu My;rw[bu]at k;have us0:us=[]:=X3.mp My;rw[us0];refine b7 (Hj T (jQ rfl) ?_);rw[lF]at k;exact k.same (Mr zdQ)
   |some l=>
    rw[e]at bu My ra;dsimp only at bu;have My:us.length=l.length:=My;have ra:Q5 Kq H6 us l:=ra;have zdR:=Rb fok ptm e;have lh:l.length=pt.high:=zdR.high (pt,l) (by simp);have ll:∀r∈l,lengthOf r=pt.long:=zdR.long (pt,l) (by simp);have ne:(us.map V.ref).isEmpty=false:=by
     cases us with
     |nil=>simp at My;lia
     |cons _ _=>rfl
    rw[ne];have zbY:f7 H7 cs (QA F pt l wl.high 0):=by
     rw[Ue];exact((((rF.same s3).same s4).same s5).same s6).same s7
    have zi5:=zbY.lists;have zi6:q6∉cs:=λz=>by
     obtain⟨ys,e⟩:=(((rF.same s3).same s4).same s5).lists q6 z;rw[nq6]at e;cases e
    refine S7 ⟨_,rfl,q6,_,rfl,SqL.of (s7 _ _ hq6),IL (K:=Kq) (a:=q6) (xs:=us.map V.ref) (λj σ G=>E2 λ(v7 v8:Option V)=>A3 (σ=[some (.ref bo),some (.ref p),some (.ref c),v3,some (.int i),some (.ref t),some (.ref q6),v7,v8]) (aS cs H7 G) (f7 G cs (QA F pt l wl.high j)))
     ⟨_,_,rfl,λ_ _ e _=>e,zbY⟩ (by rintro j σ G _ ⟨_,_,_,f,_⟩;exact SqL.of (f _ _ (s7 _ _ hq6) zi6)) ?_ ?_⟩
    .rintro j v σ G T2 hj ⟨v7,v8,rfl,oG,rG⟩ nT2;obtain⟨u,hu,rfl⟩:=b9 hj;obtain⟨r,YJ,su⟩:=Paired.get ra hu;have jl:=(N0.mp YJ).1;have rl:=ll r (N1 YJ);have rl2:=pC r;refine⟨T2,_,rfl,.inl (.inl C0),rfl,_,_,rfl,_,_,rfl,rfl,?_⟩;have s8:Same G (upd G T2 (.tup [.int j,.ref u])):=(Same.refl _).new nT2;generalize upd G T2 (.tup [.int j,.ref u])=G2 at s8;have o8:aS cs H7 G2:=λb o e n=>s8 _ _ (oG b o e n);have o28:aS cs H2 G2:=λb o e n=>o8 b o (zdQ b o e n) n;have pn8:=o28 _ _ pn tcs;have kn:pt.y+j<wl.high:=by lia
     obtain⟨r',hk,ts',Kr,tt'⟩:=Paired.getR (rG.same s8) (dZ F pt l kn);have Ly:=K1 tt';rw[B0,B0]at Ly;have pcy:=pc (pt.y+j);refine⟨_,rfl,_,rfl,t,_,dt,_,_,rfl,pn8,T.l8.c,T.M9,rfl,_,rfl,_,_,rfl,rfl,c,_,_,.ref r',rfl,rfl,SqL.of (o28 _ _ qZ nr),NS (j:=pt.y+j) (by lia) (by rw[P1,hk];rfl),.inl ⟨rfl,_,SqL.of Kr⟩,_,rfl,_,rfl,t,_,dt,_,_,rfl,pn8,T.l8.c,T.sB,rfl,u,r,pt.x,rfl,o8.tup zi5 (s7.tup su),by lia,λH9 q9 ws s9 hq9 tw=>?_⟩;have lws:=K1 tw;rw[B0,bV]at lws;refine⟨r',q9,_,_,rfl,rfl,s9 _ _ Kr,hq9,(by rw[B0,B0];lia),?_⟩;have rcs:=N1 hk;refine⟨_,_,rfl,λb o e n=>by rw[M0 (λz=>n (by rw[z];exact rcs))];exact s9 _ _ (o8 b o e n),?_⟩;rw[<-aV F pt YJ kn,<-V0];refine f7.put (s9 _ _ Kr) ?_ ((rG.same s8).same s9) nd hk;rw[V0];have tw':LB H9 ws (((Bd.placed pt.x r).map rk).map pI):=by
      rw[B3];exact tw
     exact zhE (LB.same s9 tt') tw'
    .rintro σ G ⟨v7,v8,rfl,oG,rG⟩;rw[B0,My,lh,ZV]at rG;refine⟨_,_,_,_,_,_,F++[(pt,l)],rfl,λb o e n=>oG b o (zdQ b o e n) n,rG,zdR,by rw[Y1,lF];rfl,bu,λy=>?_⟩;rw[IQ,Y1];have z1:=pc y;have z2:(if pt.y<=y/\y<pt.y+pt.high then Bd.placed pt.x (l.getD (y-pt.y) [])else[]).length<=32:=by
      split
      .rename_i h;have yl:y-pt.y<l.length:=by lia
       rw[bV,U2,O0 yl];have z3:=ll _ (FE yl);have z4:=pC l[y-pt.y];show l[y-pt.y].length<=32
       lia
      .exact E1 _
     lia
  .rintro σ G ⟨v3,v4,v5,v6,v7,v8,F,rfl,off,rF,fok,lF,bu,pc⟩;rw[B0,ltp,iC]at bu;rw[bu]at k;have k:∀(H':Hp)(c:Addr)(cs:List Addr)(rows:List (List (Nat×Piece))),Same H H'->H c=none->H' c=some (.lst (cs.map V.ref))->f7 H' cs (rows.map λr=>r.map rk)->rows.length=wl.high->(∀y<wl.high,(rows.getD y []).Perm (piecesAt F y))->Q (.ref c) H':=k;have hcG:=off _ _ qZ nr;have lcF:(g8 F wl.high).length=wl.high:=by unfold g8;rw[B0,T7]
   refine⟨_,rfl,c,rfl,⟨_,SqL.of hcG⟩,λL nL=>?_⟩;refine RF (K:=Kq) (a:=c) (xs:=cs.map V.ref) (λi G2=>E2 λ(rs:List Addr)(rows:List (List (Nat×Piece)))=>A6 (Same G G2) (G2 L=some (.lst (rs.map V.ref))) (f7 G2 rs (rows.map λr=>r.map rk)) (L∉rs) (rows.length=i) (∀y<i,(rows.getD y []).Perm (piecesAt F y)))
    ⟨[],[],(Same.refl _).new nL,C0,.nil,by simp,rfl,λy hy=>by lia⟩ (by rintro i G2 _ ⟨_,_,s,_⟩;exact SqL.of (s _ _ hcG)) ?_ ?_
   .rintro i v G2 hi ⟨rs,Tn,s2',hL,rr,nL',lr,pm⟩;obtain⟨r,YJ,rfl⟩:=b9 hi;have icl:=(N0.mp YJ).1;obtain⟨VG,SL,ts',Kr,tt'⟩:=Paired.get (rF.same s2') YJ;obtain rfl:(piecesAt F i).map rk=VG:=by
     unfold g8 at SL;rw[P1,d8 (by lia)]at SL;exact J0 SL
    have lrs:=K1 rr;rw[B0]at lrs;obtain⟨em,eg⟩:=Ve tt';refine⟨rfl,_,rfl,r,ts',_,rfl,SqL.of Kr,BX tt',λys z pmy nz=>?_⟩;have s3:Same G2 (upd G2 z (.lst (ys.map V.ref))):=(Same.refl _).new nz;have hz:upd G2 z (.lst (ys.map V.ref)) z=some (.lst (ys.map V.ref)):=C0;generalize upd G2 z (.lst (ys.map V.ref))=G3 at s3 hz;have hL3:=s3 _ _ hL;have Lz:L≠z:=C1 hL nz;refine⟨_,hL3,(by rw[B0];lia),rs++[z],Tn++[ys.map (XJ G2)],(s2'.trans s3).set nL,by rw[C0,V0];rfl,?_,?_,by rw[Y1,lr];rfl,λy hy=>?_⟩
    .rw[V0];refine K4 (f7.upd hL3 (f7.same s3 rr) nL') ⟨ys,by rw[M0 (K2 Lz)];exact hz,LB.upd (An λt ht=>?_) hL3⟩;exact s3 _ _ (eg t (pmy.mem_iff.mp ht))
    .simp only[N2,Q1,dL];exact⟨nL',Lz⟩
    .rw[U2,List.getElem?_append];by_cases c:y<Tn.length
     .rw[K0 c,<-U2];exact pm y (by lia)
     .obtain rfl:y=i:=by lia
      rw[D0 c,show y-Tn.length=0 by lia];show(ys.map (XJ G2)).Perm _;have z:=pmy.map (XJ G2);rw[em]at z;exact z
   .rintro G2 ⟨rs,Tn,s2',hL,rr,nL',lr,pm⟩;rw[B0,lcs]at lr pm;exact k _ L rs Tn ((Mr off).trans s2') ((Mr off).free nL) hL rr lr pm
theorem Cr(l:List Piece)(p:Piece):(rA l).set p.rank ((rA l).getD p.rank 0+1)=rA (l++[p]):=by
 have e:∀q,fV q (l++[p])=fV q l+fV q [p]:=λq=>Il q l [p];unfold rA PIECES;simp only[List.map,e];cases p<;>rfl
theorem zaF(l:List Piece)(p:Piece):(rA l)[p.rank]?=some ((rA l).getD p.rank 0):=by
 cases p<;>rfl
theorem zaG{rows:List (List (Nat×Piece))}(f:Rr w F) (lr:rows.length=w.high) (pm:∀y<w.high,(rows.getD y []).Perm (piecesAt F y)):rA (rows.flatMap λr=>r.map Prod.snd)=rA (allPieces F):=by
 unfold rA;apply Y5;intro p _;rw[<-Pp f p,pL,<-GT (λr:List (Nat×Piece)=>fV p (r.map Prod.snd)) [] rows,lr];refine qH λk hk=>?_;exact(((pm k hk).map Prod.snd).filter _).length_eq
inductive DX(vs:List V)(H:Hp)(Q:VK)(E':XK):Prop
 |mk (c:Addr) (cs:List Addr) (rows:List (List (Nat×Piece))):vs=[.ref c]->H c=some (.lst (cs.map V.ref))->f7 H cs (rows.map λr=>r.map rk)->(∀(H':Hp)(l:Addr),Same H H'->H l=none->H' l=some (.lst (nL (rA (rows.flatMap λr=>r.map Prod.snd))))->Q (.ref l) H')->DX vs H Q E'
theorem aP(T:oA Kq g9 aq):Fo Pq wq bq true T.K8 1 DX:=by
 refine T.K8.F.kk T.K8.S λH vs Q E h=>?_;obtain⟨c,cs,Tn,rfl,hc,rows,k⟩:=h;refine⟨rfl,λhr=>?_⟩;have zl:=gN;have lcs:=K1 rows;rw[B0]at lcs;refine⟨_,(T0 (RC 1 T.K8.S (W4 zco (d6 (F0 A2 Z0)) (FA SX rfl T.UA Nh (F0 (aC (v:=.str "SHTBC") rfl T.ZW ⟨_,rfl⟩) Z0))))
  (T0 (E8 O1.po rfl (L7 (pv 0)) (SE 2 T.K8.S) (X0 (E8 O1.po rfl (L7 (pv 2)) (SE 3 T.K8.S) (X0 (Sy (pv 1) (O7 XC (pv 3) A2 (λ_ _=>rfl)) Jv A2 wS Zs)))))
  (X0 (S3 (pv 1))))),?_⟩
 refine⟨by show 1<=sizeLine;lia,λd nd=>⟨_,rfl,by decide +kernel,d,_,_,rfl,rfl,C0,by decide +kernel,by decide +kernel,by decide +kernel,λl nl=>?_⟩⟩;have e0:(List.replicate ((((("SHTBC": Str).length:Nat):Int)).toNat) [V.int 0]).flatten=nL (rA []):=by rfl
 rw[e0];have s1:Same H (upd H d (.lst [.int 0])):=(Same.refl _).new nd;have nlH:=s1.free nl;have s2:Same (upd H d (.lst [.int 0])) (upd (upd H d (.lst [.int 0])) l (.lst (nL (rA [])))):=(Same.refl _).new nl;have UG:=s1.trans s2;have Wr:upd (upd H d (.lst [.int 0])) l (.lst (nL (rA []))) l=some (.lst (nL (rA []))):=C0;generalize upd (upd H d (.lst [.int 0])) l (.lst (nL (rA [])))=H2 at UG Wr;refine⟨_,rfl,c,rfl,⟨_,SqL.of (UG _ _ hc)⟩,DA (K:=Kq) (a:=c) (xs:=cs.map V.ref) (λi σ H'=>E2 λ(v2 v3:Option V)=>A3 (σ=[some (.ref c),some (.ref l),v2,v3]) (Same H H') (H' l=some (.lst (nL (rA ((Tn.take i).flatMap λr=>r.map Prod.snd))))))
  ⟨none,none,rfl,UG,Wr⟩ (by rintro i σ H' _ ⟨_,_,_,s,_⟩;exact SqL.of (s _ _ hc)) ?_ ?_⟩
 .rintro i v σ H' hi ⟨v2,v3,rfl,sm,hl⟩;obtain⟨r,YJ,rfl⟩:=b9 hi;obtain⟨zi9,SL,ts,Kr,tt⟩:=Paired.get rows YJ;rw[P1]at SL;obtain⟨VG,hw,rfl⟩:∃VG,Tn[i]?=some VG/\zi9=VG.map rk:=by
   cases e:Tn[i]? with
   |none=>rw[e]at SL;cases SL
   |some q=>rw[e]at SL;exact⟨q,rfl,(J0 SL).symm⟩
  have ltt:=K1 tt;rw[B0,B0]at ltt;have ti:((Tn.take (i+1)).flatMap λr=>r.map Prod.snd)=((Tn.take i).flatMap λr=>r.map Prod.snd)++VG.map Prod.snd:=by
   rw[Q3 hw,xC];simp
  rw[ti];generalize ((Tn.take i).flatMap λr=>r.map Prod.snd)=pre at hl;refine⟨_,rfl,r,rfl,⟨_,SqL.of (sm _ _ Kr)⟩,DA (K:=Kq) (a:=r) (xs:=ts.map V.ref) (λj σ G=>∃(v3:Option V),A3 (σ=[some (.ref c),some (.ref l),some (.ref r),v3]) (Same H G) (G l=some (.lst (nL (rA (pre++(VG.take j).map Prod.snd))))))
   ⟨v3,rfl,sm,by rw[List.take_zero,fC,d3];exact hl⟩ (by rintro j σ G _ ⟨_,_,s,_⟩;exact SqL.of (s _ _ Kr)) ?_ ?_⟩
  .rintro j v σ G hj ⟨v3,rfl,sg,hg⟩;obtain⟨u,hu,rfl⟩:=b9 hj;obtain⟨zi,Zx,hu6⟩:=Paired.get tt hu;rw[P1,P1]at Zx;obtain⟨q,hq,rfl⟩:∃q,VG[j]?=some q/\zi=pI (rk q):=by
    cases e:VG[j]? with
    |none=>rw[e]at Zx;cases Zx
    |some q=>rw[e]at Zx;exact⟨q,rfl,(J0 Zx).symm⟩
   have tj:pre++(VG.take (j+1)).map Prod.snd=(pre++(VG.take j).map Prod.snd)++[q.2]:=by
    rw[Q3 hq,V0,<-R7];rfl
   rw[tj];generalize pre++(VG.take j).map Prod.snd=pj at hg;have at5:=zaF pj q.2;have l5:q.2.rank<(nL (rA pj)).length:=by
    rw[zdg];exact(N0.mp at5).1
   refine⟨_,rfl,_,rfl,u,_,_,_,rfl,rfl,.inl (.inl (sg _ _ hu6)),S5 (j:=1) rfl,l,_,q.2.rank,_,rfl,rfl,SqL.of hg,by unfold nL;rw[P1,at5];rfl,_,_,rfl,rfl,l,_,_,q.2.rank,rfl,rfl,hg,zdh l5,?_⟩;refine⟨_,rfl,sg.set nlH,?_⟩;rw[C0,<-Cr,<-zdf];rfl
  .rintro σ G ⟨v3,rfl,sg,hg⟩;rw[B0,ltt,V1]at hg;exact⟨_,v3,rfl,sg,hg⟩
 .rintro σ H' ⟨v2,v3,rfl,sm,hl⟩;rw[B0,lcs,V1]at hl;exact⟨_,rfl,k _ l sm nlH hl⟩
end Wb
section
namespace Wb
open PySem PySem.Spec PyProof.Rows L2 Wm
open PySem.W (Codec)
variable {t:Bytes}{x:List HV×List Opening}
theorem Cn(ns:List Int)(hb:∀x∈ns,0<=x/\x<=255):ns.map V.int=iB (SiteNeutral.text ns)/\(SiteNeutral.text ns).length=ns.length:=by
 refine⟨?_,B0 _⟩;unfold iB SiteNeutral.text;rw[B3];refine Y5 λx hx=>?_;obtain⟨h0,h1⟩:=hb x hx;show V.int x=V.int (((UInt8.ofNat x.toNat).toNat:Nat):Int);rw[UInt8.toNat_ofNat',Nat.mod_eq_of_lt (by lia),Int.toNat_of_nonneg h0]
theorem Dn:∀{vE:List Bytes}{i:Nat}{h:List HV}{o:List Opening}{x:List HV×List Opening},yI vE i h o=.ok x->zM h->h.length<=6->o.length<=8->x.2.length<=8
 |[],i,h,o,x,e,_,_,o8=>by
  obtain rfl:=b3 e;exact o8
 |l::r,i,h,o,x,e,kd,h6,o8=>by
  rw[yI]at e;cases ht:oH h o l with
  |error k=>rw[ht]at e;cases e
  |ok z=>
   rw[ht]at e;obtain⟨q1,q2,q3⟩:=lX (h':=z.1) (os':=z.2) ht kd h6 o8;exact Dn (x:=x) e q3 q1 q2
theorem Ax{z:List Bytes×Bytes}(e:MF z=.ok x):x.2.length<=8:=by
 unfold MF at e;cases hr:yI z.1 0 [] []with
 |error k=>rw[hr]at e;cases e
 |ok y=>
  rw[hr]at e;dsimp only at e;by_cases q:y.1.length<6\/z.2≠[]
  .rw[K0 q]at e;cases e
  .rw[D0 q]at e;obtain rfl:=b3 e;exact Dn hr (λn x h=>by simp at h) (by decide) (by decide)
theorem Bx{s:BS}(h:RQ t=.ok s):OD s.2:=by
 have e:judge t=.ok s.2:=by
  rw[Xk];unfold RQ at h;rw[h]
 exact Mp e
theorem zdi(h:MF (fl 10 t)=.ok x):Yw (NF x.1 x.2):=by
 have e:judgeWall t=.ok (NF x.1 x.2):=by
  rw[Ga,h]
 obtain⟨h1,h2,h3,_⟩:=zaa e;exact⟨h1,h2,h3⟩
theorem We{b:Bond}{w:Wall}:∀{r:List Part}{F G:Filled},Bd.buildFrom b w r F=.ok G->Rr w F->(∀p∈r,p∈w.parts)->Rr w G
 |[],F,G,h,f,_=>by
  obtain rfl:=b3 h;exact f
 |p::r,F,G,h,f,m=>by
  rw[UT]at h;cases e:fillOf b (w.panelOf p) (floorOf F p)with
  |none=>rw[e]at h;cases h
  |some l=>
   rw[e]at h;exact We h (Rb f (m p (by simp)) e) λq hq=>m q (by simp[hq])
theorem Dr(T:oA Kq g9 aq):Fo Pq wq bq true T.OI 17 (VI Kq):=by
 refine T.OI.F.kk T.OI.S λH vs Q E h=>?_;obtain⟨lb,lt,b,t,rfl,hB,hbl,hT,htl,k⟩:=h;refine⟨rfl,λhr=>?_⟩;have zl:=gN;have roT:oX Kq aq.f8 aq.lC:=⟨T.zO,T.MI.D,T.QI,T.HL⟩
 have roF:oX Kq aq.f8 aq.U4:=⟨T.nM,T.n9.D,T.KG,T.RI⟩
 have roP:oX Kq aq.f8 aq.C4:=⟨T.XG,T.Z8.D,T.LC,T.ZD⟩
 obtain⟨wt1,oZ⟩:∃wt1:WX,wt1=WQ Kq aq.f8 4 (UI b t):=⟨_,rfl⟩
 refine⟨_,(T0 (Pg (Wt:=wt1) rfl rfl (λpn xe tk1=>(T0 (L6 (pcg T.KC (NU T) hr.mo tk1.passes (F0 (d6 (F0 (pv 0) (F0 (pv 1) Z0))) Z0)))
  (X0 (RC 2 T.OI.S (pcg T.B7 (eZ T) hr.mo tk1.passes (F0 (pcg T.gF (XY T) hr.mo tk1.passes (F0 (pv 0) Z0)) (F0 (pcg T.iF (TY T) hr.mo tk1.passes (F0 (pv 1) Z0)) Z0))))))) (Vt (i:=3) O1 rfl rfl T.OI.S.nd rfl rfl rfl T.eM.m (λea pn xe zaZ=>(X0 (S3 (pcg T.fM (Wi T) (hr.mark).mo zaZ.passes (F0 (pv 3) Z0))))) (Og O1)))
  (X0 (S3 (JC T.GL (cX T) hr (F0 A2 (F0 (JC T.K8 (aP T) hr (F0 (pv 2) Z0)) (F0 (d6 Z0) Z0))))))),?_⟩
 refine⟨⟨_,rfl,_,rfl,(by show 2<=sizeLine;decide),λp1 n1=>?_⟩,?_⟩
 .have s1:Same H (upd H p1 (.lst [.ref lb,.ref lt])):=(Same.refl _).new n1;refine⟨p1,[lb,lt],[b,t],rfl,C0,.cons (s1.seq hB) (.cons (s1.seq hT) .nil),?_⟩;generalize upd H p1 (.lst [.ref lb,.ref lt])=H1 at s1;show if ((decide (4096<b.length)||(decide (4096<t.length)||false))=true)then _ else _
  by_cases q:4096<b.length\/4096<t.length
  .rw[K0 (by simp only[EM,W3,P0];exact q)];intro d' q' H' sm e e2;rw[oZ];exact WQ.none rfl roT e e2 (K0 q)
  .rw[D0 (by simp only[EM,W3,P0];exact q)];have dw:UI b t=match RQ b with
    |.error _=>[-6,0,0]
    |.ok s=>match MF (fl 10 t)with
     |.error _=>[-6,0,0]
     |.ok x=>match Bd.buildFrom s.2 (NF x.1 x.2) (NF x.1 x.2).parts []with
      |.error i=>[-3,1,(i:Int),0]
      |.ok F=>0::5::((rA (allPieces F)).map (λ(n:Nat)=>(n:Int))++[0]):=D0 q
   refine⟨_,rfl,lb,b,rfl,s1.seq hB,hbl,?_⟩;cases hr1:RQ b with
   |error e=>
    rw[hr1]at dw;intro fr d' q' H' sm ee e2;rw[oZ];exact WQ.text rfl roF ee e2 dw
   |ok s=>
    rw[hr1]at dw;dsimp only at dw;intro H2 bo s2 ⟨bx,mk,pp,ps,B⟩;refine⟨_,rfl,lt,t,rfl,s2.seq (s1.seq hT),htl,?_⟩;cases hr2:MF (fl 10 t)with
    |error e=>
     rw[hr2]at dw;intro fr d' q' H' sm ee e2;rw[oZ];exact WQ.text rfl roF ee e2 dw
    |ok x=>
     rw[hr2]at dw;dsimp only at dw;intro H3 p s3 WA;have r8:=Ax hr2;obtain⟨dx,op,v0,as,W⟩:=WA.is (Wq hr2) (by lia);have ek:=zdi hr2;generalize NF x.1 x.2=wl at W dw ek;refine⟨bo,bx,mk,pp,p,dx,op,ps,as,v0,s.2,wl,rfl,B.same s3,Bx hr1,W,ek,?_⟩;cases hc:Bd.buildFrom s.2 wl wl.parts []with
     |error i=>
      rw[hc]at dw;intro d' q' H' sm ee e2;rw[oZ];exact⟨rfl,d',q',_,-3,[(i:Int)],rfl,roP,ee,rfl,rfl,e2,by show 1<=1000;decide,dw⟩
     |ok F=>
      rw[hc]at dw;dsimp only at dw;intro H4 c cs Tn s4 nc hcc rows lr pm;have h8:=W.h8;have l32:=W.l32;refine⟨_,rfl,c,cs,Tn,rfl,hcc,rows,λH5 z s5 nz hz=>⟨E1 _,λr nr=>?_⟩⟩;rw[zaG (We hc (Tl _) λp hp=>hp) lr pm]at hz;refine⟨0,z,r,(rA (allPieces F)).map (λ(n:Nat)=>(n:Int)),[],rfl,?_,C0,by show 5<=100000;decide,by decide,λH' q _ e=>k H' q ?_⟩
      .rw[M0 (C1 hz nr),hz];unfold nL;rw[B3];rfl
      .rw[e,dw];rfl
 .intro ea C fr dx σ' H6 live wt;rw[oZ]at wt;obtain⟨Tb,hT,l1,l2⟩:=live;obtain⟨ls,d,q,F,n,ns,rfl,ro,ed,f1,f2,hq,Fn,dw⟩:=wt;refine⟨true,ro.x,?_⟩;rw[K0 rfl];have g:(σ'.set 3 (some (.ref ea)))[3]?=some (some (.ref ea)):=K6 (by lia);exact⟨_,g,ea,C,d,q,fr,.ref Tb,F,n,ns,rfl,l1,aG ed,ro.D,ro.nn,ro.nt,f1,f2,aG hq,Fn,λH' p _ e=>k H' p (by rw[e,dw])⟩
theorem zdj(b t:List Int):PyWqbnhd.counts b t=UI (SiteNeutral.text b) (SiteNeutral.text t):=by
 show SiteNeutral.f [[6],b,t]=_;unfold SiteNeutral.f;show(let a:=BdSiteCalls.answer (.counts (SiteNeutral.text b) (SiteNeutral.text t));a.ret::(a.nums.length:Int)::(a.nums++(a.bytes.length:Int)::a.bytes.map λ(b:UInt8)=>(b.toNat:Int)))=_;generalize SiteNeutral.text b=b;generalize SiteNeutral.text t=t;unfold UI;have e:BdSiteCalls.answer (.counts b t)=if BdSiteCalls.TEXT<b.length\/BdSiteCalls.TEXT<t.length then BdSiteCalls.BAD else(match judge b with
  |.error _=>BdSiteCalls.FORM
  |.ok c=>if BdSiteCalls.TEXT<t.length then BdSiteCalls.BAD else match judgeWall t with
   |.error _=>BdSiteCalls.FORM
   |.ok w=>match w.built c with
    |.error n=>BdSiteCalls.tells (-3) [n]
    |.ok F=>BdSiteCalls.tells 0 (BdSiteCalls.kindsOf (allPieces F))):=rfl
 rw[e];by_cases q2:4096<b.length\/4096<t.length
 .rw[K0 (show BdSiteCalls.TEXT<b.length\/BdSiteCalls.TEXT<t.length from q2),K0 q2];rfl
 rw[D0 (show ¬(BdSiteCalls.TEXT<b.length\/BdSiteCalls.TEXT<t.length)from q2),D0 q2,Xk];unfold RQ;cases hb:vG vA UN (0,rE) (fl 10 b)with
 |error f=>rfl
 |ok s=>
  dsimp only;rw[D0 (show ¬BdSiteCalls.TEXT<t.length from λz=>q2 (.inr z)),Ga];cases MF (fl 10 t)with
  |error f=>rfl
  |ok x=>
   dsimp only;unfold Wall.built;cases Bd.buildFrom s.2 (NF x.1 x.2) (NF x.1 x.2).parts []with
   |error e=>rfl
   |ok F=>rfl
theorem zdk{P:Program}{w:World}{K:Frag}{mg:Str->Option Value}{h:Heap}{fa:Addr}(KX:K.In h) (z:∃a:Ad,fa=a.AL/\oA K mg a/\∀(s:Shared)(us:List Value),us.length=(["b","t"]:List Str).length->BindsTo s a.HG ⟨us,[]⟩ ((["b","t"]:List Str).zip us)) :
  ∃fd:FuncData,(∀(s:Shared)(us:List Value),us.length=(["b","t"]:List Str).length->BindsTo s fd ⟨us,[]⟩ ((["b","t"]:List Str).zip us))/\∀base:Heap,K.In base->base.Ns mainGlobals mg->xA P w K mg base (kR P w) true 17 fa fd ["b","t"] (VI K):=by
 obtain⟨a,rfl,T,b⟩:=z;exact⟨a.HG,b,λbase _ _=>zhB Dr ⟨P,w,K,mg,base,a⟩ T⟩
end Wb
namespace PySem.W
structure Fast:Prop where
 (tw8773811748402369981 tw6416786332973182957 tw13882359998488975149 tw10185460386366039066 tw8185318523265164624 tw592845832099629493 tw15209214573367693519 tw15242403338016734936 tw13600290165243171366 tw7700605681117233795 tw12526776030119459993 tw12765841801200570967 tw3724697397661407317 tw6330045842941142103 tw10446831571412088132 tw9646924344947208598 tw12163682029192295740 tw5455009894813914295 tw9809101971732571794 tw11328520360759999561 tw18024887822424566017 tw14827861404082205333 tw13185779519299425992 tw18407416719334490808 tw758719138517574262 tw4586753386676257871 tw875917926864766564 tw9207790238127240276 tw11982808771549515083 tw14084989910797938985 tw10763094651647451455 tw16375096412619021802 tw13438782081681737304 tw1710864014751993270 tw14934096086113214771 tw13533387671519687118 tw16418027752818856022 tw2027557641153301931 tw14209884332398337829 tw5866082764697050485 tw8515693089611530717 tw16478793108688378660 tw14471764533214749662 tw10822387461841435655 tw2641542630273512233 tw3346914496636955614 tw11870982262626766619 tw17319334064008384065 tw1729783044197442793 tw13519613347009174383 tw7631969318482020626 tw4775229720518424616 tw246511754661042052 tw8515837670032608977 tw9522131805447357244 tw9558201224792949173 tw9380707645246041413 tw10621994211805730893 tw14525848870101498808 tw2268014815537438645 tw10181361496530087763 tw966879244556718450 tw5667441046271465285 tw12293514733751918107 tw4989920513322295952 tw8962937544919853325 tw13684307681619795822 tw2151831104905018891 tw1940734106609047200 tw7218977539705373265 tw16973745078590862999 tw14107167908037020759 tw17359437249047935491 tw6532929807811721881 tw9476304490349635012 tw15219741123193384112 tw6872728461462862006 tw2011064521239350307 tw2000673780359286 tw1387136592098715326 tw8969252033922809761 tw9080699051379203801 tw12316087692090362690 tw17540378574646684160 tw8074755095242635988 tw3689984935122932890 tw7421759524647730894 tw4271191907926816954 tw1590707661431756371 tw14051480781188914363 tw12438031831227508202 tw6092977799210025357 tw8257704645730020400 tw5748958512792265809 tw1561317663014670944 tw11846883634509464204 tw7873504453963562812 tw16150536209681606452 tw4822346400261362108 tw13107866558082545437 tw1534707965998002404 tw8554446390719107303 tw9752297948480467220 tw14787488368192876588 tw2697663766666313161 tw8709399056767876898 tw1585484269352481807 tw3628670597254760408 tw18093095410234146759 tw16577812590062768259 tw4502844549838098321 tw18279944479698089595 tw12249097703937724788 tw5578386140051867994 tw14510072564476489793 tw9525756233091008458 tw6517259079667024287 tw18275734117954587147 tw3930955804923593646 tw17308526912380522825 tw10976202719408493638 tw15459575326199604125 tw9668189257051028267 tw17005880218017130662 tw5746735657778763760 tw15353996519368440232 tw14010284904764458516 tw18008989099025541613 tw10685012066673757087 tw8009914292455416376 tw3011871510708659324 tw14899843883279362141 tw10983897307477254518 tw8458397330280071052 tw4555480808196801576 tw977812039333741942 tw6473086059849032097 tw9071590751493743249 tw5841046114213225830 tw16923114068029779771 tw11436893684215042921 tw13516434668140357732 tw17021402231343231678 tw10855835354450801977 tw6095428034309029685 tw14189963627940649263 tw4945090634283378679 tw14844504844013379072 tw2665969343800553409 tw15698146077151133805 tw10245221225988413494 tw14543008795746309225 tw14862542636263084741 tw6551019607093724722 tw17946457613846679903 tw9606037293000210618 tw12805564785971756176 tw10703746982909860343 tw320702268763775296 tw3005776926862078693 tw12926407950723020004 tw10573288794781224886 tw13266688267469786146 tw15377780579289739947 tw16707398712982658193 tw17650761972772034866 tw7509227529870922310 tw7077121359698549747 tw13144852208355490330 tw3678883794938497778 tw15987555523657826250 tw11653515778827690648 tw2517515791118154989 tw15905671033378606359 tw10524820245160621001 tw7667271795965867012 tw16066854887303371260 tw7887823548432194740 tw1216323448352348794 tw7114520901479406133 tw13539177370211805095 tw9600618875507623322 tw1538624069141675082 tw1962765743439445417 tw13059069711420776756 tw6903879437518163161 tw3447090461949455410 tw12959381436477673164 tw4459008278224871293 tw2195701819323419562 tw9652196072674149075 tw17305386340709670047 tw13041520744117831066 tw17003817294589637008 tw13750951034950990920 tw9363451462317710116 tw14115162610492636316 tw11407958248462263096 tw17855750902143758187 tw3008226439473718119 tw14413573133376819043 tw3738925875402433059 tw99284459432791997 tw10155137977055122561 tw13173321668798068410 tw8487641930431549064 tw14851895400204869183 tw6957572233716841492 tw4877869342040326998 tw17098478576261544588 tw756346786836847332 tw11542210243233191627 tw16803927124289228722 tw14627251652172421812 tw16402937379067377415 tw2259852426061694961 tw14225378490507810151 tw3927278464324146310 tw17793038027489209448 tw10185425402285099140 tw15555841319505403648 tw11039032197373015601 tw14717582779005861805 tw15447205838063760151 tw1934029975718478814 tw3020413032063680796 tw6604315053463059229 tw595876414158115547 tw4086335311319411631 tw10947817867242247903 tw18238899194623319465 tw4348540767204705445 tw14386705783511699441 tw3806919021960247608 tw1835822939715661366 tw13498055766882260513 tw11557047634090424191 tw128415997527218733 tw10755266744382548783 tw4341594763618395750 tw4991795215732284279 tw11148128516146159995 tw4191944256883850836 tw9054293958543988959 tw8662996433868959991 tw6239168333574461506 tw9390244248182995705 tw16040640907197388949 tw10808242855333317332 tw7139036604010883994 tw2053634144544474856 tw2060418447893582141 tw8140980898751215846 tw9587474363466712846 tw2750778737328390576 tw2328440179836594050 tw1362680580034962229 tw12563256848951714379 tw5107419078625859481 tw13776713088326237316 tw15853888463454412624 tw420259188311573217 tw2952195155757820980 tw13272816271758323960 tw14866225421220025832 tw12405389756056218539 tw12480778675927617048 tw11219432213910662525 tw14432390532223985815 tw15553103158880770206 tw3495518897789578969 tw9461258969331228669 tw7379255674235883814 tw12240718192120987201 tw17338998864472914825 tw4158448329129421867 tw15372220794189228042 tw16265894955492438151 tw2782388819185520035 tw4413179388919769559 tw1736316165634594598 tw10478364501059495355 tw6168906819166576117 tw9959878198505844397 tw14547431881432100866 tw10784582573375359637 tw1663436249520303981 tw7032804329643946879 tw8693458115134030921 tw13437837013366005155 tw1046554280977877754 tw7361608577895945502 tw4620122429477230350 tw4044753367591341323 tw8212163181454855178 tw7627759451258292924 tw16165929315737704255 tw6322764784681514168 tw17346524842763779262 tw745481057159859869 tw920573546819646594 tw14096368801074975706 tw3562882625146193031 tw2266065982470019153 tw1958625675664592116 tw872494318799261073 tw18247991967508602980 tw5762182697801993585 tw2982826653402017416 tw11694626318032805934 tw2736951208946632209 tw17528795011417119457 tw13146069816904868712 tw9805834702453837469 tw18398922676501692210 tw8583026295702056106 tw16355705138782827278 tw8403899937864548588 tw12733777435756897877 tw13428559806415793135 tw1976441537256437508 tw5921382318606129533 tw3539355483164296874 tw13813922499479527216 tw11003788706732652935 tw8389740277323141248 tw8900378100563386882 tw18022891295828560038 tw14526946439716837238 tw15713982542956614867 tw1709243143558576227 tw17873689454391593134 tw16046097603662482869 tw12590573795079863045 tw15999313256256160934 tw3708628963841274044 tw2329221587587214109 tw6802549046479933829 tw5311459782541239244 tw4551674114270195492 tw7463335199447275 tw7348272317827065060 tw6270745260498626377 tw9551294053017269808 tw13054920114568012796 tw12508367118910962637 tw5799349893233188332 tw13193279536076130254 tw7216610172432113609 tw7805446265297304569 tw6039017744244144866 tw2194518475123471780 tw852650000692476694 tw15010276954963521739 tw15280478738804109111 tw3134521731959177303 tw7673942325407451151 tw3923314438304989050 tw4409161348327628524 tw3060628414007238761 tw10754909203694174728 tw6880951219546768609 tw5005059801160817896 tw3508293666843057947 tw10003253550631079420 tw4931233216091292385 tw4341499195990790547 tw9445399308321498439 tw2592286321313928569 tw13324115903850869372 tw8983556952586130108 tw8987908757281668307 tw16254471545682629031 tw4276441663512105331 tw4423883014369090860 tw8844516072276282670 tw2695810334694306602 tw10737447044294326469 tw16440764746649695801 tw9483917170957828039 tw3561675182218025007 tw7673902587289110009 tw15723674862824779766 tw2593992104928702179 tw3453782756331921190 tw8765863710193171541 tw2293832394815041985 tw8348305964711173676 tw8405943501580795964 tw5790772119083658932 tw15276535298998899057 tw12825655547717452058 tw13615209433666743938 tw15683891683854117307 tw15833727455824277515 tw15359484565243467403 tw10031396893975596705 tw15846741667776341034 tw1468747885855200974 tw17257192598668410839 tw6610946567296000852 tw18083740939412801873 tw17036643127647852578 tw10781371205983315561 tw11517186030520910081 tw190817259916843913 tw8199816748881840889 tw6626486797455024536 tw8947490706776032098 tw2572050565092652948 tw11142278443428399225 tw15962645687824874457 tw1703777524488943689 tw15202684666864552006 tw16410584909942932644 tw7850325377768572639 tw9115714294497486513 tw262524137931452865 tw16066507657676377965 tw1938629126161826104 tw14758303241357453199 tw1564771597105085268 tw14481121847075844680 tw16359652324664492296 tw18072709413263266102 tw5690544882326915702 tw14177474123425304004 tw2844737687749607476 tw7778968994549185053 tw6986690027598685672 tw924278019334923297 tw4311078594118043726 tw9504911429821735625 tw8773293984101527361 tw12810954004624494304 tw16830208772533877381 tw16745626392137406366 tw16840747886263960165 tw6378108313103280816 tw15950845733421686255 tw1595192776959783881 tw12027908932573909770 tw17234381862401470058 tw4606035471303719168 tw1074900639636910212 tw14448569206835509742 tw10097618534058832245 tw12243480419805098543 tw9188740213305436498 tw437419448605177419 tw3288068964724815849 tw9555689273771406958 tw16429058273551070876 tw4857287722988166730 tw7478817237073472786 tw11591842912526467597 tw8730110969453816964 tw17235086026368508116 tw17592704106452485286 tw16590415850582578176 tw4991285322137268682 tw4212277884568500335 tw9645231575225878719 tw14277150351879631384 tw323208485031975999 tw11865618060601755113 tw16098413890261183613 tw14178263931293044745 tw10126173367453351176 tw11329340573510700953 tw7438487117965589173 tw15891768708420911136 tw3015491060031079663 tw11206377499347043349 tw15151076560563711989 tw11623727863020907302 tw4334495516173316196 tw3091792056190885364 tw8031517930216334758 tw6966816724618506192 tw7407927383390482298 tw1922312619571821354 tw13658060367146418502 tw17909931594832042477 tw12685864616718142004 tw13408762876024444298 tw11346118266648365942 tw18390291213452229276 tw7294304415635361726 tw16087231204285627576 tw16018131478855772555 tw13205761593470270743 tw46192115009812038 tw11687686660635183526 tw3062698600954780675 tw4218433317244044616 tw10632373219268250067 tw2336651756731239649 tw937152251007244701 tw9660109246663416575 tw983496103694447482 tw16389627254601795900 tw8306635759175034417 tw11325254715035181999 tw17281452844340579251 tw12109385276873440884 tw2231294168148299986 tw1684167829322865525 tw13059043652947447008 tw4753604580688205885 tw15484498017510875381 tw13211656784859670109 tw11619376315630246014 tw16759870359358754591 tw8925354442980381380 tw11423750808583880597 tw2463837432291916911 tw4824498825441098210 tw1592441149983269699 tw10160480135066350710 tw730945513945698714 tw15237471397941041101 tw2179128115799022318 tw9095296940994341296 tw3971447391244389874 tw8544337899264199785 tw1071035029718752066 tw1196226672632870830 tw1961068456444751418 tw4217567195989932416 tw17704779345940751150 tw9129861384130215861 tw11878014280416433257 tw11521944843168823392 tw18352552994970521192 tw12447594205233953488 tw13973307370489420941 tw16610652656612444835 tw8967245450569122001 tw8935589064905147753 tw8227504963092694445 tw10578193685467159601 tw981436439026169649 tw12542729642132247648 tw4335580366614138307 tw2913677264883737736 tw14821329542982782423 tw1640595248320848040 tw17576227726032775908 tw12068130732590983060 tw4328285687787205701 tw6703504232734227807 tw12643739530972961849 tw17391548681034332644 tw15560991047767692098 tw18324290597720077679 tw4180531187453119491 tw17602128651416093552 tw6047463139283691540 tw3320951710767965361 tw7539165551419499856 tw870121571678185381 tw5977737758240836331 tw15927304852398870431 tw12658420489707758492 tw6767570194735473321 tw18214301174743085141 tw10766551037008818733 tw3612302476677234504 tw16999812153536105408 tw14034083273176106299 tw15799193732877871915 tw5791066915224408252 tw9627408313333276146 tw4506719034294212469 tw10476402444574317452 tw8415777214863810577 tw16096491541519560494 tw14693821411429462881 tw4482712580497660810 tw9164368770866832654 tw6270847812197943974 tw13704628438401477172 tw12603087895227663775 tw14184443528859321498 tw11058574762558977433 tw2860109398651320267 tw3591727134799568031 tw7348735870411718093 tw3910658680529877890 tw2266288630615462982 tw9827835283334406083 tw4051563898948593583 tw18196711257083741064 tw10664354595984553082 tw1131492011666852998 tw2930894594594092482 tw3954394114631057598 tw17302607845028064002 tw18441705456042570300 tw6418003454672499712 tw12455612340915708724 tw4963880844388552758 tw10434923648932102257 tw8254207203816132634 tw2317933013009840450 tw5072195054443657949 tw670721515605535014 tw8972098724633045808 tw1982179304852937385 tw1712672412028806037 tw2948712286907591639 tw8088929972019577873 tw5815750584814471343 tw12857295288783373623 tw1159840034620476620 tw2170929646869596992 tw6577091462760236770 tw17167447343511470458 tw12776014410127629272 tw16809871554394194912 tw16002790606360507886 tw10278296137288982037 tw8101198213981217179 tw13143525344098970585 tw11886999872506511722 tw4237912944862951617 tw6018197543626043547 tw10841272457532751472 tw6147313474768359185 tw7353166129223425354 tw12834741517759717602 tw12146540156788003749 tw16394055917656908230 tw1910826439207634326 tw1246643349932701156 tw13616527801137957466 tw9365572344834119093 tw11290035240307924510 tw8135055281378343990:True)
end PySem.W
open PySem PySem.W PyProof.Rows L2 Wb
set_option maxRecDepth 100000 in
set_option maxHeartbeats 0 in
theorem PySem.Challenge.cw_wallbonds_s06_counts_holds : PySem.Challenge.rw_wallbonds_s06_counts.Holds := by
 w_on;k_headS;(case hw=>exact⟨[.list [],.list []],by decide +kernel,by decide +kernel⟩)
 k_fillS
 refine L2.walk_specX (r:=PySem.Challenge.rw_wallbonds_s06_counts) (cm:=true) (k:=17) (ps:=["b","t"]) (sp:=VI) (by decide +kernel) rfl rfl ⟨λ_=>rfl,by decide,by decide⟩ (λw h Y=>PySem.W.kIn_of Y) ?F ?S
 case F=>
  intro w mg fa h Y KX G hmg;refine zdk KX ?_;refine' zc5 (a:=Ad.mk ..) hmg ⟨?e1,?e2,?e3,?e4,?e5,?e6,?e7,?e8,?e9,?e10,?e11,?e12,?e13,?e14,?e15,?e16,?e17,?e18,?e19,?e20,?e21,?e22,?e23,?e24,?e25,?e26,?e27,?e28,?e29,?e30,?e31,?e32,?e33,?e34,?e35,?e36,?e37,?e38,?e39,?e40,?e41,?e42,?e43,?e44,?e45,?e46,?e47,?e48,?e49,?e50,?e51,?e52,?e53,?e54,?e55,?e56,?e57,?e58,?e59,?e60,?e61,?e62,?e63,?e64,?e65,?e66,?e67,?e68,?e69,?e70,?e71,?e72,?e73,?e74,?e75,?e76,?e77,?e78,?e79,?e80,?e81,?e82,?e83,?e84,?e85,?e86,?e87,?e88,?e89,?e90,?e91,?e92,?e93,?e94,?e95,?e96,?e97,?e98,?e99,?e100,?e101,?e102,?e103,?e104,?e105,?e106,?e107,?e108,?e109,?e110,?e111,?e112,?e113,?e114,?e115,?e116,?e117,?e118,?e119,?e120,?e121,?e122,?e123,?e124,?e125,?e126,?e127,?e128,?e129,?e130,?e131,?e132,?e133,?e134,?e135,?e136,?e137,?e138,?e139,?e140,?e141,?e142,?e143,?e144,?e145,?e146,?e147,?e148,?e149,?e150,?e151,?e152,?e153,?e154,?e155,?e156,?e157,?e158,?e159,?e160,?e161,?e162,?e163,?e164,?e165,?e166,?e167,?e168,?e169,?e170,?e171,?e172,?e173,?e174,?e175,?e176,?e177,?e178,?e179,?e180,?e181,?e182,?e183,?e184,?e185,?e186,?e187,?e188,?e189⟩
  (case e6|e7|e8|e9|e10|e11|e12=>dsimp only;refine' ⟨QH KX G ?_,⟨?_,?_,?_,?_⟩,?_,?_⟩<;>k_is)
  (case e1|e2|e3|e4|e5=>dsimp only;refine' ⟨QH KX G ?_,⟨?_,?_,?_,?_,?_⟩,⟨?_,?_⟩,?_,?_⟩<;>first|k_is|kernel_rfl)
  (case e13|e14|e15|e16|e17|e18|e19|e20|e21|e22|e23|e24|e25|e26|e27|e28|e29|e30|e31|e32|e33|e34|e35|e36|e37|e38|e39|e40|e41|e42|e43|e44|e45|e46|e47|e48|e49|e50|e51|e52|e53|e54|e55|e56|e57|e58|e59|e60|e61|e62=>dsimp only;apply FT.of KX G;k_is;k_is;k_is;k_is;(first|exact λ_ _ _ _ _ _=>ln1 λ_=>rfl|exact λ_ _ _ _ _ _=>ln2 λ_ _=>rfl|exact λ_ _ _ _ _ _=>ln3 λ_ _ _=>rfl|exact λ_ _ _ _ _ _=>ln4 λ_ _ _ _=>rfl|exact λ_ _ _ _ _ _=>ln5 λ_ _ _ _ _=>rfl);exact scq)
  (case e63|e64|e65|e66|e67|e68|e69|e70|e71|e72|e73|e74|e75|e76|e77|e78|e79|e80|e81|e82|e83|e84|e85|e86=>dsimp only;apply MT.of;k_is;k_is;k_is;k_is;k_is;(first|exact λ_ _ _ _ _ _=>ln1 λ_=>rfl|exact λ_ _ _ _ _ _=>ln2 λ_ _=>rfl|exact λ_ _ _ _ _ _=>ln3 λ_ _ _=>rfl|exact λ_ _ _ _ _ _=>ln4 λ_ _ _ _=>rfl|exact λ_ _ _ _ _ _=>ln5 λ_ _ _ _ _=>rfl);exact scq)
  (case e87|e88|e89|e90|e91|e92|e93|e94|e95|e96|e97|e98|e99|e100|e101|e102|e103|e104|e105|e106|e107|e108|e109|e110|e111|e112|e113|e114|e115|e116|e117|e118|e119|e120|e121|e122|e123|e124|e125|e126|e127|e128|e129|e130=>dsimp only[D3];k_is)
  (case e131=>dsimp only;refine' ⟨?_,?_,?_,?_⟩<;>k_is)
  (case e132|e133|e134|e135|e136|e137|e138|e139|e140|e141=>dsimp only;kernel_rfl)
  (case e142|e143|e144|e145|e146|e147|e148|e149|e150|e152|e153|e154|e155|e156|e157|e158|e159|e160|e161|e162|e163|e164|e165|e166|e167|e168|e169|e171|e172|e174|e175|e176|e177|e178=>dsimp only;refine' QH KX G ?_;k_is)
  (case e151|e170|e173=>dsimp only;apply zhy;k_is;exact⟨by decide +kernel,by repeat (first|exact .nil|refine .cons ⟨_,rfl⟩ ?_)⟩)
  (case e179|e180|e181|e182|e183|e184|e185|e186|e187|e188=>refine' PySem.W.mg_none_of KX G ?_;k_is)
  (case e189=>dsimp only;exact λs=>ln2 λ_ _=>.of_eq rfl)
 case S=>
  intro K H xs a hO Ye znz hx;cases hx with
  |cons h0 hx1=>
   cases hx1 with
   |cons h1 hx2=>
    cases hx2;cases h0 with
    |lst hs0 ha0=>
     have e0:=L2.ints_dw a.1 _ ha0;subst e0;cases h1 with
     |lst hs1 ha1=>
      have e1:=L2.ints_dw a.2.1 _ ha1;subst e1;have q:((Codec.inLen 0 6000 a.1&&a.1.all (Codec.inInt 0 255))&&((Codec.inLen 0 6000 a.2.1&&a.2.1.all (Codec.inInt 0 255))&&true))=true:=Ye;simp only[D1]at q;have hb0:∀x∈a.1,0<=x/\x<=255:=λx hx=>Codec.inInt_iff.mp (t7.mp q.1.2 x hx);obtain⟨d0,l0⟩:=Cn a.1 hb0;rw[d0]at hs0;have m0:(SiteNeutral.text a.1).length<=6000:=by rw[l0];exact(Codec.inNat_iff.mp q.1.1).2
      have hb1:∀x∈a.2.1,0<=x/\x<=255:=λx hx=>Codec.inInt_iff.mp (t7.mp q.2.1.2 x hx);obtain⟨d1,l1⟩:=Cn a.2.1 hb1;rw[d1]at hs1;have m1:(SiteNeutral.text a.2.1).length<=6000:=by rw[l1];exact(Codec.inNat_iff.mp q.2.1.1).2
      refine⟨_,_,SiteNeutral.text a.1,SiteNeutral.text a.2.1,rfl,hs0,m0,hs1,m1,λH' p hp=>?_⟩;show Dw _ H' (.ref p) (.list ((PyWqbnhd.counts a.1 a.2.1).map WData.int));rw[zdj a.1 a.2.1];exact .lst (L2.SqL.of hp) (L2.dw_ints _)
#print axioms PySem.Challenge.cw_wallbonds_s06_counts_holds
end
