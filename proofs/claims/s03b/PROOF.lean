import PyProof.Rows.All
import Ql51Spec
import Wide.All
import OpenK.AllK
import Wide.FinOn
import PyProof.EqAt
import PyProof.EqKinds
import PyProof.TupleCall
import KE.BitLaws
import PyProof.StationsW
import PyProof.ExcClass2
import PyProof.EvalArms
import PyProof.FactsTree
import PyProof.Rules3
import KE.OsGo
import Open.SpecLaws
import PySem.Challenge.RW_thinbits_s03_tell
import PyQl51
set_option Elab.async false
set_option linter.all false
set_option maxRecDepth 100000
set_option maxHeartbeats 4000000
noncomputable section
open PySem renaming Addr->aa,Value->ag,Shared->ap,sizeLine->aO,Str->aQ,Program->aZ,wpAny_bind->bc,model->bj,starEach->bu,World->bB,Heap->bH,mainGlobals->cf,Stmt->ck,wpAny_mono->cu,Around->cC,wpAny_pure->cH,Expr->c7,cellsFrom->di,eval->dr,Obj->dX,backTo->eB,compareOp->eR,NameKind->eS,bootBuiltins->fq,wpAny_passesOwn->fA,attributeBase->fI,FuncData->gc,ExcBaseFacts->gr,Scope->gv,sysModules->gM,wpAny_truthy_bool->il,keywordEach->jo,compEnvC->jp,pushCells->kn,assignEach->ku,wpAny_Call_Name_kw->kv,tupleKind_room_in1->kx,wpAny_loadPart_at->lH,Pos->lK,behindInMarks->lL,wpAny_standAt->lM,wpAny_holding->lN,getMethod->mV,Env->m4,wpAny_execs_nil->oh,letOwnedTupleGo->oj,pushCells_keeps->om,callWith->pi,backToKw->pj,wpAny_setField->pk,wpAny_field->pq,excClassObj->pu,PassesOwn->qu,leaving->qv,noteFrame->qw,wpAny_isSubtype_exc->qW,cLine->rm,rawInt->rH,typeIs_str->rK,PyData->rL,Model->tY,foldedSetIterable->t7,binaryOp->t8,codeAny_mono->t9,valueAt->ub,tupleKind->vI,subscripted->wW,PassesOwnAt->wX,standAt->yN,holding->yO,getItem->yQ,notedBy->yT,Operator->yY,atKey->y3,handleBy->y4,ExceptHandler->Bn,swapsWith->Cy,bindL->CA,bindC->CB,Sem->CQ,BindsTo->CT,wpAny_isTrue_Compare1->EK,codeAny_handlers_test->EM,wpAny_loadName_local->EU,sizeLine_eq->EV,wpAny_loadName_cell->Hf,wpAny_handleBy_cons->Hj,builtinsNs->HR,isTrue->HS,wpAny_Name->HU,wpAny_pyIter_list->JF,wpAny_newObj_type->JH,callerA->JK,storeName->JV,wpAny_execs_cons->JW,inplaceOp->JX,setFlight->J1,fromIndex->J2
open List renaming length_cons->ae,mem_cons_self->af,length_map->ah,mem_cons_of_mem->ak,mem_cons->am,length_append->au,mem_singleton->aw,map_append->ay,getElem?_eq_some_iff->aD,length_drop->aF,append_nil->aG,mem_append_left->aH,mem_append_right->aM,mem_append->aT,mem_of_getElem?->bd,map_cons->bg,getElem?_map->bp,all_eq_true->bw,mem_map->bA,append_assoc->bD,getElem?_eq_getElem->bF,map_congr_left->bI,nodup_append->bJ,mem_of_mem_drop->bM,lookup_cons->bS,map_map->bV,size_toArray->bX,length_take->cg,length_singleton->ci,take_succ_cons->cv,findIdx?_eq_some_iff_getElem->cx,length->cI,getElem?_drop->cO,drop_of_length_le->cP,nodup_cons->cR,takeWhile_append_dropWhile->cZ,mem_iff_getElem?->dm,drop_drop->dn,getElem?_append_right->dz,takeWhile_cons_of_pos->dB,drop_succ_cons->dE,find?_cons->dH,drop_eq_getElem_cons->dL,take_of_length_le->ej,findIdx?_cons->ey,all_takeWhile->ez,getElem?_append_left->eH,sum_cons->eN,head_dropWhile_not->eT,drop_zero->eU,take_length->eV,not_mem_nil->eW,lookup->fH,getD_eq_getElem?_getD->fJ,any_cons->gj,takeWhile_sublist->gI,take_succ->gJ,map->iB,nil_append->iK,length_nil->iL,filterMap_cons->iX,map_eq_nil_iff->iY,drop_left->jq,mem_of_find?_eq_some->jO,flatten_cons->jQ,getElem?_take_of_lt->kl,length_eq_zero_iff->lp,range->lD,getElem?_set_self->lE,map_nil->lF,all_map->lG,find?_some->lO,mapM_cons->m3,getElem?_set_ne->m5,replicate->m7,map_id->m8,mem_of_mem_take->nc,length_pos_iff->ot,findIdx?->ox,all_cons->oy,mem_filterMap->o9,contains_cons->pf,cons_append->rj,any_eq_true->rk,filter_cons->rl,getElem_mem->rn,mem_filter->tU,of_mem_zip->tV,takeWhile_cons_of_neg->uE,dropWhile_cons_of_pos->uF,lookup_eq_none_iff->w8,getElem?_replicate->w9,flatten_singleton->yK,intersperse_cons₂->yL,range_succ_eq_map->yS,length_replicate->yZ,getElem?_eq_none->y0,mem_iff_getElem->z8,getElem?_range'->z9,dropWhile_cons->Bh,toList_toArray->Bm,length_reverse->Bo,filter_append->Cw,find?_eq_none->CD,countP_append->CG,flatMap_cons->CN,getElem?_inj->CP,any_eq_false->CS,mem_range'_1->CV,reverse_cons->CW,drop_length->EO,sum_append->ET,foldl_cons->EY,head_cons->Hc,mem_range->He,forIn_nil->Hg,take_left->Hh,take_zero->Hl,map_drop->HY,any_map->JB,range'->J3
open PySem.Str renaming ofString->ai,empty->ol,join->HX
open Ql51 renaming Tok->az,digit->aE,Schema->aI,Ty->aS,txt->bi,B->bP,wordChar->bZ,tokens->cq,V->cA,hexOf->cQ,list_->cY,pairs->dh,ty->dt,BOUND->dC,SIZE->dG,bounds->dU,told->dY,sound->d0,defs->eu,fields->eK,sizes->fz,parts->fK,FUEL->gE,schema->iC,pack->iF,W->iO,decimal->jR,hexText->jS,isName->lC,small->lI,commas->lJ,number->m9,isType->ng,packed->nD,signs->ph,big->qy,TYPES->uG,vals->yW,alls->Bg,blank->CF,value->CI,countedAll->HQ,packs->Jz,opens->JA
open Option.some renaming inj->aB
open Nat renaming le_refl->aC,lt_of_lt_of_le->bC,lt_of_le_of_lt->bK,le_trans->cn,zero_le->cr,lt_succ_self->cS,ne_of_lt->db,lt_irrefl->dA,lt_succ_of_lt->dD,add_sub_cancel->eA,zero_add->eM,strongRecOn->fj,succ_ne_zero->ik,lt_trans->jl,le_of_eq->jn,le_of_succ_le->ko,add_zero->lP,add_comm->lQ,min_eq_left->mB,not_lt_zero->mC,min_le_right->rJ,lt_of_not_le->rM,le_max_left->uc,exists_eq_add_of_lt->yJ,add_sub_cancel_left->yM,lt_of_succ_lt_succ->yV,le_of_lt->yX,mul_le_mul_right->Bi,add_le_add_left->CC,min_eq_right->EW,le_of_not_lt->EX,succ_le_succ->EZ,le_max_right->E2,mod_eq_of_lt->E3,toList_repr->Hm,ne_of_gt->JY,toDigits->J4
open UInt8 renaming toNat->aL,ofNat->bW,toNat_ofNat'->eZ,ofNat_toNat->gG,toNat_inj->EN
open PySem.Heap renaming get?_push_of_some->bn,lt_size->bv,get?_push_size->cm,size_push->dq,get?_update_other->ei,get?_update_self->fm,SameBut->qt,MadeExcOf->Hi
open Bool renaming false_ne_true->bq,and_eq_true->bY,eq_iff_iff->iN,false_or->kr,not_eq_true->lq,false_and->m6,true_or->qx,or_eq_true->tX,true_and->wY,or_eq_false_iff->Ab,decide_and->E1,and_false->Hk,or_true->JI
open Int renaming toNat->bt,not_lt->CO
open Option renaming getD_some->bx,isSome_iff_exists->dj,isSome_map->dy,getD_none->dN,bind_eq_some_iff->dW,map_eq_some_iff->d7,bind_some->eh,isNone_iff_eq_none->ud,isSome_some->z6,not_isSome->Bp,bind->Ia,map->JO
open Classical renaming byContradiction->bz
open Prod renaming fst->bO,snd->dS
open Sum renaming inr->bQ,inl->qU
open PySem.Value renaming ref->bU,none->gq,int->jk,bool->jm,str->qV,isStrOf->Hd,isInt->JC,bytes->JD,float->JE,type->JU
open PySem.Builtin.Str renaming strSliceIndices->cj
open PySem.PyData renaming strOk->cV,eqv->JL
open Char renaming ofNat->dZ,toNat->pc
open Ql51Neutral renaming octets->d3,packedOf->ue,outed->wZ
open PySem.Obj renaming mapFields->eo,data_mapFields->pp,isFreed_of_fields->z7
open Array renaming getElem?_eq_some_iff->fB,length_toList->iM,getElem?_toList->yR,append_assoc->Bj,toList->HV
open Ql51.Tok renaming word->fT,sign->jt,hex->EQ
open PySem.Calls renaming callWith_builtin->gF,evalArgs_plain->io,Name_function_global->tZ,spliced_cons->Bk,spliced_nil->Cz
open PySem.NameKind renaming free->gN,cell->tW
open String renaming ofList->hW
open PyProof.Rows renaming envOfC->im,AllBare->qr,IntsAre->ua,subscriptTail->Bl,subscriptTail_builtinR->CU,iadd_int->EL,Subscript_->HW,callWith_builtin1->Lm,callWith_type1->Ln,signs_ofString->Lo,join_list->Lp,join_tuple->Lq,in_str->Lr
open PySem.NumText renaming digitsVal->jr,AllDigits->js
open Ql51.V renaming many->jE,one->JM,row->JN
open PySem.W.Codec renaming inInt->jP,inNat->mW
open ForInStep renaming yield->kq
open PySem.EntryCells renaming newEntry->vJ
open PySem.SeqAt.EqAt renaming int_str->wT,str_int->wU
open PySem.Around renaming under->wV
open PySem.SeqAt renaming shaped->xa,EqAt->J0
open PySem.Code renaming isFrame->yP,frames->JZ
open PySem.PassesOwn renaming never->Aa
open List.cons renaming injEq->Ac
open PySem.Value.ref renaming inj->CH
open PyQl51 renaming tell->HZ
open PySem.W renaming mg_none_of->Ib
open PySem.Heap.IsSliceOf renaming new->JG
open PySem.Heap.UpToSlots renaming of_keeps->JJ
open PySem.W.WData renaming list->J5,int->Ls
theorem qaa:type_of% @if_neg:=@if_neg
theorem qab:type_of% @if_pos:=@if_pos
theorem qac:type_of% @of_decide_eq_true:=@of_decide_eq_true
theorem qad:type_of% @decide_eq_true:=@decide_eq_true
theorem qae:type_of% @beq_eq_false_iff_ne:=@beq_eq_false_iff_ne
theorem qaf:type_of% @congrArg:=@congrArg
theorem qag:type_of% @beq_self_eq_true:=@beq_self_eq_true
theorem qah:type_of% @dif_neg:=@dif_neg
namespace Wr
open Ql51
def xb(a:Tok):Option (Option Int):=match a with
 | .num z=>if -dC<=z/\z < dC then some (some z)else none
 |t=>if t=W "MIN" then some none else none
def lR(b:Tok):Option (Option Int):=match b with
 | .num z=>if -dC<=z/\z < dC then some (some z)else none
 |t=>if t=W "MAX" then some none else none
def uH(x y:Option (Option Int))(q:List Tok):Option ((Option Int×Option Int)×List Tok):=match x,y with
 |some x,some y=>(match x,y with
  |some u,some v=>if u<=v then some ((x,y),q)else none
  |_,_=>some ((x,y),q))
 |_,_=>none
def ER(a:Tok)(l:List Tok):Option ((Option Int×Option Int)×List Tok):=match l with
 | .sign [46,46]::b:: .sign [41]::r=>uH (xb a) (lR b) r
 |_=>none
set_option smartUnfolding false in
theorem bd_w{w:B}{l:List Tok} :bounds (.sign [40]:: .word w::l)=ER (.word w) l:=rfl
set_option smartUnfolding false in
theorem bd_s{w:B}{l:List Tok} :bounds (.sign [40]:: .sign w::l)=ER (.sign w) l:=rfl
set_option smartUnfolding false in
theorem bd_b{w:List Bool}{l:List Tok} :bounds (.sign [40]:: .bits w::l)=ER (.bits w) l:=rfl
set_option smartUnfolding false in
theorem bd_h{w:List Nat}{l:List Tok} :bounds (.sign [40]:: .hex w::l)=ER (.hex w) l:=rfl
inductive J6(a:Tok)(l:List Tok):Option ((Option Int×Option Int)×List Tok)->Prop
 |ok (b q):l= .sign [46,46]::b:: .sign [41]::q->J6 a l (uH (xb a) (lR b) q)
 |no:J6 a l none
def J7(a:Tok)(l:List Tok):Prop:=J6 a l (ER a l)
inductive Hn(l:List Tok):Option ((Option Int×Option Int)×List Tok)->Prop
 |one (z q):l= .sign [40]:: .num z:: .sign [41]::q->Hn l (if -dC<=z/\z < dC then some ((some z,some z),q)else none)
 |two (a b q):l= .sign [40]::a:: .sign [46,46]::b:: .sign [41]::q->Hn l (uH (xb a) (lR b) q)
 |no (q):l= .sign [40]::q->Hn l none
 |nob: (∀q,l≠ .sign [40]::q)->Hn l (some ((none,none),l))
def JP(l:List Tok):Prop:=Hn l (bounds l)
section
variable {a:Tok}{l:List Tok}{c:UInt8}{b:B}
theorem jT(e:ER a l=none):J7 a l:=Eq.substr (p:=J6 a l) e .no
theorem xc(e:bounds (.sign [40]::l)=none):JP (.sign [40]::l):=Eq.substr (p:=Hn _) e (.no _ rfl)
theorem rN(e:bounds l=some ((none,none),l))(h:∀q,l≠ .sign [40]::q):JP l:=Eq.substr (p:=Hn l) e (.nob h)
set_option smartUnfolding false in
theorem bt_1(h:c≠46):J7 a (.sign (c::b)::l):=jT (qah h)
set_option smartUnfolding false in
theorem bt_2(h:c≠46):J7 a (.sign (46::c::b)::l):=jT (qah h)
set_option smartUnfolding false in
theorem bt_3{t:Tok}(h:c≠41):J7 a (.sign [46,46]::t:: .sign (c::b)::l):=jT (qah h)
set_option smartUnfolding false in
theorem bd_n{z:Int}(h:c≠41):bounds (.sign [40]:: .num z:: .sign (c::b)::l)=ER (.num z) (.sign (c::b)::l):=qah h
set_option smartUnfolding false in
theorem bd_4(h:c≠40):JP (.sign (c::b)::l):=rN (qah h) fun q e=>by injection e with e;injection e with e;injection e with e;exact h e
theorem E4(a:Tok)(l:List Tok):J7 a l:=by
 cases l with
 |nil=>exact jT rfl
 |cons t l=>
 cases t with
 |sign b=>
  cases b with
  |nil=>exact jT rfl
  |cons c b=>
  by_cases h:c=46
  ·subst h;cases b with
   |nil=>exact jT rfl
   |cons c b=>
   by_cases h:c=46
   ·subst h;cases b with
    |cons=>exact jT rfl
    |nil=>
    cases l with
    |nil=>exact jT rfl
    |cons t l=>
    cases l with
    |nil=>exact jT rfl
    |cons u l=>
    cases u with
    |sign b=>
     cases b with
     |nil=>exact jT rfl
     |cons c b=>
     by_cases h:c=41
     ·subst h;cases b with
      |nil=>exact .ok t l rfl
      |cons=>exact jT rfl
     exact bt_3 h
    |_=>exact jT rfl
   exact bt_2 h
  exact bt_1 h
 |_=>exact jT rfl
theorem xf(e:bounds (.sign [40]::a::l)=ER a l):JP (.sign [40]::a::l):=by
 have v:J6 a l (ER a l):=E4 a l;unfold JP;rw[e];generalize ER a l=o at v ⊢;cases v with
 |ok b q e=>exact .two a b q (by rw[e])
 |no=>exact .no _ rfl
theorem E5(l:List Tok):Hn l (bounds l):=by
 show JP l;cases l with
 |nil=>exact rN rfl nofun
 |cons t l=>
 cases t with
 |sign b=>
  cases b with
  |nil=>exact rN rfl nofun
  |cons c b=>
  by_cases h:c=40
  ·subst h;cases b with
   |cons=>exact rN rfl nofun
   |nil=>
   cases l with
   |nil=>exact xc rfl
   |cons a l=>
   cases a with
   |num z=>
    cases l with
    |nil=>exact xc rfl
    |cons t l=>
    cases t with
    |sign b=>
     cases b with
     |nil=>exact xc rfl
     |cons c b=>
     by_cases h:c=41
     ·subst h;cases b with
      |nil=>exact .one z l rfl
      |cons=>exact xc rfl
     exact xf (bd_n h)
    |_=>exact xc rfl
   |word=>exact xf bd_w
   |sign=>exact xf bd_s
   |bits=>exact xf bd_b
   |hex=>exact xf bd_h
  exact bd_4 h
 |_=>exact rN rfl nofun
def J8(o:Option ((Option Int×Option Int)×List Tok)):Option ((Nat×Option Nat)×List Tok):=match o with
 |some ((some a,b), .sign [41]::q)=>if 0<=a/\a<=dG/\(b.all fun x=>decide (x<=dG))=true then some ((a.toNat,b.map bt),q)else none
 |_=>none
def szR(r:List Tok):Option ((Nat×Option Nat)×List Tok):=match r,bounds r with
 | .sign [40]::_,some ((some a,b), .sign [41]::q)=>if 0<=a/\a<=dG/\(b.all fun x=>decide (x<=dG))=true then some ((a.toNat,b.map bt),q)else none
 |_,_=>none
set_option smartUnfolding false in
theorem J9:szR (.sign [40]::l)=J8 (bounds (.sign [40]::l)):=rfl
inductive Ic(l:List Tok):Option ((Nat×Option Nat)×List Tok)->Prop
 |ok (w r):l= .sign [40]:: .word w::r->Ic l (if w≠bi "SIZE" then none else szR r)
 |no (q):l= .sign [40]::q->Ic l none
 |nob: (∀q,l≠ .sign [40]::q)->Ic l (some ((0,none),l))
def SzP(l:List Tok):Prop:=Ic l (fz l)
theorem Ho(e:fz (.sign [40]::l)=none):SzP (.sign [40]::l):=Eq.substr (p:=Ic _) e (.no _ rfl)
theorem rO(e:fz l=some ((0,none),l))(h:∀q,l≠ .sign [40]::q):SzP l:=Eq.substr (p:=Ic l) e (.nob h)
set_option smartUnfolding false in
theorem sz_1(h:c≠40):SzP (.sign (c::b)::l):=rO (qah h) fun q e=>by injection e with e;injection e with e;injection e with e;exact h e
theorem E6(l:List Tok):Ic l (fz l):=by
 show SzP l;cases l with
 |nil=>exact rO rfl nofun
 |cons t l=>
 cases t with
 |sign b=>
  cases b with
  |nil=>exact rO rfl nofun
  |cons c b=>
  by_cases h:c=40
  ·subst h;cases b with
   |cons=>exact rO rfl nofun
   |nil=>
   cases l with
   |nil=>exact Ho rfl
   |cons a l=>
   cases a with
   |word w=>exact .ok w l rfl
   |_=>exact Ho rfl
  exact sz_1 h
 |_=>exact rO rfl nofun
set_option smartUnfolding false in
theorem Ka(h:c≠40):szR (.sign (c::b)::l)=none:=qah h
theorem Kb(h:∀q,l≠ .sign [40]::q):szR l=none:=by
 cases l with
 |nil=>rfl
 |cons t l=>
 cases t with
 |sign b=>
  cases b with
  |nil=>rfl
  |cons c b=>
  by_cases h':c=40
  ·subst h';cases b with
   |cons=>rfl
   |nil=>exact absurd rfl (h l)
  exact Ka h'
 |_=>rfl
inductive Kc(o:Option ((Option Int×Option Int)×List Tok)):Option ((Nat×Option Nat)×List Tok)->Prop
 |ok (a b q):o=some ((some a,b), .sign [41]::q)->Kc o (if 0<=a/\a<=dG/\(b.all fun x=>decide (x<=dG))=true then some ((a.toNat,b.map bt),q)else none)
 |no:Kc o none
def SiP(o:Option ((Option Int×Option Int)×List Tok)):Prop:=Kc o (J8 o)
theorem rP{o:Option ((Option Int×Option Int)×List Tok)}(e:J8 o=none):SiP o:=Eq.substr (p:=Kc o) e .no
set_option smartUnfolding false in
theorem si_1{a:Int}{d:Option Int}(h:c≠41):SiP (some ((some a,d), .sign (c::b)::l)):=rP (qah h)
theorem E7(o:Option ((Option Int×Option Int)×List Tok)):Kc o (J8 o):=by
 show SiP o;cases o with
 |none=>exact rP rfl
 |some x=>
 cases x with
 |mk x l=>
 cases x with
 |mk x d=>
 cases x with
 |none=>exact rP rfl
 |some a=>
 cases l with
 |nil=>exact rP rfl
 |cons t l=>
 cases t with
 |sign b=>
  cases b with
  |nil=>exact rP rfl
  |cons c b=>
  by_cases h:c=41
  ·subst h;cases b with
   |nil=>exact .ok a d l rfl
   |cons=>exact rP rfl
  exact si_1 h
 |_=>exact rP rfl
end
def CJ(e g:Option Int)(z:Int):Prop:=¬((e.any fun a=>decide (z < a))=true\/(g.any fun b=>decide (b < z))=true\/z < -dC\/dC<=z)
instance(e g:Option Int)(z:Int):Decidable (CJ e g z):=by unfold CJ;infer_instance
def pw(e:Nat)(g:Option Nat)(n:Nat):Prop:=¬(n < e\/(g.any fun h=>decide (h < n))=true)
instance(e:Nat)(g:Option Nat)(n:Nat):Decidable (pw e g n):=by unfold pw;infer_instance
abbrev eD:=B×Bool×Ty
def gw(a:List eD)(i j:Nat):Prop:=i<=j/\∀x∈(a.drop i).take (j - i),x.2.1=true
instance(a:List eD)(i j:Nat):Decidable (gw a i j):=by unfold gw;infer_instance
def item(first:Bool)(l:List Tok):Option (List Tok):=if first=true then some l else match l with
 | .sign [44]::r=>some r
 |_=>none
mutual
/-- a value as the program reads it -/
def rv(s:aI):Nat->Nat->Ty->List Tok->Option (V×List Tok)
 |0,_,_,_=>none
 |k+1,d,t,l=>match t with
  | .ref n=>if d=0 then none else(s.lookup n).bind fun t=>rv s k (d - 1) t l
  | .bool=>(match l with
   | .word w::r=>if w=bi "TRUE" then some (.bool true,r)else if w=bi "FALSE" then some (.bool false,r)else none
   |_=>none)
  | .null=>(match l with
   | .word w::r=>if w=bi "NULL" then some (.null,r)else none
   |_=>none)
  | .int lo hi=>(match l with
   | .num z::r=>if CJ lo hi z then some (.int z,r)else none
   |_=>none)
  | .names a m=>(match l with
   | .word w::r=>if w∈a++m.getD []then some (.name w,r)else none
   |_=>none)
  | .bits lo hi=>(match l with
   | .bits b::r=>if pw lo hi b.length then some (.bits b,r)else none
   |_=>none)
  | .octets lo hi=>(match l with
   | .hex b::r=>if pw lo hi b.length then some (.octets b,r)else none
   |_=>none)
  | .one a m=>(match l with
   | .word w:: .sign [58]::r=>if d=0 then none else((a++m.getD []).lookup w).bind fun t=>(rv s k (d - 1) t r).map fun x=>(.one w x.1,x.2)
   |_=>none)
  | .row a m=>(match l with
   | .sign [123]::r=>rrow s k d (a++m.getD []) a.length 0 [] r
   |_=>none)
  | .many lo hi t=>(match l with
   | .sign [123]::r=>(rall s k d t [] r).bind fun x=>if pw lo hi x.1.length then some (.many x.1,x.2)else none
   |_=>none)
/-- a row's parts,from a place on -/
def rrow(s:aI):Nat->Nat->List eD->Nat->Nat->List (B×V)->List Tok->Option (V×List Tok)
 |0,_,_,_,_,_,_=>none
 |k+1,d,a,n,i,acc,l=>match l with
  | .sign [125]::r=>if gw a i (if n < i then a.length else n)then some (.row acc,r)else none
  |_=>match item acc.isEmpty l with
   |some (.word w::r)=>match a.findIdx? fun x=>x.1 == w with
    |some p=>if gw a i p/\d≠0 then match a[p]? with
      |some x=>match rv s k (d - 1) x.2.2 r with
       |some (v,q)=>rrow s k d a n (p+1) (acc++ [(w,v)]) q
       |none=>none
      |none=>none
     else none
    |none=>none
   |_=>none
def rall(s:aI):Nat->Nat->Ty->List V->List Tok->Option (List V×List Tok)
 |0,_,_,_,_=>none
 |k+1,d,t,acc,l=>match l with
  | .sign [125]::r=>some (acc,r)
  |_=>match item acc.isEmpty l with
   |some l=>if d=0 then none else match rv s k (d - 1) t l with
    |some (v,q)=>rall s k d t (acc++ [v]) q
    |none=>none
   |none=>none
end
section
variable(s:aI)(k d:Nat)(l:List Tok)
theorem rQ(n:B):rv s (k+1) d (.ref n) l=if d=0 then none else(s.lookup n).bind fun t=>rv s k (d - 1) t l:=by rw[rv.eq_def]
theorem mD:rv s (k+1) d .bool l= (match l with
   | .word w::r=>if w=bi "TRUE" then some (.bool true,r)else if w=bi "FALSE" then some (.bool false,r)else none
   |_=>none):=by rw[rv.eq_def]
theorem mE:rv s (k+1) d .null l= (match l with
   | .word w::r=>if w=bi "NULL" then some (.null,r)else none
   |_=>none):=by rw[rv.eq_def]
theorem px(e g:Option Int):rv s (k+1) d (.int e g) l= (match l with
   | .num z::r=>if CJ e g z then some (.int z,r)else none
   |_=>none):=by rw[rv.eq_def]
theorem lS(a:List B)(m:Option (List B)):rv s (k+1) d (.names a m) l= (match l with
   | .word w::r=>if w∈a++m.getD []then some (.name w,r)else none
   |_=>none):=by rw[rv.eq_def]
theorem mF(e:Nat)(g:Option Nat):rv s (k+1) d (.bits e g) l= (match l with
   | .bits b::r=>if pw e g b.length then some (.bits b,r)else none
   |_=>none):=by rw[rv.eq_def]
theorem iP(e:Nat)(g:Option Nat):rv s (k+1) d (.octets e g) l= (match l with
   | .hex b::r=>if pw e g b.length then some (.octets b,r)else none
   |_=>none):=by rw[rv.eq_def]
theorem rR(a:List (B×Ty))(m:Option (List (B×Ty))):rv s (k+1) d (.one a m) l= (match l with
   | .word w:: .sign [58]::r=>if d=0 then none else((a++m.getD []).lookup w).bind fun t=>(rv s k (d - 1) t r).map fun x=>(.one w x.1,x.2)
   |_=>none):=by rw[rv.eq_def]
theorem py(a:List eD)(m:Option (List eD)):rv s (k+1) d (.row a m) l= (match l with
   | .sign [123]::r=>rrow s k d (a++m.getD []) a.length 0 [] r
   |_=>none):=by rw[rv.eq_def]
theorem mG(e:Nat)(g:Option Nat)(t:Ty):rv s (k+1) d (.many e g t) l= (match l with
   | .sign [123]::r=>(rall s k d t [] r).bind fun x=>if pw e g x.1.length then some (.many x.1,x.2)else none
   |_=>none):=by rw[rv.eq_def]
def nh(s:aI)(k d:Nat)(a:List eD)(n i:Nat)(acc:List (B×V))(w:B)(r:List Tok):Option (V×List Tok):=match a.findIdx? fun x=>x.1 == w with
 |some p=>if gw a i p/\d≠0 then match a[p]? with
   |some x=>match rv s k (d - 1) x.2.2 r with
    |some (v,q)=>rrow s k d a n (p+1) (acc++ [(w,v)]) q
    |none=>none
   |none=>none
  else none
 |none=>none
theorem iQ(a:List eD)(n i:Nat)(acc:List (B×V)):rrow s (k+1) d a n i acc l= (match l with
  | .sign [125]::r=>if gw a i (if n < i then a.length else n)then some (.row acc,r)else none
  |_=>match item acc.isEmpty l with
   |some (.word w::r)=>nh s k d a n i acc w r
   |_=>none):=by rw[rrow.eq_def];rfl
theorem iR(t:Ty)(acc:List V):rall s (k+1) d t acc l= (match l with
  | .sign [125]::r=>some (acc,r)
  |_=>match item acc.isEmpty l with
   |some l=>if d=0 then none else match rv s k (d - 1) t l with
    |some (v,q)=>rall s k d t (acc++ [v]) q
    |none=>none
   |none=>none):=by rw[rall.eq_def]
end
inductive Lf:Ty->Tok->V->Prop
 |t:Lf .bool (.word (bi "TRUE")) (.bool true)
 |f:Lf .bool (.word (bi "FALSE")) (.bool false)
 |n:Lf .null (.word (bi "NULL")) .null
 |i (lo hi z):CJ lo hi z->Lf (.int lo hi) (.num z) (.int z)
 |w (a m w):w∈a++m.getD []->Lf (.names a m) (.word w) (.name w)
 |b (lo hi b):pw lo hi b.length->Lf (.bits lo hi) (.bits b) (.bits b)
 |o (lo hi b):pw lo hi b.length->Lf (.octets lo hi) (.hex b) (.octets b)
inductive RV(s:aI)(k:Nat):Nat->Ty->List Tok->V->List Tok->Prop
 |lf (d t x v r):Lf t x v->RV s k d t (x::r) v r
 |ref (d n t l v r):s.lookup n=some t->rv s k d t l=some (v,r)->RV s k (d+1) (.ref n) l v r
 |one (d a m w t r v q): (a++m.getD []).lookup w=some t->rv s k d t r=some (v,q)->RV s k (d+1) (.one a m) (.word w:: .sign [58]::r) (.one w v) q
 |row (d a m r v q):rrow s k d (a++m.getD []) a.length 0 [] r=some (v,q)->RV s k d (.row a m) (.sign [123]::r) v q
 |many (d lo hi t r y q):rall s k d t [] r=some (y,q)->pw lo hi y.length->RV s k d (.many lo hi t) (.sign [123]::r) (.many y) q
inductive RR(s:aI)(k d:Nat)(a:List eD)(n i:Nat)(acc:List (B×V)):List Tok->V->List Tok->Prop
 |close (r):gw a i (if n < i then a.length else n)->RR s k d a n i acc (.sign [125]::r) (.row acc) r
 |part (l w r p x v q u z):item acc.isEmpty l=some (.word w::r)->(∀q,l≠ .sign [125]::q)->a.findIdx? (fun x=>x.1 == w)=some p->gw a i p->d≠0->a[p]? =some x->rv s k (d - 1) x.2.2 r=some (v,q)->rrow s k d a n (p+1) (acc++ [(w,v)]) q=some (u,z)->RR s k d a n i acc l u z
inductive RA(s:aI)(k d:Nat)(t:Ty)(acc:List V):List Tok->List V->List Tok->Prop
 |close (r):RA s k d t acc (.sign [125]::r) acc r
 |more (l l' v q u z):item acc.isEmpty l=some l'->(∀q,l≠ .sign [125]::q)->d≠0->rv s k (d - 1) t l'=some (v,q)->rall s k d t (acc++ [v]) q=some (u,z)->RA s k d t acc l u z
section
variable {s:aI}{k d:Nat}{l:List Tok}
theorem pz{t:Ty}{v:V}{r:List Tok}(h:rv s (k+1) d t l=some (v,r)):RV s k d t l v r:=by
 cases t with
 |ref n=>
  rw[rQ]at h;cases d with
  |zero=>cases h
  |succ d=>
   obtain⟨u,j,g⟩:=dW.mp h;exact .ref _ _ _ _ _ _ j g
 |bool=>
  rw[mD]at h;split at h
  ·split at h
   ·rename_i e;cases h;cases e;exact .lf _ _ _ _ _ .t
   ·split at h
    ·rename_i e;cases h;cases e;exact .lf _ _ _ _ _ .f
    ·cases h
  ·cases h
 |null=>
  rw[mE]at h;split at h
  ·split at h
   ·rename_i e;cases h;cases e;exact .lf _ _ _ _ _ .n
   ·cases h
  ·cases h
 |int lo hi=>
  rw[px]at h;split at h
  ·split at h
   ·rename_i e;cases h;exact .lf _ _ _ _ _ (.i _ _ _ e)
   ·cases h
  ·cases h
 |names a m=>
  rw[lS]at h;split at h
  ·split at h
   ·rename_i e;cases h;exact .lf _ _ _ _ _ (.w _ _ _ e)
   ·cases h
  ·cases h
 |bits lo hi=>
  rw[mF]at h;split at h
  ·split at h
   ·rename_i e;cases h;exact .lf _ _ _ _ _ (.b _ _ _ e)
   ·cases h
  ·cases h
 |octets lo hi=>
  rw[iP]at h;split at h
  ·split at h
   ·rename_i e;cases h;exact .lf _ _ _ _ _ (.o _ _ _ e)
   ·cases h
  ·cases h
 |one a m=>
  rw[rR]at h;split at h
  ·cases d with
   |zero=>cases h
   |succ d=>
    obtain⟨u,j,g⟩:=dW.mp h;obtain⟨⟨q,p⟩,y,x⟩:=d7.mp g;cases x;exact .one _ _ _ _ _ _ _ _ j y
  ·cases h
 |row a m=>
  rw[py]at h;split at h
  ·exact .row _ _ _ _ _ _ h
  ·cases h
 |many lo hi t=>
  rw[mG]at h;split at h
  ·obtain⟨⟨q,p⟩,e,g⟩:=dW.mp h;split at g
   ·rename_i c;cases g;exact .many _ _ _ _ _ _ _ e c
   ·cases g
  ·cases h
theorem lT{a:List eD}{n i:Nat}{acc:List (B×V)}{u:V}{z:List Tok}(h:rrow s (k+1) d a n i acc l=some (u,z)):RR s k d a n i acc l u z:=by
 rw[iQ]at h;split at h
 ·by_cases c:gw a i (if n < i then a.length else n)
  ·rw[qab c]at h;cases h;exact .close _ c
  ·rw[qaa c]at h;cases h
 ·rename_i g;split at h
  ·rename_i w r e;unfold nh at h;split at h<;>try(cases h;done)
   rename_i p C;split at h<;>try(cases h;done)
   rename_i j;split at h<;>try(cases h;done)
   rename_i x y;split at h<;>try(cases h;done)
   rename_i v q D;exact .part _ _ _ _ _ _ _ _ _ e g C j.1 j.2 y D h
  ·cases h
theorem lU{t:Ty}{acc u:List V}{z:List Tok}(h:rall s (k+1) d t acc l=some (u,z)):RA s k d t acc l u z:=by
 rw[iR]at h;split at h
 ·cases h;exact .close _
 ·rename_i g;split at h
  ·rename_i p e;split at h<;>try(cases h;done)
   rename_i hd;split at h<;>try(cases h;done)
   rename_i v q j;exact .more _ _ _ _ _ _ e g hd j h
  ·cases h
end
theorem jU{f:Bool}{l r:List Tok}(h:item f l=some r):r.length<=l.length:=by
 unfold item at h;split at h
 ·cases h;exact aC _
 ·split at h
  ·cases h;simp
  ·cases h
theorem lV(s:aI)(k:Nat): (∀d t l x,rv s k d t l=some x->x.2.length < l.length)/\(∀d a n i acc l x,rrow s k d a n i acc l=some x->x.2.length < l.length)/\(∀d t acc l x,rall s k d t acc l=some x->x.2.length < l.length):=by
 induction k with
 |zero=>exact⟨fun d t l x h=>(by rw[rv.eq_def]at h;cases h),fun d a n i acc l x h=>(by rw[rrow.eq_def]at h;cases h),fun d t acc l x h=>(by rw[rall.eq_def]at h;cases h)⟩
 |succ k ih=>
  obtain⟨g,p,j⟩:=ih;refine⟨fun d t l x h=>?_,fun d a n i acc l x h=>?_,fun d t acc l x h=>?_⟩
  ·obtain⟨v,r⟩:=x;cases pz h with
   |lf=>exact cS _
   |ref _ _ _ _ _ _ _ e=>exact g _ _ _ _ e
   |one _ _ _ _ _ _ _ _ _ e=>have:=g _ _ _ _ e;exact dD (dD this)
   |row _ _ _ _ _ _ e=>have:=p _ _ _ _ _ _ _ e;exact dD this
   |many _ _ _ _ _ _ _ e=>have:=j _ _ _ _ _ e;exact dD this
  ·obtain⟨v,r⟩:=x;cases lT h with
   |close=>exact cS _
   |part _ _ _ _ _ _ _ _ _ e _ _ _ _ _ e1 e2=>exact jl (p _ _ _ _ _ _ (_,_) e2) (jl (g _ _ _ (_,_) e1) (jU e))
  ·obtain⟨v,r⟩:=x;cases lU h with
   |close=>exact cS _
   |more _ _ _ _ _ _ e _ _ e1 e2=>exact jl (j _ _ _ _ (_,_) e2) (bC (g _ _ _ (_,_) e1) (jU e))
inductive Fl:Ty->V->Prop
 |lf (t x v):Lf t x v->Fl t v
 |row (a m):Fl (.row a m) (.row [])
 |many (lo hi t):Fl (.many lo hi t) (.many [])
inductive Fn(s:aI)(R:Ty->V->Prop):Ty->V->Prop
 |ref (n t v):s.lookup n=some t->R t v->Fn s R (.ref n) v
 |one (a m w v t): (a++m.getD []).lookup w=some t->R t v->Fn s R (.one a m) (.one w v)
 |row (a m l): (∀x∈l,∃(p:Nat) (f:eD),(a++m.getD []).findIdx? (fun y=>y.1 == x.1)=some p/\(a++m.getD [])[p]? =some f/\R f.2.2 x.2)->Fn s R (.row a m) (.row l)
 |many (lo hi t l): (∀v∈l,R t v)->Fn s R (.many lo hi t) (.many l)
def Ft(s:aI):Nat->Ty->V->Prop
 |0=>Fl
 |d+1=>fun t v=>Fl t v\/Fn s (Ft s d) t v
theorem Ft.leaf{s:aI}{d:Nat}{t:Ty}{v:V}(h:Fl t v):Ft s d t v:=by
 cases d with
 |zero=>exact h
 |succ d=>exact .inl h
theorem Ad{t:Ty}{v:V}(h:Fl t v){k e:Nat} :dY (k+1) v=dY (e+1) v:=by
 cases h with
 |lf _ _ _ h=>cases h<;>rfl
 |row=>rfl
 |many=>rfl
theorem jV(s:aI)(d:Nat):∀(t:Ty) (v:V),Ft s d t v->∀k g,d < k->d < g->dY k v=dY g v:=by
 induction d with
 |zero=>
  intro t v h k g B z;obtain⟨k,rfl⟩:=yJ B;obtain⟨g,rfl⟩:=yJ z;exact Ad h
 |succ d ih=>
  intro t v h k g B z;obtain⟨k,rfl⟩:∃j,k=j+1:=⟨k - 1,by lia⟩;obtain⟨g,rfl⟩:∃j,g=j+1:=⟨g - 1,by lia⟩;have u:d < k:=yV B;have r:d < g:=yV z;rcases h with h|h
  ·exact Ad h
  ·cases h with
   |ref n t' _ _ q=>exact ih t' _ q (k+1) (g+1) (dD u) (dD r)
   |one a m w v' t' _ q=>
    show w++(58::32::dY k v')=w++(58::32::dY g v');rw[ih t' v' q k g u r]
   |row a m l h=>
    have e: (l.map fun x=>x.1++(32::dY k x.2))=l.map fun x=>x.1++(32::dY g x.2):=bI fun x y=>by
     obtain⟨p,f,_,_,q⟩:=h x y;rw[ih f.2.2 x.2 q k g u r]
    rw[told.eq_def,told.eq_def (g+1)];dsimp only;rw[e]
   |many lo hi t l h=>
    have e:l.map (dY k)=l.map (dY g):=bI fun x y=>ih _ x (h x y) k g u r;rw[told.eq_def,told.eq_def (g+1)];dsimp only;rw[e]
theorem ro(s:aI)(k:Nat): (∀d t l v q,rv s k d t l=some (v,q)->Ft s d t v)/\
  (∀d a n i acc l v q,rrow s k d a n i acc l=some (v,q)->(∀x∈acc,d≠0/\∃(p:Nat) (f:eD),a.findIdx? (fun y=>y.1 == x.1)=some p/\a[p]? =some f/\Ft s (d - 1) f.2.2 x.2)->
   ∃u,v= .row u/\∀x∈u,d≠0/\∃(p:Nat) (f:eD),a.findIdx? (fun y=>y.1 == x.1)=some p/\a[p]? =some f/\Ft s (d - 1) f.2.2 x.2)/\
  (∀d t acc l v q,rall s k d t acc l=some (v,q)->(∀x∈acc,d≠0/\Ft s (d - 1) t x)->∀x∈v,d≠0/\Ft s (d - 1) t x):=by
 induction k with
 |zero=>exact⟨fun d t l v q h=>(by rw[rv.eq_def]at h;cases h),fun d a n i acc l v q h=>(by rw[rrow.eq_def]at h;cases h),fun d t acc l v q h=>(by rw[rall.eq_def]at h;cases h)⟩
 |succ k ih=>
  obtain⟨B,F,E⟩:=ih;refine⟨fun d t l v q h=>?_,fun d a n i acc l v q h j=>?_,fun d t acc l v q h j=>?_⟩
  ·cases pz h with
   |lf _ _ _ _ _ e=>exact Ft.leaf (.lf _ _ _ e)
   |ref _ _ _ _ _ _ e1 e2=>exact .inr (.ref _ _ _ e1 (B _ _ _ _ _ e2))
   |one _ _ _ _ _ _ _ _ e1 e2=>exact .inr (.one _ _ _ _ _ e1 (B _ _ _ _ _ e2))
   |row _ a m _ _ _ e=>
    obtain⟨u,rfl,g⟩:=F _ _ _ _ _ _ _ _ e (by simp);cases u with
    |nil=>exact Ft.leaf (.row _ _)
    |cons x r=>
     cases d with
     |zero=>exact absurd rfl (g x af).1
     |succ d=>exact .inr (.row _ _ _ fun y C=>(g y C).2)
   |many _ lo hi t _ y _ e=>
    have g:=E _ _ _ _ _ _ e (by simp);cases y with
    |nil=>exact Ft.leaf (.many _ _ _)
    |cons x r=>
     cases d with
     |zero=>exact absurd rfl (g x af).1
     |succ d=>exact .inr (.many _ _ _ _ fun y C=>(g y C).2)
  ·cases lT h with
   |close=>exact⟨acc,rfl,j⟩
   |part _ w _ p f v' _ _ _ _ _ hp _ hd hf e2 e3=>
    refine F _ _ _ _ _ _ _ _ e3 fun x D=>?_;rcases aT.mp D with z|z
    ·exact j x z
    ·rw[aw.mp z];exact⟨hd,p,f,hp,hf,B _ _ _ _ _ e2⟩
  ·cases lU h with
   |close=>exact j
   |more _ _ v' _ _ _ _ _ hd e2 e3=>
    refine E _ _ _ _ _ _ e3 fun x D=>?_;rcases aT.mp D with z|z
    ·exact j x z
    ·rw[aw.mp z];exact⟨hd,B _ _ _ _ _ e2⟩
def jF(v:V):Nat:=(dY gE v).length
def wt:Tok->Nat
 | .word b=>b.length+2
 | .num _=>24
 | .bits l=>l.length+5
 | .hex l=>2*l.length+5
 | .sign _=>3
def Wt(l:List Tok):Nat:=(l.map wt).sum
theorem gZ(t:Tok)(l:List Tok):Wt (t::l)=wt t+Wt l:=by unfold Wt;rw[bg,eN]
def Rt(l:List (B×V)):Nat:=(l.map fun x=>x.1.length+4+jF x.2).sum
def St(l:List V):Nat:=(l.map fun x=>jF x+2).sum
theorem E8(l:List (B×V))(x:B×V):Rt (l++ [x])=Rt l+ (x.1.length+4+jF x.2):=by unfold Rt;rw[ay,ET];simp
theorem E9(l:List V)(x:V):St (l++ [x])=St l+ (jF x+2):=by unfold St;rw[ay,ET];simp
theorem uI:gE=399999+1:=rfl
theorem nE:∀l:List B,(lJ l).length<=(l.map fun b=>b.length+2).sum
 | []=>by decide
 | [b]=>by
  unfold lJ;show([b]:List B).flatten.length<=_;rw[yK];simp
 |a::b::r=>by
  have g:=nE (b::r);unfold lJ at g ⊢;rw[yL,jQ,jQ,au,au,bg,eN];have e: (bi ", ").length=2:=by decide
  rw[e]
  lia
theorem Fa{z:Int}(j: -dC<=z)(h:z < dC): (jR z).length<=20:=by
 have p:dC=9223372036854775808:=by decide+kernel
 rw[p]at j h;unfold jR;rw[au,ah];have g:z.natAbs < 10 ^ 19:=by
  have e: (10:Nat) ^ 19=10000000000000000000:=by decide
  lia
 have r:=(Nat.length_toDigits_le_iff (b:=10) (n:=z.natAbs) (k:=19) (by decide) (by decide)).mpr g;have q: (if z < 0 then [(45:UInt8)]else []).length<=1:=by split<;>decide
 lia
theorem Ke: (bi (hW [dZ 123,dZ 32,dZ 125])).length=3:=by decide
theorem Kf: (bi (hW [dZ 123,dZ 32])).length=2:=by decide
theorem Kg: (bi (hW [dZ 32,dZ 125])).length=2:=by decide
theorem CY(s:aI){d:Nat}{l:List (B×V)}(hd:d<=64)(h:∀x∈l,∃t,Ft s d t x.2):jF (.row l)<=Rt l+4:=by
 have e: (l.map fun x=>x.1++(32::dY 399999 x.2))=l.map fun x=>x.1++(32::dY gE x.2):=bI fun x p=>by
  obtain⟨t,q⟩:=h x p;rw[jV s d t x.2 q 399999 gE (by lia) (by rw[uI];lia)]
 unfold jF;rw[uI,told.eq_def];dsimp only;rw[e];split
 ·rw[Ke];lia
 ·rw[au,au,Kf,Kg];have:=nE (l.map fun x=>x.1++(32::dY gE x.2));rw[bV]at this;have u: (l.map ((fun b:B=>b.length+2)∘fun x=>x.1++(32::dY gE x.2))).sum<=Rt l:=by
   unfold Rt jF;clear this e h;induction l with
   |nil=>simp
   |cons x r ih=>
    rename_i g;rw[bg,bg,eN,eN];have j: (r.map ((fun b:B=>b.length+2)∘fun x=>x.1++(32::dY gE x.2))).sum<=(r.map fun x=>x.1.length+4+ (dY gE x.2).length).sum:=by
     clear ih g;induction r with
     |nil=>simp
     |cons y r ih2=>
      rw[bg,bg,eN,eN];have: ((fun b:B=>b.length+2)∘fun x:B×V=>x.1++(32::dY gE x.2)) y=y.1.length+3+ (dY gE y.2).length:=by
       show(y.1++(32::dY gE y.2)).length+2=_;rw[au,ae];lia
      lia
    have: ((fun b:B=>b.length+2)∘fun x:B×V=>x.1++(32::dY gE x.2)) x=x.1.length+3+ (dY gE x.2).length:=by
     show(x.1++(32::dY gE x.2)).length+2=_;rw[au,ae];lia
    lia
  lia
theorem Bq(s:aI){d:Nat}{t:Ty}{l:List V}(hd:d<=64)(h:∀x∈l,Ft s d t x):jF (.many l)<=St l+4:=by
 have e:l.map (dY 399999)=l.map (dY gE):=bI fun x g=>jV s d t x (h x g) 399999 gE (by lia) (by rw[uI];lia);unfold jF;rw[uI,told.eq_def];dsimp only;rw[e];split
 ·rw[Ke];lia
 ·rw[au,au,Kf,Kg];have:=nE (l.map (dY gE));rw[bV]at this;have j: (l.map ((fun b:B=>b.length+2)∘dY gE)).sum=St l:=rfl
  lia
theorem Ae{f:Bool}{l r:List Tok}(h:item f l=some r):Wt r<=Wt l:=by
 unfold item at h;split at h
 ·cases h;exact aC _
 ·split at h
  ·cases h;rw[gZ];lia
  ·cases h
theorem Fb:∀x:List Nat,(jS x).length=2*x.length:=fun x=>by
 unfold jS;induction x with
 |nil=>rfl
 |cons y r ih=>rw[CN,au,ih,ae];simp;lia
theorem Fc{t:Ty}{x:Tok}{v:V}(h:Lf t x v):jF v+2<=wt x:=by
 unfold jF;rw[uI];cases h with
 |t=>decide
 |f=>decide
 |n=>decide
 |i lo hi z hz=>
  have:=Fa (z:=z) (CO.mp fun y=>hz (.inr (.inr (.inl y)))) (Int.not_le.mp fun y=>hz (.inr (.inr (.inr y))));show(jR z).length+2<=24
  lia
 |w=>exact aC _
 |b lo hi b=>
  show(39::((b.map fun b=>if b=true then(49:UInt8)else 48)++ [39,66])).length+2<=b.length+5;rw[ae,au,ah];exact aC _
 |o lo hi b=>
  show(39::(jS b++ [39,72])).length+2<=2*b.length+5;rw[ae,au,Fb];exact aC _
theorem Fd(s:aI)(k:Nat): (∀d t l v q,d<=64->rv s k d t l=some (v,q)->jF v+2+Wt q<=Wt l)/\
  (∀d a n i acc l g q,d<=64->rrow s k d a n i acc l=some (.row g,q)->Rt g+3+Wt q<=Rt acc+Wt l)/\
  (∀d t acc l v q,d<=64->rall s k d t acc l=some (v,q)->St v+3+Wt q<=St acc+Wt l):=by
 induction k with
 |zero=>exact⟨fun d t l v q _ h=>(by rw[rv.eq_def]at h;cases h),fun d a n i acc l v q _ h=>(by rw[rrow.eq_def]at h;cases h),fun d t acc l v q _ h=>(by rw[rall.eq_def]at h;cases h)⟩
 |succ k ih=>
  obtain⟨u,F,E⟩:=ih;have M:wt (.sign [125])=3:=rfl;refine⟨fun d t l v q hd h=>?_,fun d a n i acc l g q hd h=>?_,fun d t acc l v q hd h=>?_⟩
  ·cases pz h with
   |lf _ _ x _ _ e=>have:=Fc e;rw[gZ];lia
   |ref _ _ _ _ _ _ _ e=>exact u _ _ _ _ _ (by lia) e
   |one d _ _ w t' r v _ _ e=>
    have C:=u _ _ _ _ _ (by lia) e;rw[gZ,gZ];show jF (.one w v)+2+Wt q<=(w.length+2)+ (3+Wt r);have Q:jF (.one w v)=w.length+2+jF v:=by
     unfold jF;rw[uI];show(w++(58::32::dY 399999 v)).length=_;rw[au,ae,ae,jV s d t' v ((ro s k).1 _ _ _ _ _ e) 399999 (399999+1) (by lia) (by lia)]
     lia
    lia
   |row _ a m r _ _ e=>
    obtain⟨g,rfl,B⟩:=(ro s k).2.1 _ _ _ _ _ _ _ _ e (by simp);have C:=F _ _ _ _ _ _ _ _ hd e;have I:=CY s (d:=d - 1) (l:=g) (by lia) fun x z=>by obtain⟨_,p,f,_,_,q⟩:=B x z;exact⟨_,q⟩
    rw[gZ];show jF (.row g)+2+Wt q<=3+Wt r;have J:Rt []=0:=rfl
    lia
   |many _ lo C t r y _ e=>
    have B:=(ro s k).2.2 _ _ _ _ _ _ e (by simp);have C:=E _ _ _ _ _ _ hd e;have I:=Bq s (d:=d - 1) (l:=y) (by lia) fun x z=>(B x z).2;rw[gZ];show jF (.many y)+2+Wt q<=3+Wt r;have J:St []=0:=rfl
    lia
  ·cases lT h with
   |close=>rw[gZ];lia
   |part _ w _ _ _ v' _ _ _ e _ _ _ _ _ e2 e3=>
    have D:=Ae e;rw[gZ]at D;have G:=u _ _ _ _ _ (by lia) e2;have j:=F _ _ _ _ _ _ _ _ hd e3;rw[E8]at j;dsimp only at j;have O:wt (.word w)=w.length+2:=rfl
    lia
  ·cases lU h with
   |close=>rw[gZ];lia
   |more _ _ v' _ _ _ e _ _ e2 e3=>
    have D:=Ae e;have G:=u _ _ _ _ _ (by lia) e2;have j:=E _ _ _ _ _ _ hd e3;rw[E9]at j
    lia
theorem nF(g:Nat)(e:Option Nat)(l:List Bits): (sized g e l).isSome=true↔pw g e l.length:=by
 unfold sized pw;split
 ·rename_i h;exact⟨fun z=>(by cases z),fun z=>absurd h z⟩
 ·rename_i h;cases e<;>exact⟨fun _=>h,fun _=>rfl⟩
section
variable(s:aI)(k:Nat)
theorem CZ(n:B)(v:V):iF s (k+1) (.ref n) v= (s.lookup n).bind fun t=>iF s k t v:=rfl
theorem Fe(e g:Option Int)(z:Int):iF s (k+1) (.int e g) (.int z)=if(e.any fun a=>decide (z < a))=true\/(g.any fun b=>decide (b < z))=true\/z < -dC\/dC<=z then none
   else(match e,g with
    |some a,some b=>some (below (b - a+1).toNat (z - a).toNat)
    |some a,none=>some (HQ ((plainBytes (z - a).toNat).map fun x=>inBits 8 x))
    |none,_=>some (HQ ((signedBytes z).map fun x=>inBits 8 x))):=rfl
theorem C0(g e:Option Int)(z:Int): (iF s (k+1) (.int g e) (.int z)).isSome=true↔CJ g e z:=by
 rw[Fe];unfold CJ;split
 ·rename_i h;exact⟨fun z=>(by cases z),fun z=>absurd h z⟩
 ·rename_i h;cases g with
  |none=>cases e<;>exact⟨fun _=>h,fun _=>rfl⟩
  |some a=>cases e<;>exact⟨fun _=>h,fun _=>rfl⟩
theorem Af(e:Nat)(g:Option Nat)(l:List Bool): (iF s (k+1) (.bits e g) (.bits l)).isSome=true↔pw e g l.length:=by
 show(sized e g (l.map fun b=> [b])).isSome=true↔_;rw[nF,ah]
theorem uJ(e:Nat)(g:Option Nat)(l:List Nat): (iF s (k+1) (.octets e g) (.octets l)).isSome=true↔pw e g l.length:=by
 show(sized e g (l.map fun x=>inBits 8 x)).isSome=true↔_;rw[nF,ah]
theorem jW{u v:Type}(f:u->Option v):∀l:List u,((l.mapM f).isSome=true↔∀x∈l,(f x).isSome=true)/\∀r,l.mapM f=some r->r.length=l.length
 | []=>⟨⟨fun _ x j=>(by cases j),fun _=>rfl⟩,fun r h=>(by cases h;rfl)⟩
 |a::l=>by
  obtain⟨g,p⟩:=jW f l;rw[m3];cases e:f a with
  |none=>exact⟨⟨fun z=>(by cases z),fun z=>(by have:=z a af;rw[e]at this;cases this)⟩,fun r h=>(by cases h)⟩
  |some b=>
   cases q:l.mapM f with
   |none=>
    rw[q]at g;refine⟨⟨fun z=>(by cases z),fun z=>?_⟩,fun r h=>(by cases h)⟩;have:=g.mpr fun x j=>z x (ak _ j);cases this
   |some r=>
    rw[q]at g;refine⟨⟨fun _ x j=>?_,fun _=>rfl⟩,fun y h=>?_⟩
    ·rcases am.mp j with z|z
     ·rw[z,e];rfl
     ·exact g.mp rfl x z
    ·have h':some (b::r)=some y:=h;cases h';rw[ae,ae,p r q]
theorem vK(h:Nat)(j:Option Nat)(t:Ty)(l:List V): (iF s (k+1) (.many h j t) (.many l)).isSome=true↔(∀v∈l,(iF s k t v).isSome=true)/\pw h j l.length:=by
 show((l.mapM (iF s k t)).bind fun bs=>sized h j bs).isSome=true↔_;obtain⟨g,p⟩:=jW (iF s k t) l;cases e:l.mapM (iF s k t)with
 |none=>
  rw[e]at g;exact⟨fun z=>(by cases z),fun z=>(by have:=g.mpr z.1;cases this)⟩
 |some r=>
  rw[e]at g;rw[eh,nF,p r e];exact⟨fun z=>⟨g.mp rfl,z⟩,fun z=>z.2⟩
end
theorem idx_none{g:Type}[BEq g][LawfulBEq g]{b:g} :∀ {l:List g},(l.findIdx? fun x=>x == b)=none↔b∉l
 | []=>by simp
 |a::l=>by
  rw[ey];by_cases e:a=b
  ·rw[e,qag];simp
  ·rw[qae.mpr e];have j:=idx_none (b:=b) (l:=l);cases h:ox (fun x=>x == b) l with
   |none=>
    rw[h]at j;have:=j.mp rfl;simp[this,Ne.symm e]
   |some i=>
    have:¬b∉l:=fun z=>by rw[j.mpr z]at h;cases h
    simp at this;simp[this]
section
variable(s:aI)(k:Nat)
theorem xg(l:List B)(m:Option (List B))(b:B): (iF s (k+1) (.names l m) (.name b)).isSome=true↔b∈l++m.getD []:=by
 show(match l.findIdx? fun x=>x == b with
   |some i=>some ((if m.isSome=true then [false]else [])++below l.length i)
   |none=>(match m.bind fun m=>m.findIdx? fun x=>x == b with
    |some i=>some (true::few i)
    |none=>none)).isSome=true↔_
 cases e:l.findIdx? fun x=>x == b with
 |some i=>
  have:b∈l:=bz fun z=>by rw[idx_none.mpr z]at e;cases e
  exact⟨fun _=>aH _ this,fun _=>rfl⟩
 |none=>
  have h:b∉l:=idx_none.mp e;cases m with
  |none=>
   rw[dN,aG];exact⟨fun z=>(by cases z),fun z=>absurd z h⟩
  |some m=>
   rw[bx,eh];cases g:m.findIdx? fun x=>x == b with
   |some i=>
    have:b∈m:=bz fun z=>by rw[idx_none.mpr z]at g;cases g
    exact⟨fun _=>aM _ this,fun _=>rfl⟩
   |none=>
    have j:b∉m:=idx_none.mp g;exact⟨fun z=>(by cases z),fun z=>((aT.mp z).elim h j).elim⟩
theorem look_none{j:Type}{n:B} :∀ {l:List (B×j)},(l.findIdx? fun x=>x.1 == n)=none↔l.lookup n=none
 | []=>by simp
 | (a,y)::l=>by
  rw[ey,bS];by_cases e:a=n
  ·rw[e,qag];simp
  ·rw[qae.mpr e,qae.mpr (Ne.symm e)];have g:=look_none (n:=n) (l:=l);cases h:ox (fun x=>x.1 == n) l with
   |none=>rw[h]at g;simp[g.mp rfl]
   |some i=>
    rw[h]at g;have:l.lookup n≠none:=fun z=>by have:=g.mpr z;cases this
    simp[this]
theorem xh{e:Type}{n:B} :∀(l r:List (B×e)),(l++r).lookup n=match l.lookup n with|some y=>some y|none=>r.lookup n
 | [],r=>rfl
 | (a,y)::l,r=>by
  rw[rj,bS,bS,xh l r];cases n == a<;>rfl
theorem C1(l:List (B×Ty))(m:Option (List (B×Ty)))(n:B)(v:V): (iF s (k+1) (.one l m) (.one n v)).isSome=true↔∃t,(l++m.getD []).lookup n=some t/\(iF s k t v).isSome=true:=by
 show(match l.findIdx? fun(x:B×Ty)=>x.1 == n with
   |some i=>(l.lookup n).bind fun t=>(iF s k t v).map fun b=>(if m.isSome=true then [false]else [])++(below l.length i++b)
   |none=>(match m.bind fun m=>m.findIdx? fun(x:B×Ty)=>x.1 == n with
    |some i=>((m.getD []).lookup n).bind fun t=>(iF s k t v).map fun b=>true::(few i++opened b)
    |none=>none)).isSome=true↔_
 rw[xh];cases e:l.findIdx? fun x=>x.1 == n with
 |some i=>
  cases g:l.lookup n with
  |none=>rw[look_none.mpr g]at e;cases e
  |some t=>
   dsimp only;rw[eh,dy];exact⟨fun z=>⟨t,rfl,z⟩,fun⟨p,j,h⟩=>by cases j;exact h⟩
 |none=>
  rw[look_none.mp e];cases m with
  |none=>exact⟨fun z=>(by cases z),fun⟨t,q,_⟩=>(by cases q)⟩
  |some m=>
   dsimp only;rw[bx,eh];cases g:m.findIdx? fun x=>x.1 == n with
   |none=>
    rw[look_none.mp g];exact⟨fun z=>(by cases z),fun⟨t,q,_⟩=>(by cases q)⟩
   |some i=>
    cases r:m.lookup n with
    |none=>rw[look_none.mpr r]at g;cases g
    |some t=>
     dsimp only;rw[eh,dy];exact⟨fun z=>⟨t,rfl,z⟩,fun⟨p,j,h⟩=>by cases j;exact h⟩
end
def Pt(s:aI)(vs:List (B×V))(out:eD->Prop)(f:Nat)(x:eD):Prop:=match vs.lookup x.1 with
 |some v=>(iF s f x.2.2 v).isSome=true
 |none=>out x
def Pts(s:aI)(vs:List (B×V))(out:eD->Prop):Nat->List eD->Prop
 |0,_=>False
 |_+1, []=>True
 |k+1,x::r=>Pt s vs out k x/\Pts s vs out k r
theorem rS(s:aI)(vs:List (B×V)):∀(k:Nat) (l:List eD),(Jz s k l vs).isSome=true↔Pts s vs (fun x=>x.2.1=true) k l
 |0,l=>by exact⟨fun z=>(by cases z),fun z=>z.elim⟩
 |k+1, []=>by exact⟨fun _=>trivial,fun _=>rfl⟩
 |k+1,x::r=>by
  have g:=rS s vs k r;show(match vs.lookup x.1 with
   |some v=>(match iF s k x.2.2 v,Jz s k r vs with
    |some a,some b=>some (a++b)
    |_,_=>none)
   |none=>if x.2.1=true then Jz s k r vs else none).isSome=true↔_
  show _↔Pt s vs _ k x/\Pts s vs _ k r;rw[<-g];unfold Pt;cases e:vs.lookup x.1 with
  |some v=>
   dsimp only;cases p:iF s k x.2.2 v with
   |none=>exact⟨fun z=>(by cases z),fun z=>(by cases z.1)⟩
   |some a=>
    cases j:Jz s k r vs with
    |none=>exact⟨fun z=>(by cases z),fun z=>(by cases z.2)⟩
    |some b=>exact⟨fun _=>⟨rfl,rfl⟩,fun _=>rfl⟩
  |none=>
   dsimp only;split
   ·rename_i h;exact⟨fun z=>⟨h,z⟩,fun z=>z.2⟩
   ·rename_i h;exact⟨fun z=>(by cases z),fun z=>absurd z.1 h⟩
theorem rT(s:aI)(vs:List (B×V)):∀(k:Nat) (l:List eD),(JA s k l vs).isSome=true↔Pts s vs (fun _=>True) k l
 |0,l=>by exact⟨fun z=>(by cases z),fun z=>z.elim⟩
 |k+1, []=>by exact⟨fun _=>trivial,fun _=>rfl⟩
 |k+1,x::r=>by
  have g:=rT s vs k r;show(match vs.lookup x.1 with
   |some v=>(match iF s k x.2.2 v,JA s k r vs with
    |some a,some b=>some (opened a++b)
    |_,_=>none)
   |none=>JA s k r vs).isSome=true↔_
  show _↔Pt s vs _ k x/\Pts s vs _ k r;rw[<-g];unfold Pt;cases e:vs.lookup x.1 with
  |some v=>
   dsimp only;cases j:iF s k x.2.2 v with
   |none=>exact⟨fun z=>(by cases z),fun z=>(by cases z.1)⟩
   |some a=>
    cases h:JA s k r vs with
    |none=>exact⟨fun z=>(by cases z),fun z=>(by cases z.2)⟩
    |some b=>exact⟨fun _=>⟨rfl,rfl⟩,fun _=>rfl⟩
  |none=>exact⟨fun z=>⟨trivial,z⟩,fun z=>z.2⟩
theorem C2(s:aI)(k:Nat)(l:List eD)(m:Option (List eD))(vs:List (B×V)): (iF s (k+1) (.row l m) (.row vs)).isSome=true↔
  Pts s vs (fun x=>x.2.1=true) k l/\((∃x∈m.getD [],(vs.lookup x.1).isSome=true)->(∀x∈m.getD [],x.2.1=true\/(vs.lookup x.1).isSome=true)/\Pts s vs (fun _=>True) k (m.getD [])):=by
 show(let more:=m.getD []
   let there:=more.map fun x=>(vs.lookup x.1).isSome
   let ext:=there.any id
   if ext=true/\(more.any fun x=> !x.2.1&&(vs.lookup x.1).isNone)=true then none
   else(match Jz s k l vs with
    |none=>none
    |some b=>
     let g:=(l.filter fun x=>x.2.1).map fun x=>(vs.lookup x.1).isSome
     let head:=(if m.isSome=true then [ext]else [])++(g++b)
     if ext=false then some head
     else(match JA s k more vs with
      |some o=>some (head++((if more.length<=64 then false::inBits 6 (more.length - 1)else true::HQ (more.map fun _=> []))++(there++o)))
      |none=>none))).isSome=true↔_
 dsimp only;rw[<-rS,<-rT];have p: (((m.getD []).map fun x=>(vs.lookup x.1).isSome).any id)=true↔∃x∈m.getD [],(vs.lookup x.1).isSome=true:=by
  rw[JB,rk];rfl
 have r: ((m.getD []).any fun x=> !x.2.1&&(vs.lookup x.1).isNone)=true↔¬∀x∈m.getD [],x.2.1=true\/(vs.lookup x.1).isSome=true:=by
  rw[rk];constructor
  ·rintro⟨x,C,j⟩ y;rcases y x C with q|q
   ·rw[q]at j;cases j
   ·cases e:vs.lookup x.1 with
    |none=>rw[e]at q;cases q
    |some v=>rw[e]at j;simp at j
  ·intro h;refine bz fun z=>h fun x u=>?_;cases q:x.2.1 with
   |true=>exact .inl rfl
   |false=>
    cases e:vs.lookup x.1 with
    |some v=>exact .inr rfl
    |none=>exact absurd ⟨x,u,by rw[q,e];rfl⟩ z
 generalize D: (((m.getD []).map fun x=>(vs.lookup x.1).isSome).any id)=E at p;split
 ·rename_i h;refine⟨fun z=>(by cases z),fun z=>?_⟩;exact absurd (z.2 (p.mp h.1)).1 (r.mp h.2)
 ·rename_i h;cases G:Jz s k l vs with
  |none=>exact⟨fun z=>(by cases z),fun z=>(by cases z.1)⟩
  |some b=>
   cases E with
   |false=>exact⟨fun _=>⟨rfl,fun z=>absurd (p.mpr z) (by decide)⟩,fun _=>rfl⟩
   |true=>
    have j:∀x∈m.getD [],x.2.1=true\/(vs.lookup x.1).isSome=true:=bz fun z=>h ⟨rfl,r.mpr z⟩;cases F:JA s k (m.getD []) vs with
    |none=>exact⟨fun z=>(by cases z),fun z=>(by have:=(z.2 (p.mp rfl)).2;cases this)⟩
    |some o=>exact⟨fun _=>⟨rfl,fun _=>⟨j,rfl⟩⟩,fun _=>rfl⟩
theorem Ag(s:aI)(k:Nat):∀g:Nat,(∀d t l,2*d+l.length+1<=k->2*d+l.length+1<=g->rv s k d t l=rv s g d t l)/\
  (∀d a n i acc l,2*d+l.length+1<=k->2*d+l.length+1<=g->rrow s k d a n i acc l=rrow s g d a n i acc l)/\
  (∀d t acc l,2*d+l.length+1<=k->2*d+l.length+1<=g->rall s k d t acc l=rall s g d t acc l):=by
 induction k with
 |zero=>exact fun g=>⟨fun d t l h=>by lia,fun d a n i acc l h=>by lia,fun d t acc l h=>by lia⟩
 |succ k ih=>
  intro g;cases g with
  |zero=>exact⟨fun d t l _ h=>by lia,fun d a n i acc l _ h=>by lia,fun d t acc l _ h=>by lia⟩
  |succ g=>
   obtain⟨j,z,y⟩:=ih g;refine⟨fun d t l a b=>?_,fun d B n i acc l a b=>?_,fun d t acc l a b=>?_⟩
   ·cases t with
    |ref n=>
     rw[rQ,rQ];by_cases hd:d=0
     ·rw[qab hd,qab hd]
     ·rw[qaa hd,qaa hd];congr 1;funext t;exact j _ _ _ (by lia) (by lia)
    |bool=>rw[mD,mD]
    |null=>rw[mE,mE]
    |int lo hi=>rw[px,px]
    |names a m=>rw[lS,lS]
    |bits lo hi=>rw[mF,mF]
    |octets lo hi=>rw[iP,iP]
    |one B m=>
     rw[rR,rR];split
     ·by_cases hd:d=0
      ·rw[qab hd,qab hd]
      ·rw[qaa hd,qaa hd];congr 1;funext t;simp only[ae]at a b;rw[j _ _ _ (by lia) (by lia)]
     ·rfl
    |row B m=>
     rw[py,py];split
     ·simp only[ae]at a b;exact z _ _ _ _ _ _ (by lia) (by lia)
     ·rfl
    |many lo hi t=>
     rw[mG,mG];split
     ·simp only[ae]at a b;rw[y _ _ _ _ (by lia) (by lia)]
     ·rfl
   ·rw[iQ,iQ];split
    ·rfl
    ·split
     ·rename_i w r e;have x:=jU e;simp only[ae]at x;unfold nh;split
      ·split
       ·rename_i hd;split
        ·rw[j _ _ _ (by lia) (by lia)];split
         ·rename_i v q u;have p:=(lV s g).1 _ _ _ _ u;dsimp only at p;exact z _ _ _ _ _ _ (by lia) (by lia)
         ·rfl
        ·rfl
       ·rfl
      ·rfl
     ·rfl
   ·rw[iR,iR];split
    ·rfl
    ·split
     ·rename_i C e;have x:=jU e;by_cases hd:d=0
      ·rw[qab hd,qab hd]
      ·rw[qaa hd,qaa hd,j _ _ _ (by lia) (by lia)];split
       ·rename_i v q u;have p:=(lV s g).1 _ _ _ _ u;dsimp only at p;exact y _ _ _ _ (by lia) (by lia)
       ·rfl
     ·rfl
section
variable(s:aI)(k d:Nat)(l:List Tok)
theorem Ah(n:B):val s (k+1) d (.ref n) l=if d=0 then none else(s.lookup n).bind fun t=>val s k (d - 1) t l:=rfl
theorem C3:val s (k+1) d .bool l= (match l with
   | .word w::r=>if w=bi "TRUE" then some (.bool true,r)else if w=bi "FALSE" then some (.bool false,r)else none
   |_=>none):=rfl
theorem C4:val s (k+1) d .null l= (match l with
   | .word w::r=>if w=bi "NULL" then some (.null,r)else none
   |_=>none):=rfl
theorem Ff(e g:Option Int):val s (k+1) d (.int e g) l= (match l with
   | .num z::r=>some (.int z,r)
   |_=>none):=rfl
theorem Br(a:List B)(m:Option (List B)):val s (k+1) d (.names a m) l= (match l with
   | .word w::r=>some (.name w,r)
   |_=>none):=rfl
theorem C5(e:Nat)(g:Option Nat):val s (k+1) d (.bits e g) l= (match l with
   | .bits b::r=>some (.bits b,r)
   |_=>none):=rfl
theorem y6(e:Nat)(g:Option Nat):val s (k+1) d (.octets e g) l= (match l with
   | .hex b::r=>some (.octets b,r)
   |_=>none):=rfl
theorem Ai(a:List (B×Ty))(m:Option (List (B×Ty))):val s (k+1) d (.one a m) l= (match l with
   | .word w:: .sign [58]::r=>if d=0 then none else((a++m.getD []).lookup w).bind fun t=>(val s k (d - 1) t r).map fun x=>(.one w x.1,x.2)
   |_=>none):=rfl
theorem vL(a:List eD)(m:Option (List eD)):val s (k+1) d (.row a m) l= (match l with
   | .sign [123]:: .sign [125]::r=>some (.row [],r)
   | .sign [123]::r=>if d=0 then none else yW s k (d - 1) (a++m.getD []) r
   |_=>none):=rfl
theorem rV(e:Nat)(g:Option Nat)(t:Ty):val s (k+1) d (.many e g t) l= (match l with
   | .sign [123]:: .sign [125]::r=>some (.many [],r)
   | .sign [123]::r=>if d=0 then none else Bg s k (d - 1) t r
   |_=>none):=rfl
theorem pA(a:List eD)(w:B)(r:List Tok):yW s (k+1) d a (.word w::r)= (match a.dropWhile fun x=>x.1 != w with
   | (_,_,t)::more=>(match val s k d t r with
    |some (v, .sign [125]::q)=>some (.row [(w,v)],q)
    |some (v, .sign [44]::q)=>(match yW s k d more q with
     |some (.row m,z)=>some (.row ((w,v)::m),z)
     |_=>none)
    |_=>none)
   | []=>none):=rfl
theorem pB(t:Ty):Bg s (k+1) d t l= (match val s k d t l with
  |some (v, .sign [125]::q)=>some (.many [v],q)
  |some (v, .sign [44]::q)=>(match Bg s k d t q with
   |some (.many m,z)=>some (.many (v::m),z)
   |_=>none)
  |_=>none):=rfl
end
section
variable {s:aI}{k d:Nat}
theorem Bs(a:List (B×Ty))(m:Option (List (B×Ty)))(w:B)(r:List Tok):val s (k+1) d (.one a m) (.word w:: .sign [58]::r)=if d=0 then none else((a++m.getD []).lookup w).bind fun t=>(val s k (d - 1) t r).map fun x=>(.one w x.1,x.2):=by
 rw[Ai];rfl
theorem Bt(a:List eD)(m:Option (List eD))(r:List Tok):val s (k+1) d (.row a m) (.sign [123]:: .sign [125]::r)=some (.row [],r):=by rw[vL];rfl
theorem Bu(a:List eD)(m:Option (List eD)){r:List Tok}(h:∀q,r≠ .sign [125]::q):val s (k+1) d (.row a m) (.sign [123]::r)=if d=0 then none else yW s k (d - 1) (a++m.getD []) r:=by
 rw[vL];split
 ·rename_i e;injection e with _ e;exact absurd e (h _)
 ·rename_i e;injection e with _ e;rw[e]
 ·rename_i e;exact absurd rfl (e _)
theorem y8(e:Nat)(g:Option Nat)(t:Ty)(r:List Tok):val s (k+1) d (.many e g t) (.sign [123]:: .sign [125]::r)=some (.many [],r):=by rw[rV];rfl
theorem y9(g:Nat)(j:Option Nat)(t:Ty){r:List Tok}(h:∀q,r≠ .sign [125]::q):val s (k+1) d (.many g j t) (.sign [123]::r)=if d=0 then none else Bg s k (d - 1) t r:=by
 rw[rV];split
 ·rename_i e;injection e with _ e;exact absurd e (h _)
 ·rename_i e;injection e with _ e;rw[e]
 ·rename_i e;exact absurd rfl (e _)
theorem Fg{a more:List eD}{x:eD}{w:B}{r q:List Tok}{v:V}(h: (a.dropWhile fun x=>x.1 != w)=x::more)(e:val s k d x.2.2 r=some (v, .sign [125]::q)):yW s (k+1) d a (.word w::r)=some (.row [(w,v)],q):=by
 obtain⟨p,j,g⟩:=x;rw[pA,h];dsimp only at e ⊢;rw[e];rfl
theorem Fh{a more:List eD}{x:eD}{w:B}{r q z:List Tok}{v:V}{m:List (B×V)}(h: (a.dropWhile fun x=>x.1 != w)=x::more)(e:val s k d x.2.2 r=some (v, .sign [44]::q))(g:yW s k d more q=some (.row m,z)):yW s (k+1) d a (.word w::r)=some (.row ((w,v)::m),z):=by
 obtain⟨u,p,j⟩:=x;rw[pA,h];dsimp only at e ⊢;rw[e];show(match yW s k d more q with
  |some (.row m,z)=>some (V.row ((w,v)::m),z)
  |_=>none)=_
 rw[g]
theorem Fi{t:Ty}{l q:List Tok}{v:V}(e:val s k d t l=some (v, .sign [125]::q)):Bg s (k+1) d t l=some (.many [v],q):=by
 rw[pB,e];rfl
theorem Fj{t:Ty}{l q z:List Tok}{v:V}{m:List V}(e:val s k d t l=some (v, .sign [44]::q))(g:Bg s k d t q=some (.many m,z)):Bg s (k+1) d t l=some (.many (v::m),z):=by
 rw[pB,e];show(match Bg s k d t q with
  |some (.many m,z)=>some (V.many (v::m),z)
  |_=>none)=_
 rw[g]
end
theorem uK{l r:List Tok}(h:item false l=some r):l= .sign [44]::r:=by
 unfold item at h;rw[qaa (by decide)]at h;split at h
 ·cases h;rfl
 ·cases h
theorem Fk{a:List eD}{w:B} :∀ {p i:Nat},a.findIdx? (fun x=>x.1 == w)=some p->i<=p->(a.drop i).dropWhile (fun x=>x.1 != w)=a.drop p:=by
 intro p i h v;rw[cx]at h;obtain⟨q,g,r⟩:=h;induction u:p - i generalizing i with
 |zero=>
  have:i=p:=by lia
  subst this;rw[dL q,Bh,qaa];have:a[i].1=w:=by simpa using g
  simp[this]
 |succ j ih=>
  have e:i < p:=by lia
  rw[dL (show i < a.length by lia),Bh,qab]
  ·exact ih (by lia) (by lia)
  ·have:=r i e;simpa using this
theorem Ie(s:aI)(k:Nat): (∀d t l v r,rv s k d t l=some (v,r)->val s k d t l=some (v,r))/\
  (∀d a n i acc l v r,rrow s k d a n i acc l=some (v,r)->(v= .row acc/\l= .sign [125]::r)\/∃j m,item acc.isEmpty l=some j/\(∀q,l≠ .sign [125]::q)/\m≠ []/\v= .row (acc++m)/\d≠0/\yW s k (d - 1) (a.drop i) j=some (.row m,r))/\
  (∀d t acc l v r,rall s k d t acc l=some (v,r)->(v=acc/\l= .sign [125]::r)\/∃j m,item acc.isEmpty l=some j/\(∀q,l≠ .sign [125]::q)/\m≠ []/\v=acc++m/\d≠0/\Bg s k (d - 1) t j=some (.many m,r)):=by
 induction k with
 |zero=>exact⟨fun d t l v r h=>(by rw[rv.eq_def]at h;cases h),fun d a n i acc l v r h=>(by rw[rrow.eq_def]at h;cases h),fun d t acc l v r h=>(by rw[rall.eq_def]at h;cases h)⟩
 |succ k ih=>
  obtain⟨I,Q,O⟩:=ih;refine⟨fun d t l v r h=>?_,fun d a n i acc l v r h=>?_,fun d t acc l v r h=>?_⟩
  ·cases pz h with
   |lf _ _ _ _ _ e=>cases e<;>rfl
   |ref d _ t' _ _ _ e g=>
    rw[Ah,qaa (ik d),e];exact I _ _ _ _ _ g
   |one d a m w t' _ y _ e F=>
    rw[Bs,qaa (ik d),e];show(val s k d t' _).map _=_;rw[I _ _ _ _ _ F];rfl
   |row _ a m q _ _ h=>
    rcases Q _ _ _ _ _ _ _ _ h with⟨B,g⟩ | ⟨j,m',B,g,F,E,e5,e6⟩
    ·rw[g,B,Bt]
    ·have B:=aB (show some q=some j from B);subst B;rw[Bu a m g,qaa e5,E];exact e6
   |many _ lo hi t q y _ h=>
    rcases O _ _ _ _ _ _ h with⟨B,g⟩ | ⟨j,m',B,g,F,E,e5,e6⟩
    ·rw[g,B,y8]
    ·have B:=aB (show some q=some j from B);subst B;rw[y9 lo hi t g,qaa e5,E];exact e6
  ·cases lT h with
   |close=>exact .inl ⟨rfl,rfl⟩
   |part _ w r' p x u q _ _ e hno hp hl hd0 hx g h=>
    refine .inr ?_;have G:=I _ _ _ _ _ g;have M:p < a.length:=(aD.mp hx).1;have J:a[p]=x:=(aD.mp hx).2;have hd:=Fk hp hl.1;have z:a.drop p=x::a.drop (p+1):=by rw[dL M,J]
    have D: (acc++ [(w,u)]).isEmpty=false:=by simp
    rcases Q _ _ _ _ _ _ _ _ h with⟨F,E⟩ | ⟨j,m',C,f2,f3,f4,f5,f6⟩
    ·refine⟨_, [(w,u)],e,hno,by simp,F,hd0,?_⟩;exact Fg (hd.trans z) (by rw[G,E])
    ·rw[D]at C;have C:=uK C;refine⟨_,(w,u)::m',e,hno,by simp,by rw[f4,bD];rfl,hd0,?_⟩;exact Fh (hd.trans z) (by rw[G,C]) f6
  ·cases lU h with
   |close=>exact .inl ⟨rfl,rfl⟩
   |more _ _ u q _ _ e hno hd g h=>
    refine .inr ?_;have G:=I _ _ _ _ _ g;have D: (acc++ [u]).isEmpty=false:=by simp
    rcases O _ _ _ _ _ _ h with⟨F,E⟩ | ⟨j,m',C,f2,f3,f4,f5,f6⟩
    ·refine⟨_, [u],e,hno,by simp,F,hd,?_⟩;exact Fi (by rw[G,E])
    ·rw[D]at C;have C:=uK C;refine⟨_,u::m',e,hno,by simp,by rw[f4,bD];rfl,hd,?_⟩;exact Fj (by rw[G,C]) f6
structure Kh(N:Ty->Prop):Prop where
 row:∀l m,N (.row l m)->((l++m.getD []).map fun x=>x.1).Nodup/\∀x∈l++m.getD [],N x.2.2
 one:∀l m,N (.one l m)->∀x∈l++m.getD [],N x.2
 many:∀lo hi t,N (.many lo hi t)->N t
theorem rW{a:List eD}(h: (a.map fun x=>x.1).Nodup){i j:Nat}{x y:eD}(g:a[i]? =some x)(q:a[j]? =some y)(e:x.1=y.1):i=j:=by
 have p:i < (a.map fun x=>x.1).length:=by rw[ah];exact(aD.mp g).1
 refine(CP p h).mp ?_;rw[bp,bp,g,q];show some x.1=some y.1;rw[e]
theorem mH{a:List eD}(y: (a.map fun x=>x.1).Nodup){i:Nat}{w:B}{x:eD}{more:List eD}(h: (a.drop i).dropWhile (fun x=>x.1 != w)=x::more):
  ∃p,i<=p/\a[p]? =some x/\x.1=w/\more=a.drop (p+1)/\a.findIdx? (fun x=>x.1 == w)=some p:=by
 have e:=cZ (p:=fun x:eD=>x.1 != w) (l:=a.drop i);rw[h]at e;generalize List.takeWhile (fun x:eD=>x.1 != w) (a.drop i)=tw at e;have u:x.1=w:=by
  have:=eT (fun x:eD=>x.1 != w) (l:=a.drop i) (by rw[h];simp);have g: (x.1 != w)=false:=by simpa only[h,Hc]using this
  simpa using g
 have g:a.drop (i+tw.length)=x::more:=by
  rw[<-dn,<-e,jq]
 have r:a[i+tw.length]? =some x:=by
  have: (a.drop (i+tw.length))[0]? =some x:=by rw[g];rfl
  rw[cO]at this;exact this
 refine⟨i+tw.length,by lia,r,u,?_,?_⟩
 ·rw[<-dn,g];rfl
 ·rw[cx];obtain⟨C,q⟩:=aD.mp r;refine⟨C,by rw[q,u];simp,fun j D z=>?_⟩;have v:a[j].1=w:=by simpa using z
  have:=rW y (bF (show j < a.length by lia)) r (v.trans u.symm)
  lia
structure Hq(s:aI)(l e:List eD)(vs:List (B×V)):Prop where
 root:∀x∈l,vs.lookup x.1=none->x.2.1=true
 ext:∀y∈e,vs.lookup y.1≠none->∀x∈e,vs.lookup x.1=none->x.2.1=true
 val:∀x∈l++e,∀v,vs.lookup x.1=some v->∃f,(iF s f x.2.2 v).isSome=true
theorem Pts.all{s:aI}{vs:List (B×V)}{out:eD->Prop} :∀ {k:Nat} {l:List eD},Pts s vs out k l->∀x∈l,∃f,Pt s vs out f x
 |0,_,h,_,_=>h.elim
 |_+1, [],_,_,hx=>(by cases hx)
 |k+1,y::r,h,x,hx=>by
  obtain⟨g,e⟩:=(show Pt s vs out k y/\Pts s vs out k r from h);rcases am.mp hx with z|z
  ·rw[z];exact⟨k,g⟩
  ·exact Pts.all e x z
theorem row_ok{s:aI}{k:Nat}{l:List eD}{m:Option (List eD)}{vs:List (B×V)}(h: (iF s (k+1) (.row l m) (.row vs)).isSome=true):Hq s l (m.getD []) vs:=by
 rw[C2]at h;obtain⟨p,j⟩:=h;refine⟨fun x g e=>?_,fun y r u x g e=>?_,fun x g v e=>?_⟩
 ·obtain⟨f,q⟩:=p.all x g;unfold Pt at q;rw[e]at q;exact q
 ·obtain⟨C,_⟩:=j ⟨y,r,by cases q:vs.lookup y.1 with|none=>exact absurd q u|some _=>rfl⟩;rcases C x g with q|q
  ·exact q
  ·rw[e]at q;cases q
 ·rcases aT.mp g with z|z
  ·obtain⟨f,q⟩:=p.all x z;unfold Pt at q;rw[e]at q;exact⟨f,q⟩
  ·obtain⟨f,q⟩:=(j ⟨x,z,by rw[e];rfl⟩).2.all x z;unfold Pt at q;rw[e]at q;exact⟨f,q⟩
theorem xi{s:aI}{k d:Nat}{a:List eD}{l:List Tok}{x:V×List Tok}(h:yW s k d a l=some x):∃w r f more v q,l= .word w::r/\k≠0/\(a.dropWhile fun x=>x.1 != w)=f::more/\
  ((val s (k - 1) d f.2.2 r=some (v, .sign [125]::q)/\x= (.row [(w,v)],q))\/∃g m,val s (k - 1) d f.2.2 r=some (v, .sign [44]::g)/\yW s (k - 1) d more g=some (.row m,q)/\x= (.row ((w,v)::m),q)):=by
 cases k with
 |zero=>cases(show none=some _ from h)
 |succ k=>
  cases l with
  |nil=>cases(show none=some _ from h)
  |cons t r=>
   cases t with
   |num z=>cases(show none=some _ from h)
   |bits z=>cases(show none=some _ from h)
   |hex z=>cases(show none=some _ from h)
   |sign z=>cases(show none=some _ from h)
   |word w=>
    rw[pA]at h;split at h<;>try(cases h;done)
    rename_i p j t more u;split at h<;>try(cases h;done)
    ·rename_i v q e;cases h;exact⟨w,r,(p,j,t),more,v,q,rfl,by lia,u, .inl ⟨e,rfl⟩⟩
    ·rename_i v q e;split at h<;>try(cases h;done)
     rename_i m z y;cases h;exact⟨w,r,(p,j,t),more,v,z,rfl,by lia,u, .inr ⟨q,m,e,y,rfl⟩⟩
theorem If{a:List eD}{w:B}{f:eD}{more:List eD}(h: (a.dropWhile fun x=>x.1 != w)=f::more):f∈a/\(∀y∈more,y∈a)/\f.1=w:=by
 have e:=cZ (p:=fun x:eD=>x.1 != w) (l:=a);rw[h]at e;refine⟨by rw[<-e];simp,fun y g=>by rw[<-e];simp[g],?_⟩;have:=eT (fun x:eD=>x.1 != w) (l:=a) (by rw[h];simp);have j: (f.1 != w)=false:=by simpa only[h,Hc]using this
 simpa using j
theorem nG(s:aI):∀(k d:Nat) (a:List eD) (l:List Tok) (v:V) (r:List Tok),yW s k d a l=some (v,r)->∃m,v= .row m/\m≠ []/\∀x∈m,∃f∈a,f.1=x.1
 |0,d,a,l,v,r,h=>by cases(show none=some _ from h)
 |k+1,d,a,l,v,r,h=>by
  obtain⟨w,J,f,more,I,q,rfl,_,E,D⟩:=xi h;obtain⟨u,B,e⟩:=If E;rcases D with⟨_,p⟩ | ⟨q',m,_,hv,p⟩
  ·cases p;exact⟨_,rfl,by simp,fun x j=>(by rw[aw.mp j];exact⟨f,u,e⟩)⟩
  ·cases p;obtain⟨M,G,_,y⟩:=nG s k d more q' _ _ hv;cases G;refine⟨_,rfl,by simp,fun x j=>?_⟩;rcases am.mp j with z|z
   ·rw[z];exact⟨f,u,e⟩
   ·obtain⟨g,C,F⟩:=y x z;exact⟨g,B g C,F⟩
theorem C6{f:Bool}{l:List Tok}{w:B}{r:List Tok}(h:item f l=some (.word w::r)):∀q,l≠ .sign [125]::q:=by
 intro q e;subst e;unfold item at h;split at h
 ·cases h
 ·cases h
theorem Bv{s:aI}{k d:Nat}{a:List eD}{n i:Nat}{acc:List (B×V)}{l:List Tok}{w:B}{r:List Tok}(h:item acc.isEmpty l=some (.word w::r)):rrow s (k+1) d a n i acc l=nh s k d a n i acc w r:=by
 rw[iQ];split
 ·rename_i q;exact absurd rfl (C6 h q)
 ·rw[h]
theorem Aj{vs:List (B×V)}{n:B}(h:∀x∈vs,x.1≠n):vs.lookup n=none:=by
 rw[w8];intro p e;have:=h p e;simp[Ne.symm this]
theorem uL{s:aI}{k d:Nat}{a:List eD}{n i p:Nat}{acc:List (B×V)}{w:B}{r q:List Tok}{f:eD}{v:V}(g:a.findIdx? (fun x=>x.1 == w)=some p)(h:gw a i p)(hd:d≠0)(j:a[p]? =some f)(e:rv s k (d - 1) f.2.2 r=some (v,q)):
  nh s k d a n i acc w r=rrow s k d a n (p+1) (acc++ [(w,v)]) q:=by
 unfold nh;rw[g];dsimp only;rw[qab ⟨h,hd⟩,j];dsimp only;rw[e]
theorem rX{s:aI}{k d:Nat}{a:List eD}{n i:Nat}{acc:List (B×V)}{q:List Tok}(h:gw a i (if n < i then a.length else n)):rrow s (k+1) d a n i acc (.sign [125]::q)=some (.row acc,q):=by
 rw[iQ];exact qab h
theorem oz{a:List eD}{i j:Nat}(h:i<=j)(q:∀p x,a[p]? =some x->i<=p->p < j->x.2.1=true):gw a i j:=by
 refine⟨h,fun x r=>?_⟩;obtain⟨c,g⟩:=dm.mp r;have e:c < j - i:=by
  have:=(aD.mp g).1;rw[cg]at this;lia
 rw[kl e,cO]at g;exact q _ x g (by lia) (by lia)
section
variable {N:Ty->Prop}{s:aI}(hN:Kh N)(hs:∀n t,s.lookup n=some t->N t)
theorem uM{k d:Nat}{C G:List eD}(X: ((C++G).map fun x=>x.1).Nodup)
  (h1:∀j,j < k->∀t l v r,(∃x∈C++G,x.2.2=t)->val s j d t l=some (v,r)->(∃f,(iF s f t v).isSome=true)->rv s (j+1) d t l=some (v,r)):
  ∀(j:Nat) (i:Nat) (acc m:List (B×V)) (l l' r:List Tok),j<=k->i<=(C++G).length->item acc.isEmpty l=some l'->yW s j d ((C++G).drop i) l'=some (.row m,r)->(∀x∈acc,∃(c:Nat) (f:eD),c < i/\(C++G)[c]? =some f/\f.1=x.1)->
   Hq s C G (acc++m)->rrow s (j+1) (d+1) (C++G) C.length i acc l=some (.row (acc++m),r)
 |0,i,acc,m,l,l',r,_,_,_,h,_,_=>by cases(show none=some _ from h)
 |j+1,i,acc,m,l,l',r,hj,hi,hit,h,hac,hok=>by
  obtain⟨w,r1,f,more,v,q,rfl,_,ed,h2⟩:=xi h;obtain⟨p,hip,Q,M,J,S⟩:=mH X ed;have hpl:p < (C++G).length:=(aD.mp Q).1;rw[eA]at h2
  -- the names behind
  obtain⟨E,hm',Z⟩:∃E,m= (w,v)::E/\∀x∈E,∃(c:Nat) (g:eD),p < c/\(C++G)[c]? =some g/\g.1=x.1:=by
   rcases h2 with⟨_,D⟩ | ⟨q',E,_,Y,D⟩
   ·cases D;exact⟨[],rfl,by simp⟩
   ·cases D;refine⟨E,rfl,fun x u=>?_⟩;obtain⟨m'',e3,_,hsb⟩:=nG s _ _ _ _ _ _ Y;cases e3;obtain⟨g,O,e4⟩:=hsb x u;rw[J]at O;obtain⟨c,F⟩:=dm.mp O;rw[cO]at F;exact⟨_,g,by lia,F,e4⟩
  subst hm';have hw: (acc++(w,v)::E).lookup w=some v:=by
   rw[List.lookup_append,Aj (vs:=acc) fun x u e=>?_]
   ·show((w,v)::E).lookup w=_;rw[bS,qag]
   ·obtain⟨c,g,F,O,D⟩:=hac x u;have:=rW X O Q (D.trans (e.trans M.symm))
    lia
  -- what isn't there
  have W:∀c x,(C++G)[c]? =some x->i<=c->c≠p->(∀y∈E,x.1≠y.1)->(acc++(w,v)::E).lookup x.1=none:=fun c x u F hcp hm=>Aj fun y hy e=>by
   rcases aT.mp hy with z|z
   ·obtain⟨c',g,hc',O,D⟩:=hac y z;have:=rW X O u (D.trans e)
    lia
   ·rcases am.mp z with z|z
    ·rw[z]at e;exact hcp (rW X u Q (by rw[M];exact e.symm))
    ·exact hm y z e.symm
  have I:∀c x,(C++G)[c]? =some x->c < C.length->(acc++(w,v)::E).lookup x.1=none->x.2.1=true:=fun c x u F e=>by
   rw[eH F]at u;exact hok.root x (bd u) e
  have U:∀c x,(C++G)[c]? =some x->C.length<=c->C.length<=p->(acc++(w,v)::E).lookup x.1=none->x.2.1=true:=fun c x u F hp e=>by
   rw[dz F]at u;have hf':=Q;rw[dz hp]at hf';exact hok.ext f (bd hf') (by rw[M,hw];simp) x (bd u) e
  have hlv:gw (C++G) i p:=oz hip fun c x u h3 h4=>by
   have e:=W c x u h3 (by lia) fun y hy e=>by
    obtain⟨c',g,hc',O,D⟩:=Z y hy;have:=rW X u O (e.trans D.symm)
    lia
   by_cases F:c < C.length
   ·exact I c x u F e
   ·exact U c x u (by lia) (by lia) e
  obtain⟨fu,hpk⟩:=hok.val f (bd Q) v (by rw[M];exact hw);rw[Bv hit];have R:∃x∈C++G,x.2.2=f.2.2:=⟨f,bd Q,rfl⟩;rcases h2 with⟨Y,D⟩ | ⟨q',m2,Y,hvs,D⟩
  ·cases D;have hr:=h1 j (by lia) _ _ _ _ R Y ⟨fu,hpk⟩;rw[uL S hlv (by lia) Q hr];refine rX ?_;by_cases F:C.length < p+1
   ·rw[qab F];exact oz (by lia) fun c x u h3 h4=>U c x u (by lia) (by lia) (W c x u (by lia) (by lia) (by simp))
   ·rw[qaa F];exact oz (by lia) fun c x u h3 h4=>I c x u h4 (W c x u (by lia) (by lia) (by simp))
  ·cases D;have hr:=h1 j (by lia) _ _ _ _ R Y ⟨fu,hpk⟩;rw[uL S hlv (by lia) Q hr];have e3:acc++(w,v)::E= (acc++ [(w,v)])++E:=by rw[bD];rfl
   rw[e3]at hok ⊢;rw[J]at hvs;refine uM X h1 j (p+1) (acc++ [(w,v)]) E _ q' _ (by lia) (by lia) ?_ hvs (fun x u=>?_) hok
   ·have: (acc++ [(w,v)]).isEmpty=false:=by simp
    rw[this];rfl
   ·rcases aT.mp u with z|z
    ·obtain⟨c,g,F,O,D⟩:=hac x z;exact⟨c,g,by lia,O,D⟩
    ·rw[aw.mp z];exact⟨p,f,by lia,Q,M⟩
end
theorem xj{s:aI}{k d:Nat}{t:Ty}{l:List Tok}{x:V×List Tok}(h:Bg s k d t l=some x):k≠0/\∃v q,
  ((val s (k - 1) d t l=some (v, .sign [125]::q)/\x= (.many [v],q))\/∃g m,val s (k - 1) d t l=some (v, .sign [44]::g)/\Bg s (k - 1) d t g=some (.many m,q)/\x= (.many (v::m),q)):=by
 cases k with
 |zero=>cases(show none=some _ from h)
 |succ k=>
  refine⟨by lia,?_⟩;rw[pB]at h;split at h<;>try(cases h;done)
  ·rename_i v q e;cases h;exact⟨v,q, .inl ⟨e,rfl⟩⟩
  ·rename_i v q e;split at h<;>try(cases h;done)
   rename_i m z j;cases h;exact⟨v,z, .inr ⟨q,m,e,j,rfl⟩⟩
theorem Ak{s:aI}{k d:Nat}{t:Ty}{acc:List V}{l e q:List Tok}{v:V}(j:∀q,l≠ .sign [125]::q)(h:item acc.isEmpty l=some e)(g:rv s k d t e=some (v,q)):rall s (k+1) (d+1) t acc l=rall s k (d+1) t (acc++ [v]) q:=by
 rw[iR];split
 ·rename_i z;exact absurd rfl (j z)
 ·rw[h];dsimp only;rw[qaa (by lia),eA,g]
theorem rY{s:aI}{k d:Nat}{t:Ty}{acc:List V}{q:List Tok} :rall s (k+1) d t acc (.sign [125]::q)=some (acc,q):=by
 rw[iR];rfl
theorem uN{s:aI}{k d:Nat}{t:Ty}(C:∀j,j < k->∀l v r,val s j d t l=some (v,r)->(∃f,(iF s f t v).isSome=true)->rv s (j+1) d t l=some (v,r))(y:∀j l v r,rv s j d t l=some (v,r)->∀q,l≠ .sign [125]::q):
  ∀(j:Nat) (acc m:List V) (l g r:List Tok),j<=k->item acc.isEmpty l=some g->Bg s j d t g=some (.many m,r)->(∀v∈m,∃f,(iF s f t v).isSome=true)->rall s (j+1) (d+1) t acc l=some (acc++m,r)
 |0,acc,m,l,g,r,_,_,h,_=>by cases(show none=some _ from h)
 |j+1,acc,m,l,g,r,hj,hit,h,hp=>by
  obtain⟨_,v,q,F⟩:=xj h;rw[eA]at F;have u:∀E,rv s (j+1) d t g=some (v,E)->∀q,l≠ .sign [125]::q:=fun E e q z=>by
   subst z;unfold item at hit;split at hit
   ·cases hit;exact y _ _ _ _ e q rfl
   ·cases hit
  rcases F with⟨B,D⟩ | ⟨q',m2,B,hvs,D⟩
  ·cases D;have p:=C j (by lia) _ _ _ B (hp v af);rw[Ak (u _ p) hit p,rY]
  ·cases D;have p:=C j (by lia) _ _ _ B (hp v af);rw[Ak (u _ p) hit p];have I: (acc++ [v]).isEmpty=false:=by simp
   rw[uN C y j (acc++ [v]) m2 _ q' _ (by lia) (by rw[I];rfl) hvs fun x G=>hp x (ak _ G),bD];rfl
theorem C7{s:aI}{k d:Nat}(a:List (B×Ty))(m:Option (List (B×Ty)))(w:B)(r:List Tok):rv s (k+1) d (.one a m) (.word w:: .sign [58]::r)=if d=0 then none else((a++m.getD []).lookup w).bind fun t=>(rv s k (d - 1) t r).map fun x=>(.one w x.1,x.2):=by rw[rR];rfl
theorem mI{s:aI}{k d:Nat}(e:Nat)(g:Option Nat)(t:Ty)(r:List Tok):rv s (k+1) d (.many e g t) (.sign [123]::r)= (rall s k d t [] r).bind fun x=>if pw e g x.1.length then some (.many x.1,x.2)else none:=by rw[mG];rfl
theorem Hr(s:aI):∀(k d:Nat) (t:Ty) (l:List Tok) (v:V) (r:List Tok),rv s k d t l=some (v,r)->∀q,l≠ .sign [125]::q
 |0,d,t,l,v,r,h,_,_=>by rw[rv.eq_def]at h;cases h
 |k+1,d,t,l,v,r,h,q,z=>by
  cases pz h with
  |lf _ _ _ _ _ e=>cases e<;>cases z
  |ref _ _ _ _ _ _ _ e=>exact Hr s k _ _ _ _ _ e q z
  |one=>cases z
  |row=>cases z
  |many=>cases z
theorem hZ{g:Type}{n:B}{y:g} :∀ {l:List (B×g)},l.lookup n=some y->(n,y)∈l:=by
 intro l h;obtain⟨p,j,e,_⟩:=List.lookup_eq_some_iff.mp h;rw[e];simp
section
variable {N:Ty->Prop}{s:aI}(hN:Kh N)(hs:∀n t,s.lookup n=some t->N t)
include hN hs
theorem Ig:∀(k d:Nat) (t:Ty) (l:List Tok) (v:V) (r:List Tok),N t->val s k d t l=some (v,r)->(∃f,(iF s f t v).isSome=true)->rv s (k+1) d t l=some (v,r):=by
 intro k;induction k using fj with
 |ind k ih=>
  intro d t l v r F h g;obtain⟨f,g⟩:=g;cases k with
  |zero=>cases(show none=some _ from h)
  |succ k=>
   cases f with
   |zero=>cases(show false=true from g)
   |succ f=>
    cases t with
    |ref n=>
     rw[Ah]at h;rw[rQ];by_cases hd:d=0
     ·rw[qab hd]at h;cases h
     ·rw[qaa hd]at h ⊢;obtain⟨I,e,z⟩:=dW.mp h;rw[CZ,e]at g;rw[e];exact ih k (by lia) _ _ _ _ _ (hs _ _ e) z ⟨f,g⟩
    |bool=>rw[C3]at h;rw[mD];exact h
    |null=>rw[C4]at h;rw[mE];exact h
    |int lo hi=>
     rw[Ff]at h;rw[px];split at h<;>try(cases h;done)
     cases h;exact qab ((C0 s f lo hi _).mp g)
    |names a m=>
     rw[Br]at h;rw[lS];split at h<;>try(cases h;done)
     cases h;exact qab ((xg s f a m _).mp g)
    |bits lo hi=>
     rw[C5]at h;rw[mF];split at h<;>try(cases h;done)
     cases h;exact qab ((Af s f lo hi _).mp g)
    |octets lo hi=>
     rw[y6]at h;rw[iP];split at h<;>try(cases h;done)
     cases h;exact qab ((uJ s f lo hi _).mp g)
    |one a m=>
     rw[Ai]at h;split at h<;>try(cases h;done)
     rw[C7];by_cases hd:d=0
     ·rw[qab hd]at h;cases h
     ·rw[qaa hd]at h;rw[qaa hd];obtain⟨I,e,z⟩:=dW.mp h;obtain⟨y,W,U⟩:=d7.mp z;obtain⟨Y,X⟩:=y;cases U;obtain⟨t2,J,S⟩:=(C1 s f a m _ _).mp g;rw[e]at J;cases J;rw[e];show(rv s (k+1) (d - 1) I _).map _=_;rw[ih k (by lia) _ _ _ _ _ (hN.one a m F _ (hZ e)) W ⟨f,S⟩];rfl
    |row a m=>
     obtain⟨E,D⟩:=hN.row a m F;rw[vL]at h;rw[py];split at h<;>try(cases h;done)
     ·cases h;have hok:=row_ok g;refine(rX (i:=0) ?_);rw[qaa (by lia)];refine oz (by lia) fun c x u _ Q=>?_;rw[eH Q]at u;exact hok.root x (bd u) rfl
     ·rename_i q _;by_cases hd:d=0
      ·rw[qab hd]at h;cases h
      ·rw[qaa hd]at h;obtain⟨d,rfl⟩:∃G,d=G+1:=⟨d - 1,by lia⟩;rw[eA]at h;obtain⟨B,rfl,_,_⟩:=nG s _ _ _ _ _ _ h;exact uM (k:=k) E (fun j O t l v r M C p=>by
        obtain⟨x,u,rfl⟩:=M;exact ih j (by lia) _ _ _ _ _ (D x u) C p) k 0 [] B q q r (aC _) (cr _) rfl h (by simp) (row_ok g)
    |many lo hi t=>
     rw[rV]at h;split at h<;>try(cases h;done)
     ·cases h;rw[mI];have hok:=(vK s f lo hi t _).mp g;rw[rY];exact qab hok.2
     ·rename_i q _;by_cases hd:d=0
      ·rw[qab hd]at h;cases h
      ·rw[qaa hd]at h;obtain⟨d,rfl⟩:∃G,d=G+1:=⟨d - 1,by lia⟩;rw[eA]at h;obtain⟨B,rfl⟩:∃B,v= .many B:=by
        obtain⟨_,Z,q1,R⟩:=xj h;rcases R with⟨_,z⟩ | ⟨_,_,_,_,z⟩<;>cases z<;>exact⟨_,rfl⟩
       have hok:=(vK s f lo hi t _).mp g;rw[mI,uN (k:=k) (fun j O l v r C p=>ih j (by lia) _ _ _ _ _ (hN.many _ _ _ F) C p) (fun j l v r e=>Hr s j d t l v r e) k [] B q q r (aC _) rfl h fun x u=>⟨f,hok.1 x u⟩];exact qab hok.2
end
def ly(l:List eD):Nat:=(l.filter fun x=>x.2.1).length
inductive Op:Nat->Ty->Prop
 |leaf (n:Nat) (t:Ty): (∀lo hi t',t≠ .many lo hi t')->(∀l m,t≠ .one l m)->(∀l m,t≠ .row l m)->Op n t
 |many (n lo:Nat) (hi:Option Nat) (t:Ty):Op n t->Op n (.many lo hi t)
 |one (n:Nat) (l:List (B×Ty)) (m:Option (List (B×Ty))): (∀x∈l++m.getD [],Op n x.2)->Op n (.one l m)
 |row (n c:Nat) (l:List eD) (m:Option (List eD)):ly (l++m.getD [])<=c->(∀x∈l++m.getD [],Op n x.2.2)->Op (n+c) (.row l m)
theorem Op.mono{n:Nat}{t:Ty}(h:Op n t):∀ {g:Nat},n<=g->Op g t:=by
 induction h with
 |leaf n t h1 h2 h3=>exact fun _=> .leaf _ _ h1 h2 h3
 |many n lo hi t _ ih=>exact fun h=> .many _ _ _ _ (ih h)
 |one n l m _ ih=>exact fun h=> .one _ _ _ fun x j=>ih x j h
 |row n c l m hc _ ih=>
  intro g h;obtain⟨e,rfl⟩:∃e,g=n+ (c+e):=⟨g - n - c,by lia⟩;exact .row _ _ _ _ (by lia) fun x j=>ih x j (aC _)
def xk:Ty->Bool
 | .ref _=>true
 |_=>false
def qX(M:Nat)(t:Ty)(n d u:Nat):Nat:=(if xk t=true then(d+1) / 2*M else n+d / 2*M)+u+d
def Pk(s:aI)(M d:Nat)(t:Ty)(v:V)(u:Nat):Prop:=∀n F,Op n t->qX M t n d u<=F->(iF s F t v).isSome=true
theorem Al{vs:List (B×V)} :∀ {l:List eD},(l.map fun x=>x.1).Nodup->(∀x∈l,x.2.1=true\/∃y∈vs,y.1=x.1)->l.length<=ly l+vs.length:=by
 intro l u h;have e:∀l:List eD,l.length=ly l+ (l.filter fun x=> !x.2.1).length:=fun l=>by
  unfold ly;induction l with
  |nil=>rfl
  |cons x l ih=>
   rw[rl,rl,ae];cases x.2.1<;>simp<;>lia
 have v: ((l.filter fun x=> !x.2.1).map fun x=>x.1).length<=(vs.map fun x=>x.1).length:=List.Nodup.length_le_of_subset (u.sublist (List.filter_sublist.map _)) fun y j=>by
  obtain⟨x,r,rfl⟩:=bA.mp j;obtain⟨p,g⟩:=tU.mp r;rcases h x p with q| ⟨y,j,q⟩
  ·rw[q]at g;cases g
  ·exact bA.mpr ⟨y,j,q⟩
 rw[ah,ah]at v;have:=e l
 lia
theorem za{s:aI}{vs:List (B×V)}{out:eD->Prop} :∀(k:Nat) (l:List eD),l.length < k->(∀j x,l[j]? =some x->Pt s vs out (k - 1 - j) x)->Pts s vs out k l
 |0,l,h,_=>by lia
 |k+1, [],_,_=>trivial
 |k+1,x::r,h,hx=>⟨hx 0 x rfl,za k r (by rw[ae]at h;lia) fun j y e=>by
   have:=hx (j+1) y (by rw[List.getElem?_cons_succ];exact e)
   rwa [show k+1 - 1 - (j+1)=k - 1 - j by lia]at this⟩
theorem vM{M:Nat}{t:Ty}{n d u w:Nat}(hd:d≠0)(h:n+d / 2*M+u+d<=w):qX M t n (d - 1) u+1<=w:=by
 unfold qX;split
 ·rw[show d - 1+1=d by lia];lia
 ·have: (d - 1) / 2*M<=d / 2*M:=Bi _ (by lia)
  lia
section
variable {N:Ty->Prop}{s:aI}{M:Nat}(hN:Kh N)(hs:∀n t,s.lookup n=some t->N t/\Op M t)
include hN hs
theorem Bw{d u:Nat}{l:List eD}{m:Option (List eD)}{vs:List (B×V)}(S: ((l++m.getD []).map fun x=>x.1).Nodup)(hu:vs.length+2<=u)
  (hv:∀x∈vs,∃p f C,(l++m.getD []).findIdx? (fun y=>y.1 == x.1)=some p/\(l++m.getD [])[p]? =some f/\C+vs.length+2<=u/\d≠0/\Pk s M (d - 1) f.2.2 x.2 C)
  (R:∀x∈l,x.2.1=true\/∃y∈vs,y.1=x.1) (he: (∃x∈m.getD [],∃y∈vs,y.1=x.1)->∀x∈m.getD [],x.2.1=true\/∃y∈vs,y.1=x.1):Pk s M d (.row l m) (.row vs) u:=by
 intro n F J U;cases J with
 |leaf _ _ _ _ h3=>exact absurd rfl (h3 _ _)
 |row n c _ _ hc ho=>
  unfold qX at U;rw[qaa (show ¬xk (.row l m)=true from fun z=>nomatch z)]at U;cases F with
  |zero=>lia
  |succ F=>
   have hcl:ly l+ly (m.getD [])=ly (l++m.getD []):=by unfold ly;rw[Cw,au]
   have D:=S;rw[ay]at D;obtain⟨Z,Y,_⟩:=bJ.mp D;have look:∀x:eD,(∃v,vs.lookup x.1=some v)↔∃y∈vs,y.1=x.1:=fun x=>by
    constructor
    ·rintro⟨v,e⟩;exact⟨_,hZ e,rfl⟩
    ·rintro⟨y,r,e⟩;cases q:vs.lookup x.1 with
     |some v=>exact⟨v,rfl⟩
     |none=>
      have:=w8.mp q y r;rw[e]at this;simp at this
   -- one part
   have part:∀(out:eD->Prop) (j:Nat) (x:eD),x∈l++m.getD []->j+1<=c+vs.length->(vs.lookup x.1=none->out x)->Pt s vs out (F - 1 - j) x:=fun out j x g hj O=>by
    unfold Pt;cases q:vs.lookup x.1 with
    |none=>exact O q
    |some v=>
     dsimp only;obtain⟨p,f,C,X,Q,e3,hd,W⟩:=hv _ (hZ q);dsimp only at X W;obtain⟨p',h⟩:=dm.mp g;have ef:f=x:=by
      obtain⟨hlt,hw,_⟩:=cx.mp X;have I:f.1=x.1:=by
       have:=(aD.mp Q).2;rw[<-this];simpa using hw
      have:=rW S Q h I;rw[<-this,Q]at h;exact aB h
     subst ef;refine W n _ (ho f g) ?_;have:=vM (M:=M) (t:=f.2.2) (n:=n) (u:=C) (w:=n+d / 2*M+C+d) hd (aC _)
     lia
   rw[C2];have L1:=Al Z R;refine⟨za _ _ (by lia) fun j x g=>part _ j x (aH _ (bd g)) ?_ fun q=>?_,fun z=>?_⟩
   ·have:=(aD.mp g).1;lia
   ·rcases R x (bd g)with w|w
    ·exact w
    ·obtain⟨v,e⟩:=(look x).mpr w;rw[q]at e;cases e
   ·obtain⟨x,g,G⟩:=z;have E:=he ⟨x,g,(look x).mp (dj.mp G)⟩;have L2:=Al Y E;refine⟨fun y r=>?_,za _ _ (by lia) fun j y r=>part _ j y (aM _ (bd r)) ?_ fun _=>trivial⟩
    ·rcases E y r with w|w
     ·exact .inl w
     ·obtain⟨v,e⟩:=(look y).mpr w;exact .inr (by rw[e];rfl)
    ·have:=(aD.mp r).1;lia
end
section
variable {N:Ty->Prop}{s:aI}{M:Nat}(hN:Kh N)(hs:∀n t,s.lookup n=some t->N t/\Op M t)
theorem Fo{d u:Nat}{t:Ty}{v:V}(g:u≠0)(h:∀F,(iF s (F+1) t v).isSome=true):Pk s M d t v u:=fun n F j e=>by
 cases F with
 |zero=>unfold qX at e;lia
 |succ F=>exact h F
def Fp(s:aI)(N:Ty->Prop)(M k:Nat):Prop:=∀d a n i acc l v r,(∀x∈a,N x.2.2)->n<=a.length->rrow s k d a n i acc l=some (v,r)->∃m,v= .row (acc++m)/\m.length+1+r.length<=l.length/\
 (∀x∈m,∃p f u,a.findIdx? (fun y=>y.1 == x.1)=some p/\a[p]? =some f/\u+m.length+1+r.length<=l.length/\d≠0/\Pk s M (d - 1) f.2.2 x.2 u)/\
 (∀c x,a[c]? =some x->i<=c->(c < n\/n < i\/∃y∈m,∃p,a.findIdx? (fun z=>z.1 == y.1)=some p/\n<=p)->x.2.1=true\/∃y∈m,y.1=x.1)
def C8(s:aI)(N:Ty->Prop)(M k:Nat):Prop:=∀d t l v r,N t->rv s k d t l=some (v,r)->Pk s M d t v (l.length - r.length)
def Fq(s:aI)(N:Ty->Prop)(M k:Nat):Prop:=∀d t acc l v r,N t->rall s k d t acc l=some (v,r)->∃m,v=acc++m/\∀x∈m,∃u,u+r.length<=l.length/\d≠0/\Pk s M (d - 1) t x u
theorem xl{a:List eD}{i j c:Nat}{x:eD}(h:gw a i j)(e:a[c]? =some x)(p:i<=c)(g:c < j):x.2.1=true:=by
 refine h.2 x (dm.mpr ⟨c - i,?_⟩);rw[kl (by lia),cO,show i+ (c - i)=c by lia];exact e
theorem C9{k:Nat}(h1:C8 s N M k)(Z:Fp s N M k):Fp s N M (k+1):=by
 intro d a n i acc l v r Q E h;cases lT h with
 |close _ c=>
  refine⟨[],by rw[aG],by simp;lia,by simp,fun c' x B Y O=> .inl ?_⟩;have I:=(aD.mp B).1;refine xl c B Y ?_;split
  ·exact I
  ·rcases O with z|z| ⟨y,hy,_⟩
   ·exact z
   ·lia
   ·cases hy
 |part _ w r' p f v1 q _ _ e _ hp hl hd0 hf ev h=>
  have S:=jU e;rw[ae]at S;have R:=(lV s k).1 _ _ _ _ ev;dsimp only at R;obtain⟨m,rfl,hm,B,W⟩:=Z _ _ _ _ _ _ _ _ Q E h;have D:=h1 _ _ _ _ _ (Q f (bd hf)) ev;refine⟨(w,v1)::m,by rw[bD];rfl,by rw[ae];lia,fun x C=>?_,fun c x g F O=>?_⟩
  ·rcases am.mp C with z|z
   ·subst z;exact⟨p,f,_,hp,hf,by rw[ae];lia,hd0,D⟩
   ·obtain⟨j,f',u,e1,e2,e3,e4,e5⟩:=B x z;exact⟨j,f',u,e1,e2,by rw[ae];lia,e4,e5⟩
  ·by_cases G:c < p
   ·exact .inl (xl hl g F G)
   ·by_cases J:c=p
    ·subst J;refine .inr ⟨(w,v1),af,?_⟩;obtain⟨X,U,_⟩:=cx.mp hp;have:=(aD.mp g).2;rw[<-this];show w=_;exact(by simpa using U:a[c].1=w).symm
    ·have:=W c x g (by lia) (by
      rcases O with z|z| ⟨y,hy,j,hp',hnp⟩
      ·exact .inl z
      ·have:=hl.1;exact .inr (.inl (by lia))
      ·rcases am.mp hy with z|z
       ·rw[z]at hp';have e9:j=p:=aB (hp'.symm.trans hp);exact .inr (.inl (by lia))
       ·exact .inr (.inr ⟨y,z,j,hp',hnp⟩))
     rcases this with z| ⟨y,hy,z⟩
     ·exact .inl z
     ·exact .inr ⟨y,ak _ hy,z⟩
theorem Da{k:Nat}(D:C8 s N M k)(C:Fq s N M k):Fq s N M (k+1):=by
 intro d t acc l v r j h;cases lU h with
 |close=>exact⟨[],by rw[aG],by simp⟩
 |more _ _ v1 q _ _ e _ hd ev h=>
  have G:=jU e;have y:=(lV s k).1 _ _ _ _ ev;have p:=(lV s k).2.2 _ _ _ _ _ h;dsimp only at y p;obtain⟨m,rfl,B⟩:=C _ _ _ _ _ _ j h;refine⟨v1::m,by rw[bD];rfl,fun x g=>?_⟩;rcases am.mp g with z|z
  ·subst z;exact⟨_,by lia,hd,D _ _ _ _ _ j ev⟩
  ·obtain⟨u,I,F,E⟩:=B x z;exact⟨u,by lia,F,E⟩
include hN hs
theorem Db{k:Nat}(h1:C8 s N M k)(h2:Fp s N M k)(h3:Fq s N M k):C8 s N M (k+1):=by
 intro d t l v r Z h;have G:=(lV s (k+1)).1 _ _ _ _ h;dsimp only at G;have hu:l.length - r.length≠0:=by lia
 cases pz h with
 |lf _ _ x _ _ e=>
  refine Fo hu fun F=>?_;cases e with
  |t=>rfl
  |f=>rfl
  |n=>rfl
  |i _ _ _ z=>exact(C0 s F _ _ _).mpr z
  |w _ _ _ z=>exact(xg s F _ _ _).mpr z
  |b _ _ _ z=>exact(Af s F _ _ _).mpr z
  |o _ _ _ z=>exact(uJ s F _ _ _).mpr z
 |ref d _ t' _ _ _ e D=>
  obtain⟨q1,q2⟩:=hs _ _ e;have X:=h1 _ _ _ _ _ q1 D;intro n F j g;cases F with
  |zero=>unfold qX at g;lia
  |succ F=>
   rw[CZ,e];refine X M F q2 ?_;unfold qX at g ⊢;rw[qab (show xk (.ref _)=true from rfl)]at g;have C: (d+1+1) / 2=d / 2+1:=by lia
   have e4: (d+1) / 2*M<=(d+1+1) / 2*M:=Bi _ (by lia);rw[C,Nat.add_mul,Nat.one_mul]at g e4;split
   ·lia
   ·lia
 |one d a m w t' r' y _ e C=>
  have X:=h1 _ _ _ _ _ (hN.one a m Z _ (hZ e)) C;intro n F j g;cases j with
  |leaf _ _ _ q _=>exact absurd rfl (q _ _)
  |one _ _ _ j=>
   cases F with
   |zero=>unfold qX at g;lia
   |succ F=>
    refine(C1 s F a m _ _).mpr ⟨t',e,X n F (j _ (hZ e)) ?_⟩;unfold qX at g;rw[qaa (show ¬xk (.one a m)=true from fun z=>nomatch z)]at g;simp only[ae]at g;have:=vM (M:=M) (t:=t') (n:=n) (d:=d+1) (u:=r'.length - r.length) (w:=n+ (d+1) / 2*M+ (r'.length - r.length)+ (d+1)) (ik _) (aC _);rw[eA]at this
    lia
 |row _ a m q _ _ h=>
  obtain⟨E,Y⟩:=hN.row a m Z;obtain⟨vs,rfl,hm,O,j⟩:=h2 _ _ _ _ _ _ _ _ Y (by rw[au];lia) h;rw[iK];rw[ae];refine Bw hN hs E (by lia) (fun x B=>?_) (fun x S=>?_) (fun z x R=>?_)
  ·obtain⟨p,f,u,J,D,C,e4,e5⟩:=O x B;exact⟨p,f,u,J,D,by lia,e4,e5⟩
  ·obtain⟨c,Q⟩:=dm.mp S;have I:=(aD.mp Q).1;exact j c x (by rw[eH I];exact Q) (cr _) (.inl I)
  ·obtain⟨x0,U,y,hy,e0⟩:=z;obtain⟨c,Q⟩:=dm.mp R;refine j (a.length+c) x (by rw[dz (by lia),yM];exact Q) (cr _) (.inr (.inr ⟨y,hy,?_⟩));obtain⟨p,f,u,J,D,_⟩:=O y hy;refine⟨p,J,?_⟩;obtain⟨c0,hc0⟩:=dm.mp U;obtain⟨hlt,hw,_⟩:=cx.mp J;have W:f.1=y.1:=by
    have:=(aD.mp D).2;rw[<-this];simpa using hw
   have:=rW E D (show(a++m.getD [])[a.length+c0]? =some x0 by rw[dz (by lia),yM];exact hc0) (W.trans e0)
   lia
 |many _ lo hi t q y _ e hz=>
  obtain⟨m,rfl,O⟩:=h3 _ _ _ _ _ _ (hN.many _ _ _ Z) e;intro n F j g;cases j with
  |leaf _ _ q _ _=>exact absurd rfl (q _ _ _)
  |many _ _ _ _ j=>
   cases F with
   |zero=>unfold qX at g;lia
   |succ F=>
    refine(vK s F lo hi t _).mpr ⟨fun x B=>?_,hz⟩;obtain⟨u,J,hd,C⟩:=O x B;refine C n F j ?_;unfold qX at g;rw[qaa (show ¬xk (.many lo hi t)=true from fun z=>nomatch z)]at g;simp only[ae]at g;have:=vM (M:=M) (t:=t) (n:=n) (u:=u) (w:=n+d / 2*M+u+d) hd (aC _)
    lia
theorem Hs:∀k,C8 s N M k/\Fp s N M k/\Fq s N M k
 |0=>⟨fun d t l v r _ h=>(by rw[rv.eq_def]at h;cases h),fun d a n i acc l v r _ _ h=>(by rw[rrow.eq_def]at h;cases h),fun d t acc l v r _ h=>(by rw[rall.eq_def]at h;cases h)⟩
 |k+1=>by
  obtain⟨e,j,g⟩:=Hs k;exact⟨Db hN hs e j g,C9 e j,Da e g⟩
theorem Bx{t:Ty}{b:B}{l:List Tok}(p:tokens (b.length+1) b=some l)(C:l.length<=65536)(D:M<=8192)(j:N t)(q:Op M t)(v:V):
  (value s t b=some v/\(nD s t v).isSome=true)↔rv s (128+l.length+1) 64 t l=some (v, []):=by
 unfold value nD;rw[p,dy];dsimp only;rw[show DEEP=64 from rfl];constructor
 ·rintro⟨g,r⟩;split at g
  ·rename_i z e;cases g;have:=Ig hN (fun n t e=>(hs n t e).1) _ _ _ _ _ _ j e ⟨_,r⟩;rw[(Ag s (128+l.length+1) (2*l.length+256+1)).1 64 t l (by lia) (by lia)];exact this
  ·cases g
 ·intro h;have x:=(Ag s (128+l.length+1) (2*l.length+256)).1 64 t l (by lia) (by lia);rw[x]at h;have y:=(Ie s _).1 _ _ _ _ _ h;refine⟨by rw[y],?_⟩;refine(Hs hN hs _).1 _ _ _ _ _ j h M gE q ?_;unfold qX;rw[iL];have u:gE=400000:=rfl;rw[u];split<;>lia
end
def xm(t:Tok):Nat:=if t=W "OPTIONAL" then 1 else 0
def ow:List Tok->Nat
 | []=>0
 |t::l=>xm t+ow l
theorem gO(t:Tok)(l:List Tok):ow (t::l)=xm t+ow l:=rfl
theorem By{x y:Option (Option Int)}{q:List Tok}{r: (Option Int×Option Int)×List Tok}(h:uH x y q=some r):r.2=q:=by
 cases x with
 |none=>cases h
 |some x=>
 cases y with
 |none=>cases x<;>cases h
 |some y=>
 cases x with
 |none=>cases h;rfl
 |some u=>
 cases y with
 |none=>cases h;rfl
 |some v=>
  have h: (if u<=v then some ((some u,some v),q)else none)=some r:=h;split at h<;>cases h;rfl
theorem Bz{l:List Tok}{x: (Option Int×Option Int)×List Tok}(h:bounds l=some x):ow x.2<=ow l:=by
 have v:=E5 l;generalize bounds l=o at v h;cases v with
 |one z q e=>subst e;split at h<;>cases h;simp only[gO];lia
 |two a b q e=>rw[By h,e];simp only[gO];lia
 |no=>cases h
 |nob=>cases h;exact aC _
theorem Ki{l:List Tok}{x: (Nat×Option Nat)×List Tok}(h:fz l=some x):ow x.2<=ow l:=by
 have v:=E6 l;generalize fz l=o at v h;cases v with
 |ok w r e=>
  subst e;split at h
  ·cases h
  ·by_cases c:∃q,r= .sign [40]::q
   ·obtain⟨q,rfl⟩:=c;rw[J9]at h;have v:=E7 (bounds (.sign [40]::q));generalize e:bounds (.sign [40]::q)=o at v h;generalize J8 o=p at v h;cases v with
    |ok a b q e'=>
     subst e';have:=Bz e;split at h<;>cases h;simp only[gO]at this ⊢;lia
    |no=>cases h
   ·rw[Kb fun q e=>c ⟨q,e⟩]at h;cases h
 |no=>cases h
 |nob=>cases h;exact aC _
theorem BA(k:Nat)(l:List Tok):cY (k+1) l=match l with
  | .word w::r=>if lC w=false then none else(match r with
   | .sign [44]:: .word v::q=>(cY k (.word v::q)).map fun x=>(w::x.1,x.2)
   |_=>some ([w],r))
  |_=>none:=rfl
theorem Fs:∀(k:Nat) (l:List Tok) (x:List B×List Tok),cY k l=some x->ow x.2<=ow l
 |0,l,x,h=>by cases(show none=some _ from h)
 |k+1,l,x,h=>by
  rw[BA]at h;split at h<;>try(cases h;done)
  split at h<;>try(cases h;done)
  split at h
  ·obtain⟨y,e,rfl⟩:=d7.mp h;have:=Fs k _ _ e;simp only[gO]at this ⊢;lia
  ·cases h;simp only[gO];lia
end Wr
namespace L2
open PySem PySem.Spec PyProof.Rows
abbrev g0:=Sum Int aQ
def uO:g0->ag->Bool
 | .inl k,v=>JC k v
 | .inr x,v=>Hd x v
def keyH(w:bB):g0->Int
 | .inl k=>hashInt k
 | .inr x=>hashStr w x
theorem eE:∀ {k:g0} {v:ag},uO k v=true->(∃i t,k=qU i/\v=jk i t)\/(∃x t,k=bQ x/\v=qV x t)
 | .inl i,v,h=>by
  obtain⟨t,e⟩:=Value.isInt_shape (k:=i) (v:=v) h;exact .inl ⟨i,t,rfl,e⟩
 | .inr x,v,h=>by
  obtain⟨t,e⟩:=Value.isStrOf_shape (x:=x) (v:=v) h;exact .inr ⟨x,t,rfl,e⟩
theorem BB(i:Int)(t:Tok):uO (.inl i) (.int i t)=true:=by simp[uO,JC]
theorem BC(x:aQ)(t:Tok):uO (.inr x) (.str x t)=true:=by simp[uO,Hd]
theorem Ih(a b:Int):decide ((qU a:g0)=qU b)= (a == b):=by
 by_cases e:a=b
 ·subst e;simp
 ·have h:¬(qU a:g0)=qU b:=fun q=>e (Sum.inl.inj q);rw[decide_eq_false h];exact(qae.mpr e).symm
theorem Ii(a b:aQ):decide ((bQ a:g0)=bQ b)=decide (a=b):=by
 by_cases e:a=b
 ·subst e;simp
 ·have h:¬(bQ a:g0)=bQ b:=fun q=>e (Sum.inr.inj q);rw[decide_eq_false h,decide_eq_false e]
theorem Ij(a:Int)(b:aQ):decide ((qU a:g0)=bQ b)=false:=decide_eq_false (fun q=>nomatch q)
theorem Ik(a:aQ)(b:Int):decide ((bQ a:g0)=qU b)=false:=decide_eq_false (fun q=>nomatch q)
def fC(prog:aZ)(w:bB):PySem.KeyKind prog w g0 where
 is:=uO
 hash:=keyH w
 inj:=fun v a b r p=>by
  rcases eE r with⟨i,t,rfl,rfl⟩ | ⟨x,t,rfl,rfl⟩
  ·rcases eE p with⟨j,u,rfl,e⟩ | ⟨y,u,rfl,e⟩
   ·injection e with e1 _;rw[e1]
   ·exact nomatch e
  ·rcases eE p with⟨j,u,rfl,e⟩ | ⟨y,u,rfl,e⟩
   ·exact nomatch e
   ·injection e with e1 _;rw[e1]
 byValue:=fun k v h=>by
  rcases eE h with⟨i,t,rfl,rfl⟩ | ⟨x,t,rfl,rfl⟩<;>rfl
 pyHash:=fun g h=>by
  rcases eE g with⟨i,t,rfl,rfl⟩ | ⟨x,t,rfl,rfl⟩
  ·exact wpAny_pyHash_int h
  ·exact wpAny_pyHash_str h
 eqBool:=fun q g h=>by
  rcases eE q with⟨i,t,rfl,rfl⟩ | ⟨x,t,rfl,rfl⟩
  ·rcases eE g with⟨j,u,rfl,rfl⟩ | ⟨y,u,rfl,rfl⟩
   ·rw[Ih]at h;exact wpAny_eqBool_int h
   ·rw[Ij]at h;exact wT i t y u _ _ _ _ h
  ·rcases eE g with⟨j,u,rfl,rfl⟩ | ⟨y,u,rfl,rfl⟩
   ·rw[Ik]at h;exact wU x t j u _ _ _ _ h
   ·rw[Ii]at h;exact wpAny_eqBool_str h
 «strs»:=fun k x t v h=>by
  rcases eE h with⟨i,u,rfl,e⟩ | ⟨y,u,rfl,e⟩
  ·exact nomatch e
  ·injection e with e1 _
   subst e1;cases v<;>rfl
theorem xn(prog:aZ)(w:bB)(i:Int)(t:Tok): (fC prog w).is (.inl i) (.int i t)=true:=BB i t
theorem xo(prog:aZ)(w:bB)(x:aQ)(t:Tok): (fC prog w).is (.inr x) (.str x t)=true:=BC x t
end L2
namespace L2
open PySem PySem.Spec PyProof.Rows
inductive V where
 |non|bl (b:Bool) |int (i:Int) |str (x:aQ) |byt (b:Array UInt8) |flt (b:UInt64) |ref (a:aa) |ty (n:String)
 deriving DecidableEq
def RelV:V->ag->Prop
 | .non,u=>u=gq
 | .bl b,u=>u=jm b
 | .int i,u=>∃t,u=jk i t
 | .str x,u=>∃t,u=qV x t
 | .byt b,u=>∃t,u=JD b t
 | .flt b,u=>∃t,u=JE b t
 | .ref a,u=>u=bU a
 | .ty n,u=>u=JU n
abbrev Vals:List V->List ag->Prop:=Paired RelV
theorem Vals.length{xs:List V}{us:List ag}(r:Vals xs us):xs.length=us.length:=Paired.length r
theorem Vals.get:∀ {xs:List V} {us:List ag} {i:Nat} {x:V},Vals xs us->xs[i]? =some x->∃u,us[i]? =some u/\RelV x u
 |_,_,_,_, .nil,e=>by simp at e
 |_,_,0,_, .cons r _,e=>by simp at e;subst e;exact⟨_,rfl,r⟩
 |_,_,i+1,x, .cons _ t,e=>by
  obtain⟨u,h,g⟩:=Vals.get (i:=i) (x:=x) t (by simpa using e);exact⟨u,by simpa using h,g⟩
theorem Vals.append:∀ {xs e:List V} {us g:List ag},Vals xs us->Vals e g->Vals (xs++e) (us++g)
 |_,_,_,_, .nil,s=>s
 |_,_,_,_, .cons r t,s=> .cons r (Vals.append t s)
def RelO:Option V->Option ag->Prop
 |some v,some u=>RelV v u
 |none,none=>True
 |_,_=>False
def KV{e:Type} :List (e×V)->List (e×ag)->Prop:=Paired fun(p:e×V) (q:e×ag)=>p.1=q.1/\RelV p.2 q.2
def kV:g0->V
 | .inl i=> .int i
 | .inr x=> .str x
inductive HO where
 /-- a list -/
 |lst (xs:List V)
 /-- a tuple (never changes) -/
 |tup (xs:List V)
 /-- a dict whose keys are ints and texts;one whose keys are tuples of ints and texts (the empty one is both) -/
 |dK (kvs:List (g0×V)) |dT (kvs:List (List g0×V))
 /-- a set of ints:its members,its size -/
 |set (S:Int->Bool) (n:Nat)
 /-- an instance of the class at C,its dict at dx,its attributes -/
 |ins (C dx:aa) (fs:List (aQ×V))
 /-- the dict of the instance at x -/
 |own (x:aa)
 /-- the dict of an exception -/
 |xd (fs:List (aQ×V))
 /-- a bound method,f of x -/
 |met (f x:aa)
 /-- a range object lo,lo+1,.. below hi -/
 |rng (lo hi:Int)
 /-- a thing that is known to the object (the script;a dict while a loop walks it):read,never written while it is so -/
 |frz (o:dX) (u:HO)
 /-- a code object's table -/
 |tbl (ps:Array ag)
 /-- any other thing,by what is true of its one object (a def of one's own:SetO a S n:=HO.ext fun h=>..) -/
 |ext (φ:bH->Prop)
abbrev Hp:=aa->Option HO
def dJ(H:Hp)(a:aa)(o:HO):Hp:=fun b=>if b=a then some o else H b
theorem aU{H:Hp}{a:aa}{o:HO} :dJ H a o a=some o:=by unfold dJ;rw[qab rfl]
theorem aY{H:Hp}{a b:aa}{o:HO}(h:b≠a):dJ H a o b=H b:=by unfold dJ;rw[qaa h]
theorem xp{H:Hp}{a b:aa}{o u:HO}(h:H a=some o)(h':H b=some u)(d:o≠u):a≠b:=by
 intro e;subst e;rw[h]at h';exact d (aB h')
theorem br{H:Hp}{a b:aa}{o:HO}(h:H a=some o)(h':H b=none):a≠b:=by
 intro e;subst e;rw[h]at h';cases h'
section
variable(P:aZ)(w:bB)
def ObjOk(H:Hp)(h:bH)(a:aa):HO->Prop
 | .lst xs=>xs.length<=aO/\∃(e:List ag) (n:Nat),Vals xs e/\h.get? a=some { cls:= .type "list",data:= .seq e.toArray n }
 | .tup xs=>xs.length<=aO/\∃e:List ag,Vals xs e/\IsTup h a e.toArray
 | .dK kvs=>kvs.length<=aO/\(a == gM)=false/\∃vs,KV kvs vs/\h.DictOf (fC P w) a vs
 | .dT kvs=>kvs.length<=aO/\(a == gM)=false/\∃xs:List (List g0×aa×ag),
   Paired (fun(p:List g0×V) (q:List g0×aa×ag)=>p.1=q.1/\H q.2.1=some (.tup (p.1.map kV))/\RelV p.2 q.2.2) kvs xs/\
   ∃o y z,h.get? a=some o/\o.ExactDict/\o.data= .dict y z/\y.toList=xs.map (entryOfKey (vI (fC P w)))/\(xs.map (·.1)).Nodup
 | .set S n=>h.SetOf (intKind P w) a S n
 | .ins C dx fs=>H dx=some (.own a)/\fs.length<=1000/\dx≠a/\h.get? a=some (PySem.W.instObj C dx)/\
   ∃g,h.Ns1 dx g/\(∀f,RelO (fs.lookup f) (g f))/\PySem.Within g (fs.map (·.1))
 | .own _=>∃o,h.get? a=some o
 | .xd fs=>∃g,h.Ns1 a g/\∀f,RelO (fs.lookup f) (g f)
 | .rng lo hi=>∃t u v,h.get? a=some { cls:= .type "range",data:= .fields #[.int lo t, .int hi u, .int 1 v] }
 | .frz o u=>h.get? a=some o/\ObjOk H h a u
 | .tbl ps=>h.get? a=some { cls:= .none,data:= .fields ps }
 | .met f x=>h.get? a=some (PySem.W.methodObj (.ref f) (.ref x))
 | .ext φ=>φ h/\(∃o,h.get? a=some o)/\∀r j:bH,φ r->(∀o,r.get? a=some o->j.get? a=some o)->φ j
def HOk(H:Hp)(h:bH):Prop:=∀a o,H a=some o->ObjOk P w H h a o
end
section
variable {P:aZ}{w:bB}{H H':Hp}{h h':bH}{a:aa}{o:HO}
theorem ObjOk.lt(x:ObjOk P w H h a o):a < h.objs.size:=by
 cases o with
 |lst xs=>obtain⟨_,_,_,_,e⟩:=x;exact bv e
 |tup xs=>obtain⟨_,_,_,p⟩:=x;exact p.lt
 |dK kvs=>obtain⟨_,_,_,_,o,_,_,e,_⟩:=x;exact bv e
 |dT kvs=>obtain⟨_,_,_,_,o,_,_,e,_⟩:=x;exact bv e
 |set S n=>obtain⟨o,_,_,_,e,_⟩:=x;exact bv e
 |ins C dx fs=>obtain⟨_,_,_,e,_⟩:=x;exact bv e
 |own y=>obtain⟨_,e⟩:=x;exact bv e
 |xd fs=>obtain⟨_,⟨_,_,_,e,_⟩,_⟩:=x;exact bv e
 |rng lo hi=>obtain⟨_,_,_,e⟩:=x;exact bv e
 |frz ob u=>obtain⟨e,_⟩:=x;exact bv e
 |tbl ps=>exact bv (show h.get? a=some _ from x)
 |met f y=>exact bv (show h.get? a=some _ from x)
 |ext φ=>obtain⟨_,⟨_,e⟩,_⟩:=x;exact bv e
theorem Paired.mapP{j h:Type}{F G:j->h->Prop} :∀ {g:List j} {e:List h},Paired F g e->(∀a b,F a b->G a b)->Paired G g e
 |_,_, .nil,_=> .nil
 |_,_, .cons r t,f=> .cons (f _ _ r) (Paired.mapP t f)
theorem ObjOk.stay(x:ObjOk P w H h a o)(k:∀b u,(b=a\/H b=some (.own a))->h.get? b=some u->h'.get? b=some u)
  (G:∀b,H b=some (.own a)->H' b=some (.own a)) (F:∀b xs,H b=some (.tup xs)->H' b=some (.tup xs)):ObjOk P w H' h' a o:=by
 induction o with
 |lst xs=>obtain⟨z,D,n,r,e⟩:=x;exact⟨z,D,n,r,k _ _ (.inl rfl) e⟩
 |tup xs=>obtain⟨z,D,r,g,e,c⟩:=x;exact⟨z,D,r,g,k _ _ (.inl rfl) e,c⟩
 |dK kvs=>obtain⟨z,y,vs,r,g,j,B,e,c⟩:=x;exact⟨z,y,vs,r,g,j,B,k _ _ (.inl rfl) e,c⟩
 |dT kvs=>
  obtain⟨z,y,xs,r,g,j,B,e,c⟩:=x;exact⟨z,y,xs,Paired.mapP r fun p q z=>⟨z.1,F _ _ z.2.1,z.2.2⟩,g,j,B,k _ _ (.inl rfl) e,c⟩
 |set S n=>obtain⟨g,j,B,t,e,c⟩:=x;exact⟨g,j,B,t,k _ _ (.inl rfl) e,c⟩
 |ins C dx fs=>
  obtain⟨d,z,ne,e,E,⟨od,j,B,I,c⟩,r⟩:=x;exact⟨G _ d,z,ne,k _ _ (.inl rfl) e,E,⟨od,j,B,k _ _ (.inr d) I,c⟩,r⟩
 |own y=>obtain⟨g,e⟩:=x;exact⟨g,k _ _ (.inl rfl) e⟩
 |xd fs=>obtain⟨E,⟨od,j,B,e,c⟩,r⟩:=x;exact⟨E,⟨od,j,B,k _ _ (.inl rfl) e,c⟩,r⟩
 |rng lo hi=>obtain⟨t,u,v,e⟩:=x;exact⟨t,u,v,k _ _ (.inl rfl) e⟩
 |frz g u ih=>obtain⟨e,q⟩:=x;exact⟨k _ _ (.inl rfl) e,ih q⟩
 |tbl ps=>
  have e:h.get? a=some { cls:= .none,data:= .fields ps } :=x;show h'.get? a=some { cls:= .none,data:= .fields ps };exact k a _ (.inl rfl) e
 |met f y=>
  have e:h.get? a=some (PySem.W.methodObj (.ref f) (.ref y)):=x;show h'.get? a=some (PySem.W.methodObj (.ref f) (.ref y));exact k a _ (.inl rfl) e
 |ext φ=>obtain⟨p,⟨o,e⟩,st⟩:=x;exact⟨st _ _ p fun o q=>k _ _ (.inl rfl) q,⟨o,k _ _ (.inl rfl) e⟩,st⟩
theorem HOk.lt(x:HOk P w H h)(e:H a=some o):a < h.objs.size:=(x a o e).lt
theorem HOk.fresh(x:HOk P w H h)(e:h.objs.size<=a):H a=none:=by
 cases q:H a with
 |none=>rfl
 |some u=>exact absurd (bC (x.lt q) e) (dA _)
theorem HOk.kept(x:HOk P w H h)(k:∀b u,h.get? b=some u->h'.get? b=some u):HOk P w H h':=fun a o e=>
 (x a o e).stay (fun b u _ q=>k b u q) (fun _ q=>q) fun _ _ q=>q
theorem HOk.laid(x:HOk P w H h)(k:∀b u,h.get? b=some u->h'.get? b=some u)(p:h.objs.size<=a)(new:ObjOk P w (dJ H a o) h' a o):HOk P w (dJ H a o) h':=fun b u e=>by
 have g:=x.fresh p;by_cases j:b=a
 ·subst j;rw[aU]at e;cases e;exact new
 ·rw[aY j]at e;exact(x b u e).stay (fun c v _ q=>k c v q) (fun c q=>by rw[aY (br q g)];exact q) fun c xs q=>by rw[aY (br q g)];exact q
end
def Rd(H:Hp)(a:aa)(u:HO):Prop:=H a=some u\/∃o,H a=some (.frz o u)
theorem Rd.ok{P:aZ}{w:bB}{H:Hp}{h:bH}{a:aa}{u:HO}(r:Rd H a u)(x:HOk P w H h):ObjOk P w H h a u:=by
 rcases r with r| ⟨o,r⟩
 ·exact x a u r
 ·obtain⟨_,q⟩:=x a _ r;exact q
def Kj:Option HO->Prop
 |some (.lst _)=>True
 |some (.dK _)=>True
 |some (.dT _)=>True
 |some (.set _ _)=>True
 |some (.ins _ _ _)=>True
 |some (.ext _)=>True
 |_=>False
section
variable {P:aZ}{w:bB}{H:Hp}{h h':bH}{x e:aa}{o':HO}
theorem HOk.write(ok:HOk P w H h)(B:Kj (H x))(F:e=x\/H e=some (.own x))(k:∀b u,b≠e->h.get? b=some u->h'.get? b=some u)(D:∃u,h'.get? e=some u)
  (new:ObjOk P w (dJ H x o') h' x o'):HOk P w (dJ H x o') h':=fun b u q=>by
 have j:∀c y,H c=some (.own y)->c≠x:=fun c y r z=>by subst z;rw[r]at B;exact B
 have p:∀c xs,H c=some (.tup xs)->c≠x:=fun c xs r z=>by subst z;rw[r]at B;exact B
 by_cases C:b=x
 ·subst C;rw[aU]at q;cases q;exact new
 ·rw[aY C]at q;by_cases g:b=e
  ·have E:H b=some (.own x):=by
    rcases F with z|z
    ·exact absurd (g.trans z) C
    ·rw[g];exact z
   rw[q]at E;cases E;obtain⟨v,G⟩:=D;exact⟨v,by rw[g];exact G⟩
  ·refine(ok b u q).stay (fun c v hc r=>k c v ?_ r) (fun c r=>by rw[aY (j c b r)];exact r) fun c xs r=>by rw[aY (p c xs r)];exact r
   rcases hc with rfl|hc
   ·exact g
   ·rintro rfl;rcases F with z|z
    ·exact j c b hc z
    ·rw[hc]at z;cases z;exact C rfl
end
structure Un(fs ex:List aa)(H H':Hp)(h h':bH):Prop where
 keep:∀b o,h.get? b=some o->H b=none->b∉fs->b∉ex->h'.get? b=some o
 slot:∀b o,h.get? b=some o->H b=none->b∈fs->b∉ex->∃sl,h'.get? b=some { o with slots:=sl }
 free:∀b o,h.get? b=some o->H b=none->b∉ex->H' b=none
 there:∀b o,h.get? b=some o->b∉ex->∃o',h'.get? b=some o'
 tups:∀b xs,H b=some (.tup xs)->H' b=some (.tup xs)
 frzs:∀b o u,H b=some (.frz o u)->H' b=some (.frz o u)
 tbls:∀b ps,H b=some (.tbl ps)->∃more,H' b=some (.tbl (ps++more))
section
variable {fs fs' ex ex':List aa}{H H1 H2:Hp}{h h1 h2 h':bH}{a x e:aa}{o:HO}
theorem Un.any(u:Un fs ex H H1 h h1){b:aa}{e:dX}(q:h.get? b=some e)(n:H b=none)(g:b∉ex):∃p,h1.get? b=some { e with slots:=p } :=by
 by_cases j:b∈fs
 ·exact u.slot b e q n j g
 ·exact⟨e.slots,u.keep b e q n j g⟩
theorem Un.kept(k:∀b u,h.get? b=some u->h'.get? b=some u):Un fs ex H H h h':=
 ⟨fun b e q _ _ _=>k b e q,fun b e q _ _ _=>⟨e.slots,k b e q⟩,fun _ _ _ n _=>n,fun b e q _=>⟨e,k b e q⟩,fun _ _ q=>q,fun _ _ _ q=>q,fun _ g q=>⟨#[],by rw[q];simp⟩⟩
theorem Un.refl:Un fs ex H H h h:=Un.kept fun _ _ q=>q
theorem Un.laid(k:∀b u,h.get? b=some u->h'.get? b=some u)(g:h.objs.size<=a)(e:H a=none):Un fs ex H (dJ H a o) h h' where
 keep:=fun b u q _ _ _=>k b u q
 slot:=fun b u q _ _ _=>⟨u.slots,k b u q⟩
 free:=fun b u q n _=>by rw[aY (db (bC (bv q) g))];exact n
 there:=fun b u q _=>⟨u,k b u q⟩
 tups:=fun b xs q=>by rw[aY (br q e)];exact q
 frzs:=fun b u xs q=>by rw[aY (br q e)];exact q
 tbls:=fun b j q=>⟨#[],by rw[aY (br q e),q];simp⟩
theorem Un.write(j:Kj (H x))(C:e=x\/H e=some (.own x))(k:∀b u,b≠e->h.get? b=some u->h'.get? b=some u)(v:∃u,h'.get? e=some u):Un fs ex H (dJ H x o) h h':=by
 have y:∀b,H b=none->b≠x:=fun b n z=>by subst z;rw[n]at j;exact j
 have B:∀b,H b=none->b≠e:=fun b n z=>by
  subst z;rcases C with r|r
  ·exact y b n r
  ·rw[n]at r;cases r
 have p:∀b u,H b=some u->¬Kj (some u)->b≠x:=fun b u q nm z=>by subst z;rw[q]at j;exact nm j
 refine⟨fun b u q n _ _=>k b u (B b n) q,fun b u q n _ _=>⟨u.slots,k b u (B b n) q⟩,fun b u q n _=>by rw[aY (y b n)];exact n,fun b u q _=>?_,
  fun b xs q=>by rw[aY (p b _ q fun z=>z)];exact q,fun b u xs q=>by rw[aY (p b _ q fun z=>z)];exact q,fun b D q=>⟨#[],by rw[aY (p b _ q fun z=>z),q];simp⟩⟩
 by_cases g:b=e
 ·subst g;exact v
 ·exact⟨u,k b u g q⟩
end
def trk(h:bH)(H:Hp):List aa:=(lD h.objs.size).filter fun a=>(H a).isSome
def vN(h:bH)(H:Hp):bH:=PySem.W.hideAll h (trk h H)
theorem BD(h:bH)(H:Hp): (vN h H).objs.size=h.objs.size:=PySem.W.hideAll_size _ _
theorem Dd{h:bH}{H:Hp}{b:aa}{o:dX}(e:h.get? b=some o)(n:H b=none): (vN h H).get? b=some o:=
 PySem.W.hideAll_get _ e fun g=>by
  have q: (H b).isSome=true:=(tU.mp g).2;rw[n]at q;simp at q
theorem Fu{h:bH}{H:Hp}{b:aa}{o:dX}(e: (vN h H).get? b=some o):h.get? b=some o/\H b=none:=by
 have g:h.get? b=some o:=PySem.W.of_hideAll (trk h H) e;refine⟨g,?_⟩;cases q:H b with
 |none=>rfl
 |some x=>
  have j:b∈trk h H:=tU.mpr ⟨He.mpr (bv g),by simp[q]⟩;have z: (vN h H).get? b=none:=PySem.W.hideAll_none (trk h H) j;rw[z]at e;cases e
end L2
namespace L2
open PySem PySem.Spec PyProof.Rows
structure Mod(K:PySem.W.Frag)(mg:aQ->Option ag)(base:bH):Prop where
 kin:K.In base
 glob:base.Ns cf mg
 blt:∃mb,base.Ns HR mb/\∀x:aQ,x≠"__name__"->mb x=fq x
 nolimit:base.NoLimit
structure Cx where
 prog:aZ
 w:bB
 K:PySem.W.Frag
 mg:aQ->Option ag
 base:bH
 A:cC
 N:List aQ
 s₀:ap
 H₀:Hp
 env:m4
 outer:List m4
 stack:List m4
 ex:List aa
 fn:aQ->Bool
 calm:Bool
 pn:List (aa×dX)
 xe:ag->ap->Prop
def iS(l:List m4):List aa:=l.filterMap (·.frame)
abbrev Cx.fs(X:Cx):List aa:=iS X.outer
def JQ(e:gv)(x:aQ):Prop:=e.names.lookup x=some .local\/e.names.lookup x=some .cell\/e.names.lookup x=some .free
def Kk(e:gv)(x:aQ):Prop:=e.names.lookup x=some .local\/e.names.lookup x=some .cell
def Look(env:m4)(h:bH)(m:aQ->Option ag)(x:aQ)(u:ag):Prop:=
 (env.kindOf x=some .local/\m x=some u)\/((env.kindOf x=some .cell\/env.kindOf x=some .free)/\∃c,env.cells.lookup x=some c/\h.IsCell c (some u))
structure Cx.Ok(X:Cx):Prop where
 mod:Mod X.K X.mg X.base
 kind:X.env.scope.kind= .function
 glob:X.env.globals=cf
 blt:X.env.builtins=HR
 above:X.s₀.heap.objs.size<=X.env.locals
 inj:∀x y c,X.env.cells.lookup x=some c->X.env.cells.lookup y=some c->x=y
 has:∀x,(X.env.kindOf x=some .cell\/X.env.kindOf x=some .free)->∃c,X.env.cells.lookup x=some c
 cab:∀x c,X.fn x=true->X.env.cells.lookup x=some c->X.s₀.heap.objs.size<=c
 hd:X.calm=true->X.A.handled=none
 frames:X.A.frames=some X.stack
 stk:X.stack=X.outer\/(X.stack=X.env::X.outer/\X.env.frame=some X.env.locals)
 exf:∀b∈X.ex,b≠X.env.locals/\∀x c,X.env.cells.lookup x=some c->c≠b
 bs:∀b o,X.base.get? b=some o->X.s₀.heap.get? b=some o/\X.H₀ b=none
 bsz:X.base.objs.size<=X.s₀.heap.objs.size
 noex:∀b o,X.base.get? b=some o->b∉X.ex
 exfs:∀b∈X.ex,b∉X.fs
 funs:X.s₀.heap.FunFrames X.base X.outer
 frf:∀b∈X.fs,X.H₀ b=none
structure Inv(X:Cx)(pins:List (aa×dX))(σ:List (Option V))(H:Hp)(s:ap):Prop where
 ok:X.Ok
 os:s.os=X.s₀.os
 bare:qr s.gens
 base:Un X.fs X.ex X.H₀ H X.s₀.heap s.heap
 loc:∃m,s.heap.Ns X.env.locals m/\∀(i:Nat) (x:aQ) (v:V),X.N[i]? =some x->σ[i]? =some (some v)->JQ X.env.scope x->∃u,RelV v u/\Look X.env s.heap m x u
 cell:∀x c,X.env.cells.lookup x=some c->∃v,s.heap.IsCell c v
 free:H X.env.locals=none
 freeC:∀x c,X.env.cells.lookup x=some c->H c=none
 pin:∀p∈X.pn++pins,s.heap.get? p.1=some p.2/\H p.1=none/\p.1≠X.env.locals/\p.1∉X.fs/\∀v,p.2.data≠ .cell v
 hok:HOk X.prog X.w H s.heap
 len:σ.length=X.N.length
section
variable {X:Cx}{pins:List (aa×dX)}{σ:List (Option V)}{H H':Hp}{s:ap}{h':bH}
theorem Cx.Ok.nofr(ok:X.Ok){b:aa}{o:dX}(e:X.base.get? b=some o):b∉X.fs:=fun g=>by
 have:=(ok.funs.mem g).1;rw[e]at this;cases this
theorem Inv.bs(I:Inv X pins σ H s):∀b o,X.base.get? b=some o->s.heap.get? b=some o/\H b=none:=fun b o e=>
 ⟨I.base.keep b o (I.ok.bs b o e).1 (I.ok.bs b o e).2 (I.ok.nofr e) (I.ok.noex b o e),I.base.free b o (I.ok.bs b o e).1 (I.ok.bs b o e).2 (I.ok.noex b o e)⟩
theorem Inv.bk(I:Inv X pins σ H s):∀b o,X.base.get? b=some o->s.heap.get? b=some o:=fun b o e=>(I.bs b o e).1
theorem Inv.mod(I:Inv X pins σ H s):Mod X.K X.mg X.base:=I.ok.mod
theorem Inv.kIn(I:Inv X pins σ H s):X.K.In s.heap:=I.ok.mod.kin.keeps I.bk
theorem Inv.fr(I:Inv X pins σ H s):∃m,Fr X.base X.env.locals s.heap m:=
 let⟨m,hn,_⟩:=I.loc
 ⟨m,hn,I.bk,cn I.ok.bsz I.ok.above⟩
theorem Inv.lt(I:Inv X pins σ H s):X.env.locals < s.heap.objs.size:=let⟨_,hn,_⟩:=I.loc;hn.lt
theorem Inv.sz(I:Inv X pins σ H s):X.s₀.heap.objs.size<=s.heap.objs.size:=cn I.ok.above (yX I.lt)
theorem Inv.nofs(I:Inv X pins σ H s){a:aa}(h:s.heap.objs.size<=a):a∉X.fs:=fun g=>by
 obtain⟨_,o,e,_⟩:=I.ok.funs.mem g;exact absurd (bC (bv e) (cn I.sz h)) (dA _)
theorem Inv.cne(I:Inv X pins σ H s):∀x c,X.env.cells.lookup x=some c->c≠X.env.locals:=fun x c e z=>by
 obtain⟨v,o,j,hd⟩:=I.cell x c e;obtain⟨m,⟨p,q,r,g,h,_⟩,_⟩:=I.loc;rw[z,g]at j;cases j;rw[h]at hd;cases hd
theorem Inv.funs(I:Inv X pins σ H s):s.heap.FunFrames X.base X.outer:=by
 have all:∀(l:List m4),(∀b∈iS l,b∈X.fs)->X.s₀.heap.FunFrames X.base l->s.heap.FunFrames X.base l:=by
  intro l;induction l with
  |nil=>intro _ _;trivial
  |cons env r ih=>
   intro p x;obtain⟨y,⟨L,o,g,v,u,hd⟩,q⟩:=x;have j:L∈X.fs:=p L (by unfold iS;rw[iX,g];exact af);obtain⟨B,e⟩:=I.base.slot L o u (I.ok.frf L j) j fun z=>I.ok.exfs L z j;exact⟨y,⟨L,_,g,v,e,hd⟩,ih (fun b h=>p b (by unfold iS;rw[iX,g];exact ak _ h)) q⟩
 exact all X.outer (fun _ h=>h) I.ok.funs
theorem Inv.stack(I:Inv X pins σ H s):s.heap.FunFrames X.base X.stack:=by
 rcases I.ok.stk with e| ⟨e,hf⟩
 ·rw[e];exact I.funs
 ·rw[e];obtain⟨m,g,_⟩:=I.loc;refine .cons (by rw[I.ok.kind];decide) hf g ?_ I.funs;exact Heap.get?_none_of_le (cn I.ok.bsz I.ok.above)
theorem Inv.stkSub(I:Inv X pins σ H s):∀b∈iS X.stack,b∈X.env.locals::X.fs:=fun b g=>by
 rcases I.ok.stk with e| ⟨e,hf⟩
 ·rw[e]at g;exact ak _ g
 ·rw[e]at g;unfold iS at g;rw[iX,hf]at g;exact g
theorem Inv.stkFree(I:Inv X pins σ H s):∀b∈iS X.stack,H b=none:=fun b hb=>by
 rcases am.mp (I.stkSub b hb)with e|hb
 ·rw[e];exact I.free
 ·obtain⟨_,o,g,_⟩:=I.ok.funs.mem hb;exact I.base.free b o g (I.ok.frf b hb) fun z=>I.ok.exfs b z hb
theorem Inv.step{g':Array GenState}{t':Nat}{d':Drawn}{ch:List aa}(I:Inv X pins σ H s)
  (j:∀b∈ch,(b∈X.ex\/X.s₀.heap.objs.size<=b)/\b≠X.env.locals/\(∀x c,X.env.cells.lookup x=some c->c≠b)/\∀p∈X.pn++pins,p.1≠b)
  (keep:∀b o,b≠X.env.locals->b∉X.fs->b∉ch->s.heap.get? b=some o->H b=none->h'.get? b=some o)
  (slot:∀b o,b≠X.env.locals->b∈X.fs->b∉ch->s.heap.get? b=some o->H b=none->∃Q,h'.get? b=some { o with slots:=Q }) (free:∀b o,b∉ch->s.heap.get? b=some o->H b=none->H' b=none)
  (there:∀b o,b∉ch->s.heap.get? b=some o->∃F,h'.get? b=some F)
  (tups:∀b xs,H b=some (.tup xs)->H' b=some (.tup xs)) (frzs:∀b o u,H b=some (.frz o u)->H' b=some (.frz o u)) (tbls:∀b M,H b=some (.tbl M)->∃more,H' b=some (.tbl (M++more)))
  (ns:∀m,s.heap.Ns X.env.locals m->h'.Ns X.env.locals m) (hok:HOk X.prog X.w H' h') (hg:qr g'):
  Inv X pins σ H' { s with heap:=h',gens:=g',drawn:=d',toks:=t' } :=by
 have G:∀b o,X.s₀.heap.get? b=some o->b≠X.env.locals:=fun b o e=>db (bC (bv e) I.ok.above);have B:∀b o,X.s₀.heap.get? b=some o->b∉X.ex->b∉ch:=fun b o e g D=>by
  rcases(j b D).1 with z|z
  ·exact g z
  ·exact absurd (bC (bv e) z) (dA _)
 have y:∀x c,X.env.cells.lookup x=some c->∀v,s.heap.IsCell c v->h'.IsCell c v:=fun x c e v ⟨o,E,hd⟩=>by
  have h:c∉ch:=fun z=>(j c z).2.2.1 x c e rfl;by_cases U:c∈X.fs
  ·obtain⟨Q,q⟩:=slot c o (I.cne x c e) U h E (I.freeC x c e);exact⟨_,q,hd⟩
  ·exact⟨o,keep c o (I.cne x c e) U h E (I.freeC x c e),hd⟩
 refine⟨I.ok,I.os,hg,⟨fun b o e n D g=>?_,fun b o e n D g=>?_,fun b o e n g=>?_,fun b o e g=>?_,fun b xs e=>tups b xs (I.base.tups b xs e),fun b o xs e=>frzs b o xs (I.base.frzs b o xs e),fun b M e=>?_⟩,?_,fun x c e=>?_,?_,fun x c e=>?_,fun p S=>?_,hok,I.len⟩
 ·exact keep b o (G b o e) D (B b o e g) (I.base.keep b o e n D g) (I.base.free b o e n g)
 ·obtain⟨Q,C⟩:=I.base.slot b o e n D g;obtain⟨O,J⟩:=slot b _ (G b o e) D (B b o e g) C (I.base.free b o e n g);exact⟨O,J⟩
 ·obtain⟨F,C⟩:=I.base.there b o e g;exact free b F (B b o e g) C (I.base.free b o e n g)
 ·obtain⟨F,C⟩:=I.base.there b o e g;exact there b F (B b o e g) C
 ·obtain⟨Y,C⟩:=I.base.tbls b M e;obtain⟨W,J⟩:=tbls b _ C;exact⟨Y++W,by rw[J,Bj]⟩
 ·obtain⟨m,Z,hl⟩:=I.loc;refine⟨m,ns m Z,fun i x v C J e3=>?_⟩;obtain⟨u,r,l⟩:=hl i x v C J e3;refine⟨u,r,?_⟩;rcases l with l| ⟨k,c,e,z⟩
  ·exact .inl l
  ·exact .inr ⟨k,c,e,y x c e _ z⟩
 ·obtain⟨v,z⟩:=I.cell x c e;exact⟨v,y x c e v z⟩
 ·obtain⟨m,⟨o,_,_,E,_⟩,_⟩:=I.loc;exact free _ o (fun z=>(j _ z).2.1 rfl) E I.free
 ·obtain⟨v,o,E,hd⟩:=I.cell x c e;exact free c o (fun z=>(j c z).2.2.1 x c e rfl) E (I.freeC x c e)
 ·obtain⟨e,n,ne,R,d⟩:=I.pin p S;have h:p.1∉ch:=fun z=>(j p.1 z).2.2.2 p S rfl;exact⟨keep p.1 p.2 ne R h e n,free p.1 p.2 h e n,ne,R,d⟩
theorem Inv.un{t':Nat}(I:Inv X pins σ H s)(u:Un X.fs [] H H' s.heap h')(hok:HOk X.prog X.w H' h'):Inv X pins σ H' { s with heap:=h',toks:=t' } :=by
 obtain⟨m,⟨o,E,F,q,r⟩,_⟩:=id I.loc;obtain⟨B,y⟩:=u.any q I.free (by simp);exact I.step (g':=s.gens) (d':=s.drawn) (ch:= []) (fun _ z=>nomatch z) (fun b o _ h _ e n=>u.keep b o e n h (by simp)) (fun b o _ h _ e n=>u.slot b o e n h (by simp)) (fun b o _ e n=>u.free b o e n (by simp)) (fun b o _ e=>u.there b o e (by simp)) u.tups u.frzs u.tbls (fun D x=>by
  obtain⟨C,j,p,g,v⟩:=x;rw[q]at g;cases g;exact⟨_,j,p,y,v⟩) hok I.bare
theorem Inv.call{g':Array GenState}{t':Nat}{d':Drawn}{ch:List aa}(I:Inv X pins σ H s)(u:Un (iS X.stack) ch H H' s.heap h')(hok:HOk X.prog X.w H' h')(E:qr g')
  (j:∀b∈ch,(b∈X.ex\/X.s₀.heap.objs.size<=b)/\b≠X.env.locals/\(∀x c,X.env.cells.lookup x=some c->c≠b)/\∀p∈X.pn++pins,p.1≠b):
  Inv X pins σ H' { s with heap:=h',gens:=g',drawn:=d',toks:=t' } :=by
 obtain⟨m,⟨o,O,Q,B,r⟩,_⟩:=id I.loc;obtain⟨G,q⟩:=u.any B I.free fun z=>(j _ z).2.1 rfl;exact I.step (ch:=ch) j (fun b o q F g e n=>u.keep b o e n (fun z=>(am.mp (I.stkSub b z)).elim q F) g) (fun b o _ _ g e n=>u.any e n g) (fun b o g e n=>u.free b o e n g) (fun b o g e=>u.there b o e g) u.tups u.frzs u.tbls (fun M D=>by
  obtain⟨J,v,y,h,C⟩:=D;rw[B]at h;cases h;exact⟨_,v,y,q,C⟩) hok E
theorem Inv.turned{t':Nat}{g:aa}(I:Inv X pins σ H s)(k:∀b o,b≠g->s.heap.get? b=some o->h'.get? b=some o)(C:H g=none)(y:g≠X.env.locals)
  (J:g∈X.ex\/X.s₀.heap.objs.size<=g) (G:∀x c,X.env.cells.lookup x=some c->c≠g) (F:∀p∈X.pn++pins,p.1≠g):Inv X pins σ H { s with heap:=h',toks:=t' } :=by
 have j:∀b u,H b=some u->b≠g:=fun b u e z=>by rw[z,C]at e;cases e
 refine I.step (g':=s.gens) (d':=s.drawn) (ch:= [g]) (fun b E=>?_) (fun b o _ _ h e _=>k b o (fun z=>h (by simp[z])) e) (fun b o _ _ h e _=>⟨o.slots,k b o (fun z=>h (by simp[z])) e⟩) (fun _ _ _ _ n=>n)
  (fun b o h e=>⟨o,k b o (fun z=>h (by simp[z])) e⟩) (fun _ _ e=>e) (fun _ _ _ e=>e) (fun b Q e=>⟨#[],by rw[e];simp⟩) (fun m D=>?_) (fun b u e=>?_) I.bare
 ·have e:b=g:=by simpa using E
  subst e;exact⟨J,y,G,F⟩
 ·obtain⟨o,M,O,B,r⟩:=D;exact⟨o,M,O,k _ o (Ne.symm y) B,r⟩
 ·refine(I.hok b u e).stay (fun c v h q=>k c v ?_ q) (fun _ q=>q) fun _ _ q=>q;rcases h with z|z
  ·rw[z];exact j b u e
  ·exact j c _ z
theorem Inv.tok(I:Inv X pins σ H s)(t:Nat):Inv X pins σ H { s with toks:=t } :=I.un (h':=s.heap) (t':=t) Un.refl I.hok
theorem Inv.kept{t':Nat}(I:Inv X pins σ H s)(k:∀b u,s.heap.get? b=some u->h'.get? b=some u):Inv X pins σ H { s with heap:=h',toks:=t' } :=I.un (Un.kept k) (I.hok.kept k)
theorem Inv.laid{a:aa}{o:HO}{t':Nat}(I:Inv X pins σ H s)(k:∀b u,s.heap.get? b=some u->h'.get? b=some u)(e:s.heap.objs.size<=a)(new:ObjOk X.prog X.w (dJ H a o) h' a o):
  Inv X pins σ (dJ H a o) { s with heap:=h',toks:=t' } :=I.un (Un.laid k e (I.hok.fresh e)) (I.hok.laid k e new)
theorem Inv.write{x e:aa}{o:HO}{t':Nat}(I:Inv X pins σ H s)(h:Kj (H x))(j:e=x\/H e=some (.own x))(k:∀b u,b≠e->s.heap.get? b=some u->h'.get? b=some u)(g:∃u,h'.get? e=some u)
  (new:ObjOk X.prog X.w (dJ H x o) h' x o):Inv X pins σ (dJ H x o) { s with heap:=h',toks:=t' } :=I.un (Un.write h j k g) (I.hok.write h j k g new)
theorem Inv.weak{e:List (Option V)}(I:Inv X pins σ H s)(g:e.length=σ.length)(w:∀(i:Nat) v,e[i]? =some (some v)->σ[i]? =some (some v)):Inv X pins e H s:=
 ⟨I.ok,I.os,I.bare,I.base,let⟨m,hn,hl'⟩:=I.loc;⟨m,hn,fun i x v p j h=>hl' i x v p (w i v j) h⟩,I.cell,I.free,I.freeC,I.pin,I.hok,g.trans I.len⟩
theorem Inv.pins_of{e:List (aa×dX)}(I:Inv X pins σ H s)(h:∀p∈e,s.heap.get? p.1=some p.2/\H p.1=none/\p.1≠X.env.locals/\p.1∉X.fs/\∀v,p.2.data≠ .cell v):Inv X e σ H s:=
 ⟨I.ok,I.os,I.bare,I.base,I.loc,I.cell,I.free,I.freeC,fun p g=>(aT.mp g).elim (fun z=>I.pin p (aH _ z)) (h p),I.hok,I.len⟩
theorem rZ{N:List aQ}(e:N.Nodup){i j:Nat}{x:aQ}(a:N[i]? =some x)(b:N[j]? =some x):i=j:=by
 obtain⟨q,h⟩:=aD.mp a;obtain⟨p,g⟩:=aD.mp b;exact(List.getElem_inj e).mp (h.trans g.symm)
theorem BE{M:tY}{A:cC}{E:ag->ap->Prop}{i:Nat}{x:aQ}{v:V}{u:ag}{Q:Unit->ap->Prop}(I:Inv X pins σ H s)(hN:X.N.Nodup)(Y:X.N[i]? =some x)(D:Kk X.env.scope x)(r:RelV v u)
  (h:∀s',Inv X pins (σ.set i (some v)) H s'->(∃a,qt a s.heap s'.heap/\(a=X.env.locals\/X.env.cells.lookup x=some a))->Q () s') (hf:X.fn x=true\/X.env.scope.names.lookup x=some .local:=by first|exact .inl rfl|exact .inr rfl|assumption):wpAny M A (JV X.env x u) Q E s:=by
 obtain⟨m,hn,hl⟩:=id I.loc;have Z: (X.env.scope.kind == .class ||(X.env.scope.kind == .module&&X.env.locals != X.env.globals))=false:=by rw[I.ok.kind];rfl
 have J:i < σ.length:=by rw[I.len];exact(aD.mp Y).1
 have cne:=I.cne;have B:∀ {a:aa} {h':bH},(∃o,s.heap.get? a=some o/\H a=none)->qt a s.heap h'->HOk X.prog X.w H h':=fun {a h'} ha g b ob e=>by
  obtain⟨_,_,F⟩:=ha;refine(I.hok b ob e).stay (fun c w' hc q=>(g.2 c ?_).trans q) (fun _ q=>q) fun _ _ q=>q;rintro rfl;rcases hc with rfl|hc
  ·rw[F]at e;cases e
  ·rw[F]at hc;cases hc
 rcases D with hk|hk
 ·refine wpAny_storeName_local hk hn (fun h' hn' g=>?_) Z;obtain⟨oL,_,_,hoL,_⟩:=id hn;refine h _ ⟨I.ok,I.os,I.bare,⟨fun b o e n S D=>?_,fun b o e n S D=>?_,I.base.free,fun b o e D=>?_,I.base.tups,I.base.frzs,I.base.tbls⟩,⟨_,hn',fun j y v' C G e3=>?_⟩,fun y c e=>?_,I.free,I.freeC,fun p hp=>?_,B ⟨oL,hoL,I.free⟩ g,by simpa using I.len⟩ ⟨_,g, .inl rfl⟩
  ·exact(g.2 b (db (bC (bv e) I.ok.above))).trans (I.base.keep b o e n S D)
  ·obtain⟨sl,C⟩:=I.base.slot b o e n S D;exact⟨sl,(g.2 b (db (bC (bv e) I.ok.above))).trans C⟩
  ·obtain⟨o',C⟩:=I.base.there b o e D;exact⟨o',(g.2 b (db (bC (bv e) I.ok.above))).trans C⟩
  ·by_cases O:j=i
   ·subst O;rw[Y]at C;cases C;rw[lE J]at G;cases G;exact⟨u,r, .inl ⟨hk,by simp⟩⟩
   ·rw[m5 (Ne.symm O)]at G;obtain⟨u',r',q⟩:=hl j y v' C G e3;refine⟨u',r',?_⟩;rcases q with⟨k,e⟩ | ⟨k,c,e,z⟩
    ·refine .inl ⟨k,?_⟩;have:y≠x:=fun e=>O (rZ hN C (e ▸ Y));simp[this,e]
    ·exact .inr ⟨k,c,e,z.sameBut g (cne y c e)⟩
  ·obtain⟨w',z⟩:=I.cell y c e;exact⟨w',z.sameBut g (cne y c e)⟩
  ·obtain⟨e,n,ne,nf,d⟩:=I.pin p hp;exact⟨(g.2 p.1 ne).trans e,n,ne,nf,d⟩
 ·have R:X.fn x=true:=by
   rcases hf with z|z
   ·exact z
   ·rw[z]at hk;cases hk
  obtain⟨c,hc⟩:=I.ok.has x (.inl hk);obtain⟨w',z⟩:=I.cell x c hc;refine wpAny_storeName_cell I.ok.kind hk hc z (fun h' hc' g=>?_);obtain⟨oc,W,U⟩:=id z;refine h { s with heap:=h' } ⟨I.ok,I.os,I.bare,⟨fun b o e n S D=>?_,fun b o e n S D=>?_,I.base.free,fun b o e D=>?_,I.base.tups,I.base.frzs,I.base.tbls⟩,⟨m,hn.sameBut g (Ne.symm (cne x c hc)),fun j y v' C G e3=>?_⟩,fun y c' e=>?_,I.free,I.freeC,fun p hp=>?_,B ⟨oc,W,I.freeC x c hc⟩ g,by simpa using I.len⟩ ⟨c,g, .inr hc⟩
  ·exact(g.2 b (db (bC (bv e) (I.ok.cab x c R hc)))).trans (I.base.keep b o e n S D)
  ·obtain⟨sl,C⟩:=I.base.slot b o e n S D;exact⟨sl,(g.2 b (db (bC (bv e) (I.ok.cab x c R hc)))).trans C⟩
  ·obtain⟨o',C⟩:=I.base.there b o e D;exact⟨o',(g.2 b (db (bC (bv e) (I.ok.cab x c R hc)))).trans C⟩
  ·by_cases O:j=i
   ·subst O;rw[Y]at C;cases C;rw[lE J]at G;cases G;exact⟨u,r, .inr ⟨.inl hk,c,hc,hc'⟩⟩
   ·rw[m5 (Ne.symm O)]at G;obtain⟨u',r',q⟩:=hl j y v' C G e3;refine⟨u',r',?_⟩;rcases q with q| ⟨k,c',e,z'⟩
    ·exact .inl q
    ·refine .inr ⟨k,c',e,z'.sameBut g ?_⟩;rintro rfl;exact O (rZ hN C (I.ok.inj _ _ _ e hc ▸ Y))
  ·by_cases hcc:c'=c
   ·subst hcc;exact⟨_,hc'⟩
   ·obtain⟨w2,z2⟩:=I.cell y c' e;exact⟨w2,z2.sameBut g hcc⟩
  ·obtain⟨e,n,ne,nf,d⟩:=I.pin p hp;refine⟨(g.2 p.1 ?_).trans e,n,ne,nf,d⟩;intro q;rw[q,W]at e;have q':oc=p.2:=aB e;exact d w' (by rw[<-q'];exact U)
theorem r0{M:tY}{A:cC}{E:ag->ap->Prop}{i:Nat}{x:aQ}{v:V}{u:ag}{Q:Unit->ap->Prop}(I:Inv X pins σ H s)(q:X.N.Nodup)(j:X.N[i]? =some x)(g:Kk X.env.scope x)(r:RelV v u)
  (h:∀e,Inv X pins (σ.set i (some v)) H e->Q () e) (p:X.fn x=true\/X.env.scope.names.lookup x=some .local:=by first|exact .inl rfl|exact .inr rfl|assumption):wpAny M A (JV X.env x u) Q E s:=
 BE I q j g r (fun e y _=>h e y) p
theorem Inv.call'{g:ap}{ch:List aa}(I:Inv X pins σ H s)(q:g.os=s.os)(u:Un (iS X.stack) ch H H' s.heap g.heap)(hok:HOk X.prog X.w H' g.heap)(r:qr g.gens)
  (h:∀b∈ch,(b∈X.ex\/X.s₀.heap.objs.size<=b)/\b≠X.env.locals/\(∀x c,X.env.cells.lookup x=some c->c≠b)/\∀p∈X.pn++pins,p.1≠b):Inv X pins σ H' g:=by
 obtain⟨h',g',d',t',j⟩:=g;have e:j=s.os:=q;subst e;exact I.call (g':=g') (t':=t') (d':=d') u hok r h
end
abbrev XK:=ag->Option aa->Hp->Prop
abbrev St:=List (Option V)
abbrev VK:=V->Hp->Prop
abbrev TE:=St->Hp->VK->Prop
abbrev TT:=St->Hp->(Bool->Hp->Prop)->Prop
abbrev TA:=St->Hp->(List V->Hp->Prop)->Prop
structure nH where
 nx:St->Hp->Prop
 rt:VK
 bk:St->Hp->Prop:=fun _ _=>False
 ct:St->Hp->Prop:=fun _ _=>False
abbrev TS:=nH->St->Hp->Prop
def EP(X:Cx)(pins:List (aa×dX))(σ:St)(Q:VK)(u:ag)(e:ap):Prop:=∃v H',Inv X pins σ H' e/\RelV v u/\Q v H'
def TP(X:Cx)(pins:List (aa×dX))(σ:St)(Q:Bool->Hp->Prop)(b:Bool)(e:ap):Prop:=∃H',Inv X pins σ H' e/\Q b H'
def AP(X:Cx)(pins:List (aa×dX))(σ:St)(Q:List V->Hp->Prop)(us:List ag)(e:ap):Prop:=∃vs H',Inv X pins σ H' e/\Vals vs us/\Q vs H'
def SP(X:Cx)(pins:List (aa×dX))(D:nH)(f:Flow)(g:ap):Prop:=
 match f with
 | .next=>∃e H',Inv X pins e H' g/\D.nx e H'
 | .brk=>∃e H',Inv X pins e H' g/\D.bk e H'
 | .cont=>∃e H',Inv X pins e H' g/\D.ct e H'
 | .ret u=>∃v e H',Inv X pins e H' g/\RelV v u/\D.rt v H'
def PE(X:Cx)(e:c7)(t:TE):Prop:=
 ∀(pins:List (aa×dX)) (s:ap) (σ:St) (H:Hp) (Q:VK),Inv X pins σ H s->t σ H Q->wpAny (bj X.prog X.w) X.A (dr e X.env) (EP X pins σ Q) X.xe s
def PT(X:Cx)(e:c7)(t:TT):Prop:=
 ∀(pins:List (aa×dX)) (s:ap) (σ:St) (H:Hp) (Q:Bool->Hp->Prop),Inv X pins σ H s->t σ H Q->wpAny (bj X.prog X.w) X.A (HS e X.env (dr e X.env)) (TP X pins σ Q) X.xe s
def PW(X:Cx)(e:c7)(t:TT):Prop:=
 ∀(g:CQ ag) (pins:List (aa×dX)) (s:ap) (σ:St) (H:Hp) (Q:Bool->Hp->Prop),Inv X pins σ H s->t σ H Q->wpAny (bj X.prog X.w) X.A (HS e X.env g) (TP X pins σ Q) X.xe s
theorem PW.pt{X:Cx}{e:c7}{t:TT}(h:PW X e t):PT X e t:=h _
def PA(X:Cx)(g:List c7)(t:TA):Prop:=
 ∀(e:lK) (pins:List (aa×dX)) (s:ap) (σ:St) (H:Hp) (Q:List V->Hp->Prop),Inv X pins σ H s->t σ H Q->wpAny (bj X.prog X.w) X.A (spliced (eB e (bu g X.env))) (AP X pins σ Q) X.xe s
def PS(X:Cx)(st:ck)(t:TS):Prop:=
 ∀(pins:List (aa×dX)) (s:ap) (σ:St) (H:Hp) (D:nH),Inv X pins σ H s->t D σ H->wpAny (bj X.prog X.w) X.A (exec st X.env) (SP X pins D) X.xe s
def PSs(X:Cx)(st:List ck)(t:TS):Prop:=
 ∀(pins:List (aa×dX)) (s:ap) (σ:St) (H:Hp) (D:nH),Inv X pins σ H s->t D σ H->wpAny (bj X.prog X.w) X.A (execs st X.env) (SP X pins D) X.xe s
theorem fe{e:Type}{t:CQ e}{Q g:e->ap->Prop}{M:tY}{A:cC}{E:ag->ap->Prop}{s:ap}(h:wpAny M A t Q E s)(j:∀a s,Q a s->g a s):wpAny M A t g E s:=cu h j fun _ _ x=>x
end L2
namespace L2
open PySem PySem.Spec PyProof.Rows
section
variable {X:Cx}
inductive Kl(i:Nat)(σ:St)(H:Hp)(Q:VK):Prop
 |mk (v:V) (h:σ[i]? =some (some v)) (k:Q v H):Kl i σ H Q
def lz(i:Nat):TE:=fun σ H Q=>Kl i σ H Q
def tC(v:V):TE:=fun _ H Q=>Q v H
theorem Il{i:Nat}{x:aQ}{g:lK}(B:X.N[i]? =some x)(p:JQ X.env.scope x)(hd: (x ==("__debug__":aQ))=false:=by decide)(j: (x ==("__classdict__":aQ))=false:=by decide):PE X (.Name x g) (lz i):=by
 intro pins s σ H Q I h;obtain⟨v,e,h⟩:=h;obtain⟨m,q,z⟩:=I.loc;obtain⟨u,r,l⟩:=z i x v B e p;have fin:EP X pins σ Q u s:=⟨v,H,I,r,h⟩;rcases l with⟨hk,y⟩ | ⟨hk,c,hc,hcell⟩
 ·exact HU (EU I.ok.kind hk q y fin) hd
 ·rcases hk with hk|hk
  ·exact HU (Hf I.ok.kind hk hc hcell fin) hd
  ·exact HU (wpAny_loadName_free I.ok.kind hk hc hcell fin j) hd
theorem cw{i j pos} :PE X (.Constant (.int i) j pos) (tC (.int i)):=fun _ _ _ H _ I h=>wpAny_Constant_int ⟨.int i,H,I.tok _,⟨_,rfl⟩,h⟩
theorem ib{b j pos} :PE X (.Constant (.bool b) j pos) (tC (.bl b)):=fun _ _ _ H _ I h=>Constant_bool ⟨.bl b,H,I,rfl,h⟩
theorem lW{j pos} :PE X (.Constant .none j pos) (tC .non):=fun _ _ _ H _ I h=>Constant_none ⟨.non,H,I,rfl,h⟩
theorem aX{x j pos} :PE X (.Constant (.str x) j pos) (tC (.str x)):=fun _ _ _ H _ I h=>Calls.Constant_str ⟨.str x,H,I.tok _,⟨_,rfl⟩,h⟩
def Gl(X:Cx)(x:aQ):Prop:=X.env.kindOf x=some .globalImplicit
theorem ky{E:ag->ap->Prop}{pins:List (aa×dX)}{s:ap}{σ:St}{H:Hp}{x:aQ}{u:ag}{e:lK}{Q:ag->ap->Prop}(I:Inv X pins σ H s)(j:Gl X x)(g:X.mg x=some u)(h:Q u s)
  (hd: (x ==("__debug__":aQ))=false:=by decide):wpAny (bj X.prog X.w) X.A (dr (.Name x e) X.env) Q E s:=
 tZ I.ok.kind j (Calls.loadGlobal_global (by rw[I.ok.glob];exact I.mod.glob.keeps I.bk) g h) hd
theorem De{E:ag->ap->Prop}{pins:List (aa×dX)}{s:ap}{σ:St}{H:Hp}{x:aQ}{u:ag}{e:lK}{Q:ag->ap->Prop}(I:Inv X pins σ H s)(q:Gl X x)(p:X.mg x=none)(g:fq x=some u)(h:Q u s)
  (j:x≠"__name__":=by decide) (hd: (x ==("__debug__":aQ))=false:=by decide):wpAny (bj X.prog X.w) X.A (dr (.Name x e) X.env) Q E s:=by
 obtain⟨y,v,r⟩:=I.mod.blt;exact tZ I.ok.kind q (Calls.loadGlobal_builtin (by rw[I.ok.glob];exact I.mod.glob.keeps I.bk) p (by rw[I.ok.blt];exact v.keeps I.bk) ((r x j).trans g) h) hd
theorem vO{x:aQ}{v:V}{u:ag}{e:lK}(j:Gl X x)(g:X.mg x=some u)(r:RelV v u)(hd: (x ==("__debug__":aQ))=false:=by decide):PE X (.Name x e) (tC v):=
 fun _ _ _ H _ I h=>ky I j g ⟨v,H,I,r,h⟩ hd
variable {a b:c7}{ta tb:TE}{pos:lK}
def PC(X:Cx)(op:CmpOp)(a b:c7)(t:TE):Prop:=
 ∀(pins:List (aa×dX)) (s:ap) (σ:St) (H:Hp) (Q:VK),Inv X pins σ H s->t σ H Q->
  wpAny (bj X.prog X.w) X.A (dr a X.env) (fun v g=>wpAny (bj X.prog X.w) X.A (dr b X.env) (fun u e=>wpAny (bj X.prog X.w) X.A (eR op v u) (EP X pins σ Q) X.xe e) X.xe g) X.xe s
inductive PBl(x:V)(H:Hp)(Q:Bool->Hp->Prop):Prop
 |mk (c:Bool) (h:x= .bl c) (k:Q c H):PBl x H Q
def tB(t:TE):TT:=fun σ H Q=>t σ H fun x H1=>PBl x H1 Q
theorem r8{op:CmpOp}{t:TE}(h:PC X op a b t)(e:lL op b=false:=by first|exact nobehind _ (by decide) (by decide) |rfl):PT X (.Compare a [op] [b] pos) (tB t):=by
 intro pins s σ H Q I p;refine EK (fe (h pins s σ H _ I p) fun v C e=>fe e fun u B r=>fe r fun c z ⟨x,H1,y,g,j⟩=>?_) e;obtain⟨d,rfl,q⟩:=j;cases g;exact il ⟨H1,y,q⟩
theorem cB{e:c7}{t:TE}(h:PE X e t)(u:∀g,HS e X.env g= (do let v <-g;yN e.pos;yO [v] (truthy v)):=by intro _;rfl):PT X e (tB t):=by
 intro pins s σ H Q I r;refine isTrue_plain (fe (h pins s σ H _ I r) fun v z ⟨x,H1,y,j,p⟩=>?_) (u _);obtain⟨d,rfl,q⟩:=p;cases j;exact il ⟨H1,y,q⟩
variable {tA tB':TT}{rest:List c7}
def tAnd(t u:TT):TT:=fun σ H Q=>t σ H fun c H1=>if c=true then u σ H1 Q else Q false H1
def tOr(t u:TT):TT:=fun σ H Q=>t σ H fun c H1=>if c=true then Q true H1 else u σ H1 Q
def tNot(t:TT):TT:=fun σ H Q=>t σ H fun c H1=>Q (!c) H1
theorem ju(g:PT X a tA):PW X (.BoolOp .And [a] pos) tA:=by
 intro j pins s σ H Q I h;refine isTrue_and (fe (g pins s σ H Q I h) fun c p e=>?_);cases c with
 |true=>exact isTrue_and_nil e
 |false=>exact e
theorem ip(g:PT X a tA):PW X (.BoolOp .Or [a] pos) tA:=by
 intro j pins s σ H Q I h;refine isTrue_or (fe (g pins s σ H Q I h) fun c p e=>?_);cases c with
 |false=>exact isTrue_or_nil e
 |true=>exact e
theorem kz(u:PT X a tA)(r:PW X (.BoolOp .And (b::rest) pos) tB'):PW X (.BoolOp .And (a::b::rest) pos) (tAnd tA tB'):=by
 intro p pins s σ H Q I h;refine isTrue_and (fe (u pins s σ H _ I h) fun c q e=>?_);obtain⟨H1,j,g⟩:=e;cases c with
 |true=>exact r p pins q σ H1 Q j g
 |false=>exact⟨H1,j,g⟩
theorem lr(u:PT X a tA)(r:PW X (.BoolOp .Or (b::rest) pos) tB'):PW X (.BoolOp .Or (a::b::rest) pos) (tOr tA tB'):=by
 intro p pins s σ H Q I h;refine isTrue_or (fe (u pins s σ H _ I h) fun c q e=>?_);obtain⟨H1,j,g⟩:=e;cases c with
 |true=>exact⟨H1,j,g⟩
 |false=>exact r p pins q σ H1 Q j g
theorem iZ(e:PT X a tA):PT X (.UnaryOp .Not a pos) (tNot tA):=by
 intro pins s σ H Q I h;exact isTrue_not (e pins s σ H (fun c H1=>Q (!c) H1) I h)
def tOrV(e tb:TE):TE:=fun σ H Q=>e σ H fun x H1=>∃c,x= .bl c/\if c=true then Q (.bl true) H1 else tb σ H1 Q
theorem Im{op}{t:TE}(h:PE X a t):PE X (.BoolOp op [a] pos) t:=fun pins s σ H Q I e=>BoolOp_one (h pins s σ H Q I e)
theorem Km(u:PE X a ta)(r:PE X (.BoolOp .Or (b::rest) pos) tb):PE X (.BoolOp .Or (a::b::rest) pos) (tOrV ta tb):=by
 intro pins s σ H Q I h;refine BoolOp_or (fe (u pins s σ H _ I h) fun v p g=>?_);obtain⟨x,H1,j,q,e⟩:=g;obtain⟨c,rfl,e⟩:=e;cases q;refine il ?_;cases c with
 |false=>exact r pins p σ H1 Q j e
 |true=>exact⟨.bl true,H1,j,rfl,e⟩
def tIf(t:TT)(e tb:TE):TE:=fun σ H Q=>t σ H fun c H1=>if c=true then e σ H1 Q else tb σ H1 Q
theorem jX{c:c7}(q:PT X c tA)(u:PE X a ta)(r:PE X b tb):PE X (.IfExp c a b pos) (tIf tA ta tb):=by
 intro pins s σ H Q I h;refine wpAny_IfExp (fe (q pins s σ H _ I h) fun d g e=>?_);obtain⟨H1,p,j⟩:=e;cases d with
 |true=>exact u pins g σ H1 Q p j
 |false=>exact r pins g σ H1 Q p j
end
end L2
namespace L2
open PySem PySem.Spec PyProof.Rows
def SqL(K:PySem.W.Frag)(H:Hp)(a:aa)(xs:List V):Prop:=
 Rd H a (.lst xs)\/
  ∃(o:dX) (e:Array ag) (n:Nat),K.lookup a=some o/\o.cls= .type "list"/\o.dict=none/\o.data= .seq e n/\e.size<=aO/\Vals xs e.toList
def SqT(K:PySem.W.Frag)(H:Hp)(a:aa)(xs:List V):Prop:=
 Rd H a (.tup xs)\/
  ∃(o:dX) (e:Array ag) (n:Nat),K.lookup a=some o/\o.cls= .type "tuple"/\o.data= .seq e n/\e.size<=aO/\Vals xs e.toList
def absV:ag->Option V
 | .none=>some .non
 | .bool b=>some (.bl b)
 | .int i _=>some (.int i)
 | .str x _=>some (.str x)
 | .bytes b _=>some (.byt b)
 | .float b _=>some (.flt b)
 | .ref a=>some (.ref a)
 | .type n=>some (.ty n)
 |_=>none
theorem RelV.abs{x:V}{u:ag}(r:RelV x u):absV u=some x:=by
 cases x with
 |non=>cases r;rfl
 |bl _=>cases r;rfl
 |int _=>obtain⟨t,rfl⟩:=r;rfl
 |str _=>obtain⟨t,rfl⟩:=r;rfl
 |byt _=>obtain⟨t,rfl⟩:=r;rfl
 |flt _=>obtain⟨t,rfl⟩:=r;rfl
 |ref _=>cases r;rfl
 |ty _=>cases r;rfl
theorem RelV.inj{x y:V}{u:ag}(r:RelV x u)(q:RelV y u):x=y:=aB (r.abs.symm.trans q.abs)
theorem Vals.inj:∀ {xs e:List V} {us:List ag},Vals xs us->Vals e us->xs=e
 |_,_,_, .nil, .nil=>rfl
 |_,_,_, .cons r t, .cons r' t'=>by rw[r.inj r',Vals.inj t t']
section
variable {X:Cx}{pins:List (aa×dX)}{σ:St}{H:Hp}{s:ap}{a:aa}{xs ys:List V}
theorem SqL.of{K:PySem.W.Frag}(h:H a=some (.lst xs)):SqL K H a xs:= .inl (.inl h)
theorem SqT.of{K:PySem.W.Frag}(h:H a=some (.tup xs)):SqT K H a xs:= .inl (.inl h)
theorem Inv.list(I:Inv X pins σ H s)(h:SqL X.K H a xs):∃g:List ag,Vals xs g/\PlainL s.heap a g.toArray/\xs.length<=aO:=by
 rcases h with h| ⟨o,g,n,hk,hc,hd,hs,hz,r⟩
 ·obtain⟨z,g,n,r,e⟩:=h.ok I.hok;exact⟨g,r,⟨_,n,e,rfl,rfl,rfl⟩,z⟩
 ·refine⟨g.toList,r,⟨o,n,I.kIn a o hk,hc,hd,by simpa using hs⟩,?_⟩;have e:=r.length;simp only[iM]at e
  lia
theorem Inv.tuple(I:Inv X pins σ H s)(h:SqT X.K H a xs):∃g:List ag,Vals xs g/\IsTup s.heap a g.toArray/\xs.length<=aO:=by
 rcases h with h| ⟨o,g,n,hk,hc,hs,hz,r⟩
 ·obtain⟨z,g,r,p⟩:=h.ok I.hok;exact⟨g,r,p,z⟩
 ·refine⟨g.toList,r,⟨o,I.kIn a o hk,hc,n,by simpa using hs⟩,?_⟩;have e:=r.length;simp only[iM]at e
  lia
theorem Inv.list_inj(I:Inv X pins σ H s)(h:SqL X.K H a xs)(h':SqL X.K H a ys):xs=ys:=by
 obtain⟨j,r,⟨o,n,e,_,_,d⟩,_⟩:=I.list h;obtain⟨g,u,⟨v,x,p,_,_,q⟩,_⟩:=I.list h';rw[e]at p;cases p;rw[d]at q;injection q with d1 _
 have:j=g:=by simpa using qaf HV d1
 subst this;exact r.inj u
theorem Inv.tuple_inj(I:Inv X pins σ H s)(h:SqT X.K H a xs)(h':SqT X.K H a ys):xs=ys:=by
 obtain⟨j,r,⟨o,e,_,n,d⟩,_⟩:=I.tuple h;obtain⟨g,u,⟨v,p,_,x,q⟩,_⟩:=I.tuple h';rw[e]at p;cases p;rw[d]at q;injection q with d1 _
 have:j=g:=by simpa using qaf HV d1
 subst this;exact r.inj u
end
abbrev Cx.wish(X:Cx)(E:ag->ap->Prop):Cx:= { X with xe:=E }
abbrev Cx.nox(X:Cx):Cx:=X.wish fun _ _=>False
theorem Cx.Ok.wish{X:Cx}(ok:X.Ok)(E:ag->ap->Prop): (X.wish E).Ok:=
 ⟨ok.mod,ok.kind,ok.glob,ok.blt,ok.above,ok.inj,ok.has,ok.cab,ok.hd,ok.frames,ok.stk,ok.exf,ok.bs,ok.bsz,ok.noex,ok.exfs,ok.funs,ok.frf⟩
theorem Cx.Ok.unwish{X:Cx}{E:ag->ap->Prop}(ok: (X.wish E).Ok):X.Ok:=
 ⟨ok.mod,ok.kind,ok.glob,ok.blt,ok.above,ok.inj,ok.has,ok.cab,ok.hd,ok.frames,ok.stk,ok.exf,ok.bs,ok.bsz,ok.noex,ok.exfs,ok.funs,ok.frf⟩
section
variable {X:Cx}{pins:List (aa×dX)}{σ:St}{H:Hp}{s:ap}{E:ag->ap->Prop}
theorem Inv.wish(I:Inv X pins σ H s)(E:ag->ap->Prop):Inv (X.wish E) pins σ H s:=⟨I.ok.wish E,I.os,I.bare,I.base,I.loc,I.cell,I.free,I.freeC,I.pin,I.hok,I.len⟩
theorem Inv.unwish(I:Inv (X.wish E) pins σ H s):Inv X pins σ H s:=⟨I.ok.unwish,I.os,I.bare,I.base,I.loc,I.cell,I.free,I.freeC,I.pin,I.hok,I.len⟩
theorem SP.unwish{D:nH}{f:Flow}{g:ap}(h:SP (X.wish E) pins D f g):SP X pins D f g:=by
 cases f with
 |next=>obtain⟨e,H',I,q⟩:=h;exact⟨e,H',I.unwish,q⟩
 |brk=>obtain⟨e,H',I,q⟩:=h;exact⟨e,H',I.unwish,q⟩
 |cont=>obtain⟨e,H',I,q⟩:=h;exact⟨e,H',I.unwish,q⟩
 |ret u=>obtain⟨v,e,H',I,r,q⟩:=h;exact⟨v,e,H',I.unwish,r,q⟩
theorem PSs.nox{st:List ck}{t:TS}(h:PSs X.nox st t):PSs X st t:=fun pins s σ H D I e=>
 cu (h pins s σ H D (I.wish _) e) (fun _ _ q=>q.unwish) fun _ _ z=>False.elim z
end
section
variable {X:Cx}{st:ck}{rest:List ck}{t u:TS}{e:c7}{te:TE}{pos:lK}
def tNext:TS:=fun D σ H=>D.nx σ H
def xq(t u:TS):TS:=fun D σ H=>t { D with nx:=u D } σ H
theorem bh:PSs X [] tNext:=fun _ _ σ H _ I h=>oh ⟨σ,H,I,h⟩
theorem aj(p:PS X st t)(j:PSs X rest u):PSs X (st::rest) (xq t u):=by
 intro pins s σ H D I h;refine JW (fe (p pins s σ H { D with nx:=u D } I h) fun f g q=>?_);cases f with
 |next=>
  obtain⟨e,H',r,q⟩:=q;exact j pins g e H' D r q
 |ret v=>exact q
 |brk=>exact q
 |cont=>exact q
theorem aq(e:PS X st t):PSs X [st] t:=by
 intro pins s σ H D I h;refine JW (fe (e pins s σ H D I h) fun f g q=>?_);cases f with
 |next=>exact oh q
 |ret v=>exact q
 |brk=>exact q
 |cont=>exact q
theorem Inv.quiet{pins:List (aa×dX)}{σ:St}{H:Hp}{s:ap}(I:Inv X pins σ H s):interactive X.env=false:=by simp[interactive,I.ok.kind]
def Kn(e:TE):TS:=fun D σ H=>e σ H fun _ H1=>D.nx σ H1
theorem cb(p:PE X e te)(j:Cy e none pos.line X.env=pure false:=by rfl):PS X (.Expr e pos) (Kn te):=by
 intro pins s σ H D I h;exact wpAny_Expr_any (fe (p pins s σ H _ I h) fun v r ⟨x,H1,q,u,g⟩=>⟨σ,H1,q,g⟩) I.quiet j
def Fv(e:TE):TS:=fun D σ H=>e σ H D.rt
theorem bb(p:PE X e te):PS X (.Return (some e) pos) (Fv te):=by
 intro pins s σ H D I h;exact wpAny_Return_some (fe (p pins s σ H _ I h) fun v r ⟨x,H1,q,g,j⟩=>⟨x,σ,H1,q,g,j⟩)
def tRetN:TS:=fun D _ H=>D.rt .non H
theorem Fw:PS X (.Return none pos) tRetN:=fun _ _ σ H _ I h=>wpAny_Return_none ⟨.non,σ,H,I,rfl,h⟩
def Io(c:TT)(t u:TS):TS:=fun D σ H=>c σ H fun b H1=>if b=true then t D σ H1 else u D σ H1
theorem bN{c:c7}{a b:List ck}{g:TT}(r:PT X c g)(x:PSs X a t)(v:PSs X b u):PS X (.If c a b pos) (Io g t u):=by
 intro pins s σ H D I h;refine wpAny_If (fe (r pins s σ H _ I h) fun d j e=>?_);obtain⟨H1,q,p⟩:=e;cases d with
 |true=>exact x pins j σ H1 D q p
 |false=>exact v pins j σ H1 D q p
end
abbrev TG:=V->St->Hp->(St->Hp->Prop)->Prop
abbrev TGs:=List V->St->Hp->(St->Hp->Prop)->Prop
def PG(X:Cx)(target:c7)(t:TG):Prop:=
 ∀(pins:List (aa×dX)) (s:ap) (σ:St) (H:Hp) (v:V) (u:ag) (Q:St->Hp->Prop),Inv X pins σ H s->RelV v u->t v σ H Q->
  wpAny (bj X.prog X.w) X.A (assign target X.env u) (fun _ g=>∃e H',Inv X pins e H' g/\Q e H') X.xe s
def Ko(X:Cx)(ts:List c7)(t:TGs):Prop:=
 ∀(pins:List (aa×dX)) (s:ap) (σ:St) (H:Hp) (vs:List V) (us:List ag) (Q:St->Hp->Prop),Inv X pins σ H s->Vals vs us->t vs σ H Q->
  wpAny (bj X.prog X.w) X.A (assignInOrder ((ku ts X.env).map (·.2)) us) (fun _ g=>∃e H',Inv X pins e H' g/\Q e H') X.xe s
abbrev TIp:=V->V->Hp->VK->Prop
def PIp(X:Cx)(op:yY)(t:TIp):Prop:=
 ∀(pins:List (aa×dX)) (s:ap) (σ:St) (H:Hp) (x y:V) (v u:ag) (Q:VK),Inv X pins σ H s->RelV x v->RelV y u->t x y H Q->
  wpAny (bj X.prog X.w) X.A (JX op v u) (EP X pins σ Q) X.xe s
section
variable {X:Cx}{pos:lK}
def ni(i:Nat):TG:=fun v σ H Q=>Q (σ.set i (some v)) H
theorem jv{i:Nat}{x:aQ}(p:X.N.Nodup)(g:X.N[i]? =some x)(e:Kk X.env.scope x)(j:X.fn x=true\/X.env.scope.names.lookup x=some .local:=by first|exact .inl rfl|exact .inr rfl|assumption):PG X (.Name x pos) (ni i):=by
 intro pins s σ H v u Q I r h;exact wpAny_assign_Name (r0 I p g e r (fun y q=>⟨_,H,q,h⟩) j)
def gNil:TGs:=fun vs σ H Q=>vs= []/\Q σ H
def Kp(t:TG)(u:TGs):TGs:=fun vs σ H Q=>∃v r,vs=v::r/\t v σ H fun e H'=>u r e H' Q
theorem Fy:Ko X [] gNil:=by
 intro pins s σ H vs us Q I r h;obtain⟨e,h⟩:=h;subst e;cases r;exact assignInOrder_nil ⟨σ,H,I,h⟩
theorem xr{e:c7}{g:List c7}{t:TG}{u:TGs}(B:PG X e t)(z:Ko X g u)
  (y: (ku (e::g) X.env).map (·.2)=assign e X.env::(ku g X.env).map (·.2):=by rfl):Ko X (e::g) (Kp t u):=by
 intro pins s σ H vs us Q I r h;obtain⟨v,E,C,h⟩:=h;subst C;cases r with
 |cons r rr=>
  rw[y];refine assignInOrder_cons (fe (B pins s σ H _ _ _ I r h) fun _ q p=>?_);obtain⟨j,H1,D,x⟩:=p;exact z pins q j H1 _ _ Q D rr x
def Kq(K:PySem.W.Frag)(n:Nat)(t:TGs):TG:=fun v σ H Q=>∃a xs,v= .ref a/\SqT K H a xs/\xs.length=n/\t xs σ H Q
theorem Ip{g:List c7}{k:Nat}{t:TGs}{n:Nat}(D:X.calm=true)(h:Ko X g t)
  (B: (ku g X.env).length=n:=by rfl) (p: (ku g X.env).findIdx? (·.1)=none:=by rfl):PG X (.Tuple g k pos) (Kq X.K n t):=by
 intro pins s σ H v u Q I r j;obtain⟨a,xs,E,z,C,j⟩:=j;subst E;cases r;obtain⟨q,rv,y,G⟩:=I.tuple z;refine assign_Tuple_tuple (I.ok.hd D) y (by simp[B,<-C,rv.length]) p fun h' x=>?_;have F:Inv X pins σ H { s with heap:=h' } :=I.kept (t':=s.toks) fun b o e=>x b o (db (bv e)) e;exact h pins _ σ H xs _ Q F (by simpa using rv) j
def zb(e:TE)(g:TG):TS:=fun D σ H=>e σ H fun x H1=>g x σ H1 D.nx
theorem bR{i:Nat}{x:aQ}{e:c7}{j:TE}{g:lK}(E:X.N.Nodup)(z:X.N[i]? =some x)(r:Kk X.env.scope x)(C:PE X e j)(u:Cy e (some (.Name x g)) pos.line X.env=pure false:=by rfl)(B:X.fn x=true\/X.env.scope.names.lookup x=some .local:=by first|exact .inl rfl|exact .inr rfl|assumption):
  PS X (.Assign [.Name x g] e pos) (zb j (ni i)):=by
 intro pins s σ H D I h;refine wpAny_Assign_Name (fe (C pins s σ H _ I h) fun v M ⟨y,H1,G,p,q⟩=>?_) u;exact r0 G E z r p (fun J F=>⟨_,H1,F,q⟩) B
def tAug(i:Nat)(g:TE)(e:TIp):TS:=fun D σ H=>∃x,σ[i]? =some (some x)/\g σ H fun y H1=>e x y H1 fun z h=>D.nx (σ.set i (some z)) h
theorem Dg{i:Nat}{x:aQ}{e:c7}{F:TE}{op:yY}{E:TIp}{q:lK}(hN:X.N.Nodup)(G:X.N[i]? =some x)(C:Kk X.env.scope x)(he:PE X e F)(S:PIp X op E)(Z:X.fn x=true\/X.env.scope.names.lookup x=some .local:=by first|exact .inl rfl|exact .inr rfl|assumption):
  PS X (.AugAssign (.Name x q) op e pos) (tAug i F E):=by
 intro pins s σ H D I h;obtain⟨v,e1,h⟩:=h;obtain⟨m,U,Y⟩:=I.loc;have B:JQ X.env.scope x:=by rcases C with k|k;exact .inl k;exact .inr (.inl k)
 obtain⟨u,r,l⟩:=Y i x v G e1 B;refine wpAny_AugAssign_Name ?_;have go:wpAny (bj X.prog X.w) X.A (dr e X.env) (fun w p=>wpAny (bj X.prog X.w) X.A (JX op u w) (fun r j=>wpAny (bj X.prog X.w) X.A (JV X.env x r) (fun _=>SP X pins D .next) X.xe j) X.xe p) X.xe s:=by
  refine fe (he pins s σ H _ I h) fun w J g=>?_;obtain⟨y,H1,I1,O,R⟩:=g;refine fe (S pins J σ H1 v y u w _ I1 r O R) fun z s2 g=>?_;obtain⟨zv,H2,I2,M,Q⟩:=g;exact r0 I2 hN G C M (fun s3 I3=>⟨_,H2,I3,Q⟩) Z
 rcases l with⟨hk,W⟩ | ⟨hk,c,hc,hcell⟩
 ·exact EU I.ok.kind hk U W go
 ·rcases hk with hk|hk
  ·exact Hf I.ok.kind hk hc hcell go
  ·rcases C with k|k
   ·have:X.env.scope.names.lookup x=some .free:=hk;rw[k]at this;cases this
   ·have:X.env.scope.names.lookup x=some .free:=hk;rw[k]at this;cases this
def ipI(f:Int->Int->Int):TIp:=fun x y H Q=>∃i j,x= .int i/\y= .int j/\Q (.int (f i j)) H
theorem Dh:PIp X .Add (ipI fun i j=>i+j):=by
 intro pins s σ H x y v u Q I g e h;obtain⟨i,j,r,p,q⟩:=h;subst r;subst p;obtain⟨t,rfl⟩:=g;obtain⟨z,rfl⟩:=e;exact EL ⟨.int _,H,I.tok _,⟨_,rfl⟩,q⟩
end
section
variable {X:Cx}{pos:lK}
def zc(c:TT)(tb:TS):TS:=fun D σ H=>∃W:Nat->St->Hp->Prop,(∃m,W m σ H)/\∀m σ H,W m σ H->
 c σ H fun b H1=>if b=true then ∃N:St->Hp->Prop,(∀e H',N e H'->∃g,g < m/\W g e H')/\tb { D with nx:=N,ct:=N,bk:=D.nx } σ H1 else D.nx σ H1
theorem ic{c:c7}{j:List ck}{G:TT}{tb:TS}(J:qu (bj X.prog X.w) X.A X.env X.xe)(hc:PT X c G)(hb:PSs X j tb):PS X (.While c j [] pos) (zc G tb):=by
 intro pins s σ H D I h;obtain⟨W,⟨m0,S⟩,q⟩:=h;refine wpAny_While (codeAny_whileLoop (fun n Z=>∃p H',Inv X pins p H' Z/\W n p H') ?_ m0 ⟨σ,H,I,S⟩);rintro n Y ⟨g,H1,I1,R⟩;refine fA J (fe (hc pins Y g H1 _ I1 (q n g H1 R)) fun b U C=>?_);obtain⟨Q,O,x⟩:=C;cases b with
 |true=>
  obtain⟨N,M,x⟩:=x;rw[qab rfl];refine fA J (fe (hb pins U g Q _ O x) fun f s3 u=>?_);cases f with
  |next=>
   obtain⟨e,r,F,z⟩:=u;obtain⟨B,E,y⟩:=M e r z;exact⟨B,E,e,r,F,y⟩
  |cont=>
   obtain⟨e,r,F,z⟩:=u;obtain⟨B,E,y⟩:=M e r z;exact⟨B,E,e,r,F,y⟩
  |brk=>exact u
  |ret v=>exact u
 |false=>
  rw[qaa bq];exact oh ⟨g,Q,O,x⟩
end
structure It where
 go:Nat->Hp->Prop
 yld:Nat->Hp->V->Hp->Prop
 stop:Nat->Hp->Prop
def uf(X:Cx)(pins:List (aa×dX))(H:Hp)(b:aa):Prop:=
 H b=none/\b≠X.env.locals/\b∉X.fs/\(b∈X.ex\/X.s₀.heap.objs.size<=b)/\(∀x c,X.env.cells.lookup x=some c->c≠b)/\∀p∈X.pn++pins,p.1≠b
theorem Inv.fpOk{X:Cx}{pins:List (aa×dX)}{σ:St}{H H':Hp}{s:ap}{b:aa}(I:Inv X pins σ H s)(g:s.heap.objs.size<=b)(j:H' b=none):uf X pins H' b:=by
 refine⟨j,JY (bC I.lt g),I.nofs g, .inr (cn I.sz g),fun x c e z=>?_,fun p h z=>?_⟩
 ·obtain⟨v,q⟩:=I.cell x c e;exact absurd (bC q.lt (by rw[z];exact g)) (dA _)
 ·exact absurd (bC (bv (I.pin p h).1) (by rw[z];exact g)) (dA _)
structure Di(P:aZ)(w:bB)(K:PySem.W.Frag)(tg:c7)(J:It)(fp:List aa)(it:aa)(tn:Nat->bH->Prop):Prop where
 mem:it∈fp
 obj:∀i h,tn i h->∀b∈fp,∃o,h.get? b=some o/\∀v,o.data≠ .cell v
 keep:∀i h h',tn i h->(∀b∈fp,∀o,h.get? b=some o->h'.get? b=some o)->tn i h'
 item:∀(X:Cx),X.prog=P->X.w=w->X.K=K->X.calm=true->∀(i:Nat) (pins:List (aa×dX)) (s:ap) (σ:St) (H:Hp) (E:ag->ap->Prop),Inv X pins σ H s->(∀b∈fp,uf X pins H b)->tn i s.heap->J.go i H->
  wpAny (bj P w) X.A (pyNext (.ref it)) (fun r s1=>∃u,r=some u/\
   wpAny (bj P w) X.A (oj tg (.ref it) u) (fun _ s2=>∃x H',Inv X pins σ H' s2/\RelV x u/\J.yld i H x H'/\tn (i+1) s2.heap/\∀b∈fp,H' b=none) E s1) E s
 done:∀(X:Cx),X.prog=P->X.w=w->X.K=K->X.calm=true->∀(i:Nat) (pins:List (aa×dX)) (s:ap) (σ:St) (H:Hp) (E:ag->ap->Prop),Inv X pins σ H s->(∀b∈fp,uf X pins H b)->tn i s.heap->J.stop i H->
  wpAny (bj P w) X.A (pyNext (.ref it)) (fun r s1=>r=none/\Inv X pins σ H s1) E s
 self:∀(A:cC) (i:Nat) (s:ap) (Q:ag->ap->Prop) (E:ag->ap->Prop),tn i s.heap->Q (.ref it) s->wpAny (bj P w) A (pyIter (.ref it)) Q E s
abbrev TI:=St->Hp->(It->Hp->Prop)->Prop
def PIE(X:Cx)(pins:List (aa×dX))(σ:St)(q:c7)(R:It->Hp->Prop)(e:ag)(h:ap):Prop:=
 ∃(j:aa) (p:List aa) (g:Nat->bH->Prop) (J:It) (H':Hp),e= .ref j/\Inv X pins σ H' h/\Di X.prog X.w X.K q J p j g/\g 0 h.heap/\(∀b∈p,uf X pins H' b)/\R J H'
def PI(X:Cx)(h e:c7)(g:TI):Prop:=
 ∀(pins:List (aa×dX)) (s:ap) (σ:St) (H:Hp) (R:It->Hp->Prop),Inv X pins σ H s->g σ H R->
  wpAny (bj X.prog X.w) X.A (dr e X.env) (fun v j=>wpAny (bj X.prog X.w) X.A (pyIter v) (PIE X pins σ h R) X.xe j) X.xe s
theorem Dj{M:tY}{A:cC}{E:ag->ap->Prop}{s:ap}{g:c7}{j:aa}{u:ag}{o:dX}{n:String}{vs:Array ag}{Q:Unit->ap->Prop}(p:s.heap.get? j=some o)(r:o.cls= .type n)(hd:o.data= .fields vs)
  (q: ["enumerate","zip","dict_itemiterator","dict_reverseitemiterator","odict_iterator","itertools.zip_longest","itertools.pairwise"].contains n=false) (e:Q () s):wpAny M A (oj g (.ref j) u) Q E s:=by
 unfold oj;cases g<;>first
  |exact cH e
  | (cases u<;>first
    |exact cH e
    | (refine bc (wpAny_load p ?_);rw[r,hd];show wpAny M A (if(["enumerate","zip","dict_itemiterator","dict_reverseitemiterator","odict_iterator","itertools.zip_longest","itertools.pairwise"].contains n&&vs[0]? == some (rH _))=true then _ else _) Q E s;rw[qaa (by intro h;rw[q,m6]at h;cases h)];exact cH e))
def Ht(K:PySem.W.Frag)(a:aa):It:=
 ⟨fun i H=>∃xs x,SqL K H a xs/\xs[i]? =some x,fun i H x H'=>H'=H/\∀xs,SqL K H a xs->xs[i]? =some x,fun i H=>∃xs,SqL K H a xs/\xs.length<=i⟩
def Ks(K:PySem.W.Frag)(a:aa):It:=
 ⟨fun i H=>∃xs x,SqT K H a xs/\xs[i]? =some x,fun i H x H'=>H'=H/\∀xs,SqT K H a xs->xs[i]? =some x,fun i H=>∃xs,SqT K H a xs/\xs.length<=i⟩
theorem BF{P:aZ}{w:bB}{K:PySem.W.Frag}{Y:c7}(a g:aa):Di P w K Y (Ht K a) [g] g (fun i h=>h.IsListIter g a i)where
 mem:=by simp
 obj:=fun i h st b j=>by
  have e:b=g:=by simpa using j
  subst e;obtain⟨o,e,c,d⟩:=st;exact⟨o,e,fun v z=>by rw[d]at z;cases z⟩
 keep:=fun i h h' st k=>st.at fun o e=>k g (by simp) o e
 item:=by
  intro X G D J U i pins s σ H E I y st F;subst G D J;obtain⟨xs,x,r,C⟩:=F;obtain⟨B,rv,p,hz⟩:=I.list r;obtain⟨u,hu,ru⟩:=rv.get C;obtain⟨S,R,f2,Q,O,M⟩:=y g (by simp);refine wpAny_pyNext_list_item st p.isList (x:=u) (by simpa using hu) fun h' q Z=>?_;have I1:Inv X pins σ H { s with heap:=h' } :=I.turned (t':=s.toks) (fun b o j e=>(Z.2 b j).trans e) S R Q O M;obtain⟨o,e,c,d⟩:=id q;exact⟨u,rfl,Dj (s:= { s with heap:=h' }) e c d (by decide) ⟨x,H,I1,ru,⟨rfl,fun ys hy=>by rw[I.list_inj hy r];exact C⟩,q,fun b j=>(y b j).1⟩⟩
 done:=by
  intro X G D J U i pins s σ H E I y st F;subst G D J;obtain⟨xs,r,C⟩:=F;obtain⟨B,rv,p,hz⟩:=I.list r;obtain⟨S,R,f2,Q,O,M⟩:=y g (by simp);have hl:=rv.length;exact wpAny_pyNext_list_end (I.ok.hd U) st p.isList (by simp;lia) fun h' eb=>⟨rfl,I.turned (t':=s.toks) (fun b o j e=>eb b o j e) S R Q O M⟩
 self:=fun _ _ _ _ _ st h=>wpAny_pyIter_listiter st h
theorem zd{P:aZ}{w:bB}{K:PySem.W.Frag}{Y:c7}(a j:aa):Di P w K Y (Ks K a) [j] j (fun i h=>h.IsTupleIter j a i)where
 mem:=by simp
 obj:=fun i h st b q=>by
  have e:b=j:=by simpa using q
  subst e;obtain⟨o,e,c,d⟩:=st;exact⟨o,e,fun v z=>by rw[d]at z;cases z⟩
 keep:=fun i h h' st k=>st.at fun o e=>k j (by simp) o e
 item:=by
  intro X G D J U i pins s σ H E I B st F;subst G D J;obtain⟨xs,x,y,C⟩:=F;obtain⟨g,rv,p,hz⟩:=I.tuple y;obtain⟨u,hu,ru⟩:=rv.get C;obtain⟨S,R,f2,Q,O,M⟩:=B j (by simp);refine wpAny_pyNext_tuple_item st (show s.heap.IsTuple a g.toArray from p) (x:=u) (by simpa using hu) fun h' r Z=>?_;have I1:Inv X pins σ H { s with heap:=h' } :=I.turned (t':=s.toks) (fun b o q e=>(Z.2 b q).trans e) S R Q O M;obtain⟨o,e,c,d⟩:=id r;exact⟨u,rfl,Dj (s:= { s with heap:=h' }) e c d (by decide) ⟨x,H,I1,ru,⟨rfl,fun ys hy=>by rw[I.tuple_inj hy y];exact C⟩,r,fun b q=>(B b q).1⟩⟩
 done:=by
  intro X G D J U i pins s σ H E I B st F;subst G D J;obtain⟨xs,y,C⟩:=F;obtain⟨g,rv,p,hz⟩:=I.tuple y;obtain⟨S,R,f2,Q,O,M⟩:=B j (by simp);have hl:=rv.length;exact wpAny_pyNext_tuple_end (I.ok.hd U) st (show s.heap.IsTuple a g.toArray from p) (by simp;lia) fun h' eb=>⟨rfl,I.turned (t':=s.toks) (fun b o q e=>eb b o q e) S R Q O M⟩
 self:=fun _ _ _ _ _ st h=>wpAny_pyIter_tupleiter st h
end L2
namespace L2
open PySem PySem.Spec PyProof.Rows
section
variable {X:Cx}{tg:c7}
def Kt(K:PySem.W.Frag)(tl:TE):TI:=fun σ H R=>tl σ H fun x H1=>∃a,x= .ref a/\(∃xs,SqL K H1 a xs)/\R (Ht K a) H1
def iTup(K:PySem.W.Frag)(tl:TE):TI:=fun σ H R=>tl σ H fun x H1=>∃a,x= .ref a/\(∃xs,SqT K H1 a xs)/\R (Ks K a) H1
theorem rp{l:c7}{tl:TE}(C:PE X l tl):PI X tg l (Kt X.K tl):=by
 intro pins s σ H R I h;refine fe (C pins s σ H _ I h) fun v g r=>?_;obtain⟨x,H1,j,u,y⟩:=r;obtain⟨a,e,⟨xs,B⟩,q⟩:=y;subst e;cases u;obtain⟨z,rv,p,E⟩:=j.list B;refine JF p.isList ?_;refine⟨g.heap.objs.size, [g.heap.objs.size],_,_,H1,rfl,j.kept (t':=g.toks) fun b o e=>bn _ e,BF a _,⟨_,cm _ rfl,rfl,rfl⟩,fun b D=>?_,q⟩;have e:b=g.heap.objs.size:=by simpa using D
 subst e;exact j.fpOk (aC _) (j.hok.fresh (aC _))
theorem Iq{l:c7}{tl:TE}(C:PE X l tl):PI X tg l (iTup X.K tl):=by
 intro pins s σ H R I h;refine fe (C pins s σ H _ I h) fun v g u=>?_;obtain⟨x,H1,j,y,z⟩:=u;obtain⟨a,e,⟨xs,B⟩,q⟩:=z;subst e;cases y;obtain⟨r,rv,p,E⟩:=j.tuple B;refine wpAny_pyIter_tuple (show g.heap.IsTuple a r.toArray from p) ?_;refine⟨g.heap.objs.size, [g.heap.objs.size],_,_,H1,rfl,j.kept (t':=g.toks) fun b o e=>bn _ e,zd a _,⟨_,cm _ rfl,rfl,rfl⟩,fun b D=>?_,q⟩;have e:b=g.heap.objs.size:=by simpa using D
 subst e;exact j.fpOk (aC _) (j.hok.fresh (aC _))
def tFor(p:TI)(g:TG)(tb:TS):TS:=fun D σ H=>p σ H fun J H1=>∃W:Nat->Nat->St->Hp->Prop,(∃m,W 0 m σ H1)/\∀i m σ H,W i m σ H->
 (J.stop i H/\D.nx σ H)\/(J.go i H/\∃N:St->Hp->Prop,(∀e H',N e H'->∃j,j < m/\W (i+1) j e H')/\∀x H',J.yld i H x H'->g x σ H' fun h q=>tb { D with nx:=N,ct:=N,bk:=D.nx } h q)
def r9(e:List aa)(h:bH):List (aa×dX):=e.filterMap fun b=>(h.get? b).map fun o=>(b,o)
theorem nI{g:List aa}{h:bH}{b:aa}{o:dX}(j:b∈g)(e:h.get? b=some o): (b,o)∈r9 g h:=o9.mpr ⟨b,j,by rw[e];rfl⟩
theorem BG{g:List aa}{h:bH}{p:aa×dX}(j:p∈r9 g h):p.1∈g/\h.get? p.1=some p.2:=by
 obtain⟨b,r,e⟩:=o9.mp j;cases q:h.get? b with
 |none=>rw[q]at e;cases e
 |some o=>
  rw[q]at e;have u: (b,o)=p:=aB e;subst u;exact⟨r,q⟩
theorem Inv.pinned{pins:List (aa×dX)}{σ:St}{H:Hp}{s:ap}{g:List aa}(I:Inv X pins σ H s)(u:∀b∈g,uf X pins H b)(r:∀b∈g,∃o,s.heap.get? b=some o/\∀v,o.data≠ .cell v):Inv X (pins++r9 g s.heap) σ H s:=
 I.pins_of fun p q=>(aT.mp q).elim (fun z=>I.pin p (aM _ z)) fun z=>by
  obtain⟨h,e⟩:=BG z;obtain⟨B,y,x,_⟩:=u p.1 h;obtain⟨o,j,d⟩:=r p.1 h;rw[e]at j;cases j;exact⟨e,B,y,x,d⟩
theorem Inv.unpinned{pins pl:List (aa×dX)}{σ:St}{H:Hp}{s:ap}(I:Inv X (pins++pl) σ H s):Inv X pins σ H s:=I.pins_of fun p e=>I.pin p (aM _ (aH _ e))
theorem Dk{z:c7}{M:List ck}{wi:TI}{g:TG}{tb:TS}{pos:lK}(Y:qu (bj X.prog X.w) X.A X.env X.xe)(hc:X.calm=true)(hi:PI X tg z wi)(hg:PG X tg g)(B:PSs X M tb)
  (hs:∀x,t7 z X.env x=pure x:=by intro _;rfl):PS X (.For tg z M [] pos) (tFor wi g tb):=by
 intro pins s σ H D I h;refine wpAny_For (fe (hi pins s σ H _ I h) fun v s1 h1=>fe h1 fun itv s2 h2=>?_) hs;obtain⟨it,fp,tn,J,H2,e,I2,T,st2,f2,W,⟨m0,w0⟩,R⟩:=h2;subst e
 -- what stays true of the iterator's objects through the loop
 have y:∀ {H':Hp},(∀b∈fp,H' b=none)->∀b∈fp,uf X pins H' b:=fun hn b B=>⟨hn b B,(f2 b B).2⟩;refine codeAny_forLoop_any (fun n s'=>∃i q H',Inv X pins q H' s'/\tn i s'.heap/\(∀b∈fp,H' b=none)/\W i n q H') ?_ m0 ⟨0,σ,H2,I2,st2,fun b B=>(f2 b B).1,w0⟩;rintro n s3 ⟨i,p,H3,I3,S,Z,w3⟩;rcases R i n p H3 w3 with⟨stop,qn⟩ | ⟨go,N,hN,step⟩
 ·refine fA Y (fe (T.done X rfl rfl rfl hc i pins s3 p H3 X.xe I3 (y Z) S stop) fun r s4 ⟨hr,I4⟩=>?_);subst hr;exact oh ⟨p,H3,I4,qn⟩
 ·refine fA Y (fe (T.item X rfl rfl rfl hc i pins s3 p H3 X.xe I3 (y Z) S go) fun r s4 ⟨u,hr,h4⟩=>?_);subst hr;refine fA Y (fe h4 fun _ s5 Q=>?_);obtain⟨x,H5,I5,r5,y5,O,fr5⟩:=Q;have I5':=I5.pinned (y fr5) (T.obj _ _ O);refine fA Y (fe (hg _ s5 p H5 x u _ I5' r5 (step x H5 y5)) fun _ s6 Q=>?_);obtain⟨σ6,H6,I6,q6⟩:=Q;refine fA Y (fe (B _ s6 σ6 H6 _ I6 q6) fun f s7 G=>?_);have C:∀ {j:St} {F:Hp},Inv X (pins++r9 fp s5.heap) j F s7->N j F->∃m,m < n/\∃i q H',Inv X pins q H' s7/\tn i s7.heap/\(∀b∈fp,H' b=none)/\W i m q H':=fun {j F} E U=>by
   obtain⟨m',hm,w7⟩:=hN j F U;refine⟨m',hm,i+1,j,F,E.unpinned,T.keep _ _ _ O fun b B o e=>(E.pin (b,o) (aM _ (aM _ (nI B e)))).1,fun b B=>?_,w7⟩;obtain⟨o,e,d⟩:=T.obj _ _ O b B;exact(E.pin (b,o) (aM _ (aM _ (nI B e)))).2.1
  cases f with
  |next=>obtain⟨j,F,E,U⟩:=G;exact C E U
  |cont=>obtain⟨j,F,E,U⟩:=G;exact C E U
  |brk=>obtain⟨j,F,E,G⟩:=G;exact⟨j,F,E.unpinned,G⟩
  |ret v=>obtain⟨x7,j,F,E,r7,G⟩:=G;exact⟨x7,j,F,E.unpinned,r7,G⟩
end
theorem Dl{K:PySem.W.Frag}{a:aa}{xs:List V}{g:TG}{tb:TS}{D:nH}{σ:St}{H:Hp}(h:Nat->St->Hp->Prop)(G:h 0 σ H)(E:∀i σ H,i<=xs.length->h i σ H->SqL K H a xs)
  (C:∀i x σ H,xs[i]? =some x->h i σ H->g x σ H fun j v=>tb { D with nx:=h (i+1),ct:=h (i+1),bk:=D.nx } j v) (hd:∀σ H,h xs.length σ H->D.nx σ H):
  ∃W:Nat->Nat->St->Hp->Prop,(∃m,W 0 m σ H)/\∀i m σ H,W i m σ H->
   ((Ht K a).stop i H/\D.nx σ H)\/((Ht K a).go i H/\∃N:St->Hp->Prop,(∀r H',N r H'->∃z,z < m/\W (i+1) z r H')/\∀x H',(Ht K a).yld i H x H'->g x σ H' fun j v=>tb { D with nx:=N,ct:=N,bk:=D.nx } j v):=by
 refine⟨fun i m σ H=>m=xs.length - i/\i<=xs.length/\h i σ H,⟨xs.length,by simp,cr _,G⟩,?_⟩;rintro i m σ H ⟨rfl,F,p⟩;have q:=E i σ H F p;by_cases u:i < xs.length
 ·refine .inr ⟨⟨xs,xs[i],q,by simp[u]⟩,h (i+1),fun r H' B=>⟨xs.length - (i+1),by lia,rfl,u,B⟩,fun x H' y=>?_⟩;obtain⟨e,y⟩:=y;subst e;exact C i x σ _ (y xs q) p
 ·have e:i=xs.length:=by lia
  subst e;exact .inl ⟨⟨xs,q,aC _⟩,hd σ H p⟩
theorem Fz{K:PySem.W.Frag}{a:aa}{xs:List V}{g:TG}{tb:TS}{D:nH}{σ:St}{H:Hp}(h:Nat->St->Hp->Prop)(G:h 0 σ H)(E:∀i σ H,i<=xs.length->h i σ H->SqT K H a xs)
  (C:∀i x σ H,xs[i]? =some x->h i σ H->g x σ H fun j v=>tb { D with nx:=h (i+1),ct:=h (i+1),bk:=D.nx } j v) (hd:∀σ H,h xs.length σ H->D.nx σ H):
  ∃W:Nat->Nat->St->Hp->Prop,(∃m,W 0 m σ H)/\∀i m σ H,W i m σ H->
   ((Ks K a).stop i H/\D.nx σ H)\/((Ks K a).go i H/\∃N:St->Hp->Prop,(∀r H',N r H'->∃z,z < m/\W (i+1) z r H')/\∀x H',(Ks K a).yld i H x H'->g x σ H' fun j v=>tb { D with nx:=N,ct:=N,bk:=D.nx } j v):=by
 refine⟨fun i m σ H=>m=xs.length - i/\i<=xs.length/\h i σ H,⟨xs.length,by simp,cr _,G⟩,?_⟩;rintro i m σ H ⟨rfl,F,p⟩;have q:=E i σ H F p;by_cases u:i < xs.length
 ·refine .inr ⟨⟨xs,xs[i],q,by simp[u]⟩,h (i+1),fun r H' B=>⟨xs.length - (i+1),by lia,rfl,u,B⟩,fun x H' y=>?_⟩;obtain⟨e,y⟩:=y;subst e;exact C i x σ _ (y xs q) p
 ·have e:i=xs.length:=by lia
  subst e;exact .inl ⟨⟨xs,q,aC _⟩,hd σ H p⟩
end L2
namespace L2
open PySem PySem.Spec PyProof.Rows
abbrev R2:=V->V->Hp->VK->Prop
def uP(X:Cx)(f:ag->ag->CQ ag)(r:R2):Prop:=
 ∀(pins:List (aa×dX)) (s:ap) (σ:St) (H:Hp) (x y:V) (v u:ag) (Q:VK),Inv X pins σ H s->RelV x v->RelV y u->r x y H Q->
  wpAny (bj X.prog X.w) X.A (f v u) (EP X pins σ Q) X.xe s
def UnR(X:Cx)(f:ag->CQ ag)(r:V->Hp->VK->Prop):Prop:=
 ∀(pins:List (aa×dX)) (s:ap) (σ:St) (H:Hp) (x:V) (v:ag) (Q:VK),Inv X pins σ H s->RelV x v->r x H Q->
  wpAny (bj X.prog X.w) X.A (f v) (EP X pins σ Q) X.xe s
def oA(X:Cx)(f:ag)(r:List V->Hp->VK->Prop):Prop:=
 ∀(pins:List (aa×dX)) (s:ap) (σ:St) (H:Hp) (xs:List V) (us:List ag) (Q:VK),Inv X pins σ H s->Vals xs us->r xs H Q->
  wpAny (bj X.prog X.w) X.A (call f us) (EP X pins σ Q) X.xe s
def JR(r:R2)(e tb:TE):TE:=fun σ H Q=>e σ H fun x H1=>tb σ H1 fun y g=>r x y g Q
def tUn(r:V->Hp->VK->Prop)(e:TE):TE:=fun σ H Q=>e σ H fun x H1=>r x H1 Q
def rI(C:Int->Int->Prop)(g:Int->Int->V):R2:=fun x y H Q=>∃i j,x= .int i/\y= .int j/\C i j/\Q (g i j) H
inductive PI0(g:Int->Int->V)(x y:V)(H:Hp)(Q:VK):Prop
 |mk (i j:Int) (h1:x= .int i) (h2:y= .int j) (k:Q (g i j) H):PI0 g x y H Q
def Ku(g:Int->Int->V):R2:=fun x y H Q=>PI0 g x y H Q
def rU(g:Int->V):V->Hp->VK->Prop:=fun x H Q=>∃i,x= .int i/\Q (g i) H
section
variable {X:Cx}{a b c:c7}{ta tb tc:TE}{pos:lK}
theorem Ir(G:PE X a ta)(F:PE X b tb){pins:List (aa×dX)}{s:ap}{σ:St}{H:Hp}{R:V->V->Hp->Prop}(I:Inv X pins σ H s)
  (h:ta σ H fun x H1=>tb σ H1 fun y g=>R x y g) {Q:ag->ap->Prop} {f:ag->ag->CQ ag}
  (E:∀v u q x y g,Inv X pins σ g q->RelV x v->RelV y u->R x y g->wpAny (bj X.prog X.w) X.A (f v u) Q X.xe q):
  wpAny (bj X.prog X.w) X.A (dr a X.env) (fun v p=>wpAny (bj X.prog X.w) X.A (dr b X.env) (fun u j=>wpAny (bj X.prog X.w) X.A (f v u) Q X.xe j) X.xe p) X.xe s:=by
 refine fe (G pins s σ H _ I h) fun v r e=>?_;obtain⟨x,H1,M,B,D⟩:=e;refine fe (F pins r σ H1 _ M D) fun u q e=>?_;obtain⟨y,g,J,z,C⟩:=e;exact E v u q x y g J B z C
theorem fU{op:yY}{r:R2}(p:uP X (t8 op) r)(B:PE X a ta)(z:PE X b tb):PE X (.BinOp a op b pos) (JR r ta tb):=by
 intro pins s σ H Q I h;exact wpAny_BinOp (Ir B z I h fun v u e x y D C j g q=>p pins e σ D x y v u Q C j g q)
theorem Hu{op:UnaryOp}{r:V->Hp->VK->Prop}(p:UnR X (unaryOp op) r)(q:PE X a ta):PE X (.UnaryOp op a pos) (tUn r ta):=by
 intro pins s σ H Q I h;exact UnaryOp_ (fe (q pins s σ H _ I h) fun v e ⟨x,H1,u,g,j⟩=>p pins e σ H1 x v Q u g j)
theorem opI{f:ag->ag->CQ ag}{C:Int->Int->Prop}{g:Int->Int->Int}
  (e:∀(i j:Int) (t u:Tok) (s:ap) (Q:ag->ap->Prop) (E:ag->ap->Prop),C i j->Q (.int (g i j) s.toks) { s with toks:=s.toks+1 } ->wpAny (bj X.prog X.w) X.A (f (.int i t) (.int j u)) Q E s):
  uP X f (rI C fun i j=> .int (g i j)):=by
 intro pins s σ H x y v u Q I z r h;obtain⟨i,j,rfl,rfl,B,q⟩:=h;obtain⟨t,rfl⟩:=z;obtain⟨p,rfl⟩:=r;exact e i j t p s _ _ B ⟨.int (g i j),H,I.tok _,⟨_,rfl⟩,q⟩
theorem opI0{f:ag->ag->CQ ag}{g:Int->Int->Int}
  (e:∀(i j:Int) (t u:Tok) (s:ap) (Q:ag->ap->Prop) (E:ag->ap->Prop),Q (.int (g i j) s.toks) { s with toks:=s.toks+1 } ->wpAny (bj X.prog X.w) X.A (f (.int i t) (.int j u)) Q E s):
  uP X f (Ku fun i j=> .int (g i j)):=by
 intro pins s σ H x y v u Q I z r h;obtain⟨i,j,rfl,rfl,q⟩:=h;obtain⟨t,rfl⟩:=z;obtain⟨p,rfl⟩:=r;exact e i j t p s _ _ ⟨.int (g i j),H,I.tok _,⟨_,rfl⟩,q⟩
theorem Kv{f:ag->ag->CQ ag}{g:Int->Int->Bool}
  (e:∀(i j:Int) (t u:Tok) (s:ap) (Q:ag->ap->Prop) (E:ag->ap->Prop),Q (.bool (g i j)) s->wpAny (bj X.prog X.w) X.A (f (.int i t) (.int j u)) Q E s):
  uP X f (Ku fun i j=> .bl (g i j)):=by
 intro pins s σ H x y v u Q I z r h;obtain⟨i,j,rfl,rfl,q⟩:=h;obtain⟨t,rfl⟩:=z;obtain⟨p,rfl⟩:=r;exact e i j t p s _ _ ⟨.bl (g i j),H,I,rfl,q⟩
def CDiv(i j:Int):Prop:=0 < j/\j < 1073741824
theorem lX:uP X (t8 .Add) (Ku fun i j=> .int (i+j)):=opI0 fun _ _ _ _ _ _ _ q=>add_int q
theorem FA:uP X (t8 .FloorDiv) (rI CDiv fun i j=> .int (i / j)):=opI fun i j _ _ _ _ _ e q=>by
 have h: (0:Int) < j:=e.1;have g:j < 1073741824:=e.2;exact floordiv_int (by lia) (by rw[Int.fdiv_eq_ediv_of_nonneg i (by lia)];exact q) (.inl (PyProof.noPylong_small (by lia)))
theorem Is:uP X (t8 .Mod) (rI (fun _ j=>0 < j) fun i j=> .int (i % j)):=opI fun i j _ _ _ _ _ e q=>by
 have g: (0:Int) < j:=e;exact mod_int' (by lia) (by rw[Int.fmod_eq_emod_of_nonneg i (by lia)];exact q)
theorem unI{f:ag->CQ ag}{g:Int->Int}
  (e:∀(i:Int) (t:Tok) (s:ap) (Q:ag->ap->Prop) (E:ag->ap->Prop),Q (.int (g i) s.toks) { s with toks:=s.toks+1 } ->wpAny (bj X.prog X.w) X.A (f (.int i t)) Q E s):
  UnR X f (rU fun i=> .int (g i)):=by
 intro pins s σ H x v Q I j h;obtain⟨i,rfl,q⟩:=h;obtain⟨t,rfl⟩:=j;exact e i t s _ _ ⟨.int (g i),H,I.tok _,⟨_,rfl⟩,q⟩
theorem Dm:UnR X (unaryOp .USub) (rU fun i=> .int (-i)):=unI fun _ _ _ _ _ q=>neg_int q
end
def Kw:V->V->Bool
 | .non, .non=>true| .non, .int _=>true| .int _, .non=>true| .non, .bl _=>true| .bl _, .non=>true| .non, .str _=>true| .str _, .non=>true
 | .int _, .int _=>true| .bl _, .bl _=>true| .str _, .str _=>true| .byt _, .byt _=>true
 | .int _, .str _=>true| .str _, .int _=>true| .bl _, .str _=>true| .str _, .bl _=>true
 |_,_=>false
def rEq:R2:=fun x y H Q=>Kw x y=true/\Q (.bl (decide (x=y))) H
def rNe:R2:=fun x y H Q=>Kw x y=true/\Q (.bl (!decide (x=y))) H
theorem Am{i j:Int} :decide (V.int i=V.int j)= (i == j):=by
 rw[iN];simp
theorem Dn{i j:Bool} :decide (V.bl i=V.bl j)= (i == j):=by
 rw[iN];simp
theorem rq{i j:aQ} :decide (V.str i=V.str j)= (i == j):=by
 rw[iN];simp
theorem An{i j:Array UInt8} :decide (V.byt i=V.byt j)= (i.toList == j.toList):=by
 rw[iN];cases i;cases j;simp
section
variable {X:Cx}{a b c:c7}{ta tb tc:TE}{pos:lK}
theorem dc{pins:List (aa×dX)}{σ:St}{H:Hp}{s:ap}{Q:VK}{k g:Bool}(I:Inv X pins σ H s)(q:Q (.bl k) H)(e:k=g):EP X pins σ Q (.bool g) s:=by
 subst e;exact⟨.bl k,H,I,rfl,q⟩
theorem dR:uP X (eR .Eq) rEq:=by
 intro pins s σ H x y v u Q I r e h;obtain⟨p,q⟩:=h;cases x with
 |non=>
  cases r;cases y with
  |non=>cases e;exact PySem.EqNone.eq_none_none (dc I q (by simp))
  |bl j=>cases e;exact PySem.EqNone.eq_none_bool (dc I q (by simp))
  |int j=>obtain⟨g,rfl⟩:=e;exact PySem.EqNone.eq_none_int (dc I q (by simp))
  |str j=>obtain⟨g,rfl⟩:=e;exact PySem.EqNone.eq_none_str (dc I q (by simp))
  |_=>exact absurd (show false=true from p) bq
 |bl i=>
  cases r;cases y with
  |non=>cases e;exact PySem.EqNone.eq_bool_none (dc I q (by simp))
  |bl j=>cases e;exact eq_bool (dc I q Dn)
  |str j=>obtain⟨g,rfl⟩:=e;exact PySem.EqMixed.eq_bool_str (dc I q (by simp))
  |_=>exact absurd (show false=true from p) bq
 |int i=>
  obtain⟨t,rfl⟩:=r;cases y with
  |non=>cases e;exact PySem.EqNone.eq_int_none (dc I q (by simp))
  |int j=>obtain⟨g,rfl⟩:=e;exact eq_int (dc I q Am)
  |str j=>obtain⟨g,rfl⟩:=e;exact PySem.EqMixed.eq_int_str (dc I q (by simp))
  |_=>exact absurd (show false=true from p) bq
 |str i=>
  obtain⟨t,rfl⟩:=r;cases y with
  |non=>cases e;exact PySem.EqNone.eq_str_none (dc I q (by simp))
  |bl j=>cases e;exact PySem.EqMixed.eq_str_bool (dc I q (by simp))
  |int j=>obtain⟨g,rfl⟩:=e;exact PySem.EqMixed.eq_str_int (dc I q (by simp))
  |str j=>obtain⟨g,rfl⟩:=e;exact eq_str (dc I q rq)
  |_=>exact absurd (show false=true from p) bq
 |byt i=>
  obtain⟨t,rfl⟩:=r;cases y with
  |byt j=>obtain⟨g,rfl⟩:=e;exact PySem.W.eq_bytes (dc I q An)
  |_=>exact absurd (show false=true from p) bq
 |_=>cases y<;>exact absurd (show false=true from p) bq
theorem Hv:uP X (eR .NotEq) rNe:=by
 intro pins s σ H x y v u Q I r e h;obtain⟨p,q⟩:=h;cases x with
 |non=>
  cases r;cases y with
  |non=>cases e;exact PySem.EqNone.ne_none_none (dc I q (by simp))
  |bl j=>cases e;exact PySem.EqNone.ne_none_bool (dc I q (by simp))
  |int j=>obtain⟨g,rfl⟩:=e;exact PySem.EqNone.ne_none_int (dc I q (by simp))
  |str j=>obtain⟨g,rfl⟩:=e;exact PySem.EqNone.ne_none_str (dc I q (by simp))
  |_=>exact absurd (show false=true from p) bq
 |bl i=>
  cases r;cases y with
  |non=>cases e;exact PySem.EqNone.ne_bool_none (dc I q (by simp))
  |bl j=>cases e;exact ne_bool (dc I q (qaf not Dn))
  |str j=>obtain⟨g,rfl⟩:=e;exact PySem.EqMixed.ne_bool_str (dc I q (by simp))
  |_=>exact absurd (show false=true from p) bq
 |int i=>
  obtain⟨t,rfl⟩:=r;cases y with
  |non=>cases e;exact PySem.EqNone.ne_int_none (dc I q (by simp))
  |int j=>obtain⟨g,rfl⟩:=e;exact ne_int (dc I q (qaf not Am))
  |str j=>obtain⟨g,rfl⟩:=e;exact PySem.EqMixed.ne_int_str (dc I q (by simp))
  |_=>exact absurd (show false=true from p) bq
 |str i=>
  obtain⟨t,rfl⟩:=r;cases y with
  |non=>cases e;exact PySem.EqNone.ne_str_none (dc I q (by simp))
  |bl j=>cases e;exact PySem.EqMixed.ne_str_bool (dc I q (by simp))
  |int j=>obtain⟨g,rfl⟩:=e;exact PySem.EqMixed.ne_str_int (dc I q (by simp))
  |str j=>obtain⟨g,rfl⟩:=e;exact ne_str (dc I q (qaf not rq))
  |_=>exact absurd (show false=true from p) bq
 |byt i=>
  obtain⟨t,rfl⟩:=r;cases y with
  |byt j=>obtain⟨g,rfl⟩:=e;exact PySem.W.ne_bytes (dc I q (qaf not An))
  |_=>exact absurd (show false=true from p) bq
 |_=>cases y<;>exact absurd (show false=true from p) bq
theorem lu:uP X (eR .Lt) (Ku fun i j=> .bl (decide (i < j))):=Kv fun _ _ _ _ _ _ _ q=>lt_int q
theorem lY:uP X (eR .Gt) (Ku fun i j=> .bl (decide (j < i))):=Kv fun _ _ _ _ _ _ _ q=>gt_int q
theorem Iu:uP X (eR .Is) (fun x y H Q=>y= .non/\Q (.bl (decide (x= .non))) H):=by
 intro pins s σ H x y v u Q I e g h;obtain⟨rfl,q⟩:=h;cases g;refine is_none_gen (dc I q ?_);cases x<;>first
  | (cases e;rfl)
  | (obtain⟨t,rfl⟩:=e;rfl)
theorem vP:uP X (eR .IsNot) (fun x y H Q=>y= .non/\Q (.bl (!decide (x= .non))) H):=by
 intro pins s σ H x y v u Q I e g h;obtain⟨rfl,q⟩:=h;cases g;refine isnot_none_gen (dc I q ?_);cases x<;>first
  | (cases e;rfl)
  | (obtain⟨t,rfl⟩:=e;rfl)
theorem bE(b:c7){op:CmpOp}(h:op≠ .In:=by decide)(e:op≠ .NotIn:=by decide):lL op b=false:=by
 have j: (op == CmpOp.In)=false:=by cases op<;>first|rfl|exact absurd rfl h
 have g: (op == CmpOp.NotIn)=false:=by cases op<;>first|rfl|exact absurd rfl e
 cases b<;>simp[lL,j,g]
theorem rs{op:CmpOp}{r:R2}(p:uP X (eR op) r)(C:PE X a ta)(B:PE X b tb)(z:lL op b=false):PE X (.Compare a [op] [b] pos) (JR r ta tb):=by
 intro pins s σ H Q I h;exact wpAny_Compare1 (Ir C B I h fun v u e x y E D j g q=>p pins e σ E x y v u Q D j g q) z
def Do(t:TE):TT:=fun σ H Q=>t σ H fun x H'=>PBl x H' Q
theorem bo{op:CmpOp}{r:R2}(F:uP X (eR op) r)(M:PE X a ta)(J:PE X b tb)(G:lL op b=false):PT X (.Compare a [op] [b] pos) (Do (JR r ta tb)):=by
 intro pins s σ H Q I h;refine EK (fe (M pins s σ H _ I h) fun v j ⟨x,H1,S,B,E⟩=>fe (J pins j σ H1 _ S E) fun u g ⟨y,W,R,q,D⟩=>
  fe (F pins g σ W x y v u _ R B q D) fun c Y ⟨z,U,O,p,k,e,C⟩=>?_) G
 subst e;cases p;exact il ⟨U,O,C⟩
theorem sb: (aO:Nat) < 2 ^ 63:=by rw[EV];decide
theorem eI:uP X (t8 .Add) (fun x y H Q=>∃i j,x= .str i/\y= .str j/\i.length+j.length<=aO/\Q (.str (i++j)) H):=by
 intro pins s σ H x y v u Q I p g h;obtain⟨i,j,rfl,rfl,r,q⟩:=h;obtain⟨t,rfl⟩:=p;obtain⟨e,rfl⟩:=g;exact add_str (fun e tk=>⟨.str (i++j),H,I.tok _,⟨_,rfl⟩,q⟩) r
theorem xt{x:V}{us:List ag}(r:Vals [x] us):∃u,us= [u]/\RelV x u:=by
 cases r with
 |cons r1 r2=>cases r2;exact⟨_,rfl,r1⟩
theorem vQ:oA X (.type "str") (fun xs H Q=>∃i,xs= [.int i]/\i.natAbs.log2 < 1920/\Q (.str (toString i)) H):=by
 intro pins s σ H xs us Q I r h;obtain⟨i,rfl,e,q⟩:=h;obtain⟨u,rfl,t,rfl⟩:=xt r;exact PySem.P.str_of_int e ⟨.str _,H,I.tok _,⟨_,rfl⟩,q⟩
theorem Dq:oA X (.builtin "ord") (fun xs H Q=>∃x,xs= [.str x]/\x.length=1/\Q (.int (x.cps.getD 0 0:Nat)) H):=by
 intro pins s σ H xs us Q I r h;obtain⟨x,rfl,e,q⟩:=h;obtain⟨u,rfl,t,rfl⟩:=xt r;exact ord_of_one e ⟨.int _,H,I.tok _,⟨_,rfl⟩,q⟩
end
end L2
namespace L2
open PySem PySem.Spec PyProof.Rows
structure ObjM(h:bH)(x dx C:aa)(mA:aQ->Option ag):Prop where
 obj:h.get? x=some (PySem.W.instObj C dx)
 ns:h.Ns1 dx mA
 ne:dx≠x
theorem BH{h:bH}{dx:aa}{j:aQ->Option ag}(n:h.Ns1 dx j):∃od,h.get? dx=some od/\∀name,PySem.W.lookIn name od=some (j name):=by
 obtain⟨o,p,C,u,hd,x,_,v⟩:=n;refine⟨o,u,fun name=>?_⟩;have e:=v name;unfold nsFind findBy at e;rw[<-Array.find?_toList]at e;unfold PySem.W.lookIn;rw[hd];dsimp only;split
 ·rename_i y q;rw[q]at e;exact qaf some e
 ·rename_i q;rw[q]at e;have a:p.toList.any (·.refKey)=false:=by
   rw[CS];intro y r;obtain⟨z,t,g⟩:=x y (Array.mem_toList_iff.mp r);simp[DictEntry.refKey,g]
  have B:¬p.toList.any (·.refKey)=true:=by rw[a];exact bq
  rw[qaa B];exact qaf some e
theorem ObjM.look{h:bH}{x dx C:aa}{e:aQ->Option ag}(I:ObjM h x dx C e):∃od,PySem.W.InstAt h x (PySem.W.instObj C dx) C (some od)/\∀name,PySem.W.lookIn name od=some (e name):=
 let⟨od,ho,hl⟩:=BH I.ns
 ⟨od,⟨I.obj,rfl,rfl,ho⟩,hl⟩
section
variable {prog:aZ}{w:bB}{A:cC}{E:ag->ap->Prop}{s:ap}{K:PySem.W.Frag}{x dx C f:aa}{mA:aQ->Option ag}{name:aQ}{v:ag}
theorem FC{e:Bool}{Q:ag->ap->Prop}(X:K.In s.heap)(I:ObjM s.heap x dx C mA)(r:PySem.W.plainGet K C name=true)(q:PySem.W.hasDictIn K C=true)
  (u:PySem.W.findIn K (.ref C) name=some none) (j:mA name=some v) (g:PySem.W.handedIn v=true) (h:Q v { s with toks:=s.toks+1 }):
  wpAny (bj prog w) A (getAttr (.ref x) name e) Q E s:=by
 obtain⟨od,J,p⟩:=I.look;exact PySem.W.get_value X J (PySem.W.plainGet_of r).1 (PySem.W.findObj_own q u rfl (by rw[p,j])) g h
theorem Dr{pl:CQ Bool}{Q:ag×List ag->ap->Prop}(X:K.In s.heap)(I:ObjM s.heap x dx C mA)(e:PySem.W.plainGet K C name=true)
  (q:PySem.W.findIn K (.ref C) name=some (some (.ref f))) (j:PySem.W.isFn K (.ref f)=true) (g:mA name=none) (h:Q (.ref f, [.ref x]) s):
  wpAny (bj prog w) A (mV (.ref x) name pl) Q E s:=by
 obtain⟨od,J,p⟩:=I.look;exact PySem.W.method_fn X J (PySem.W.plainGet_of e).1 (PySem.W.plainGet_of e).2 q (beq_iff_eq.mp j) (by show(PySem.W.lookIn name od).map (·.isSome)=some false;rw[p,g];rfl) h
theorem FD{ns:List aQ}{Q:Unit->ap->Prop}(X:K.In s.heap)(I:ObjM s.heap x dx C mA)
  (F:PySem.W.findIn K (.ref C) "__setattr__"=some (some (.builtin "object.__setattr__"))) (G:PySem.W.plainOver K C=true) (D:PySem.W.takerIn K C name=some none) (M:PySem.W.hasDictIn K C=true)
  (B:PySem.Within mA ns) (hsz:ns.length<=aO)
  (h:∀h',ObjM h' x dx C (fun y=>if y=name then some v else mA y)->qt dx s.heap h'->Q () { s with heap:=h',toks:=s.toks+2 }):
  wpAny (bj prog w) A (setAttr (.ref x) name v) Q E s:=by
 obtain⟨od,J,Y⟩:=I.look;refine PySem.W.set_plain X J F (PySem.W.osa_open (s:= { s with toks:=s.toks+1 }) (r:=none) X J G D fun b=>?_);obtain⟨cd,O,q⟩:=PySem.W.any_some M;have z:s.heap.get? x=some ⟨.ref C,some dx, .plain, #[]⟩:=I.obj;refine bc (cH (bc (bc (wpAny_loadPart z (bc (PySem.W.Looks.here (s:= { s with toks:=s.toks+1 }) (PySem.W.looks_clsIn X O) ?_))))));rw[q];refine cH (a:=some dx) (bc (cH (bc ?_)));refine wpAny_nsSet1 (s:= { s with toks:=s.toks+1 }) I.ns fun h' g e=>?_;obtain⟨U,R,S,j,p,u⟩:=g.count (PySem.Within.cons name v B);refine bc (wpAny_lookBehind j (by rw[p];exact pastItsLine_dict (cn u (by rw[ae];lia))) ?_);exact cH (h _ ⟨(e.2 _ (Ne.symm I.ne)).trans I.obj,g,I.ne⟩ e)
theorem Ds{R:Result->ap->Prop}{vs:List ag}{e:List (aQ×ag)}(X:K.In s.heap)(j:PySem.W.makesIn K C=true)
  (p:PySem.W.findIn K (.ref C) "__init__"=some (some (.ref f))) (q:PySem.W.typeIn K (.ref f)=some (.type "function"))
  (h:codeAny (bj prog w) (A.under (.builtin "type.__call__" ⟨.ref C::vs,e⟩)) (.call (.ref f) ⟨.ref (s.heap.objs.size+1)::vs,e⟩) (PySem.W.InitBack (s.heap.objs.size+1) R)
   { s with heap:=(s.heap.push PySem.W.emptyDict).push (PySem.W.instObj C s.heap.objs.size) }):
  codeAny (bj prog w) A (.call (.ref C) ⟨vs,e⟩) R s:=by
 obtain⟨r,g,d,t,os⟩:=s;exact PySem.W.make_core (PySem.W.makes_of X j) (PySem.W.looks_findIn X p) (fun self=>PySem.W.bind_fn X self q) (.inl rfl) h
end
def fV(f:aQ)(v:V):List (aQ×V)->List (aQ×V)
 | []=> [(f,v)]
 | (g,x)::r=>if g=f then(g,v)::r else(g,x)::fV f v r
theorem qz(f g:aQ)(v:V):∀fs:List (aQ×V),(fV f v fs).lookup g=if g=f then some v else fs.lookup g
 | []=>by
  show fH g [(f,v)]=_;by_cases h:g=f
  ·have j: (g == f)=true:=beq_iff_eq.mpr h;simp only[fH,j,qab h]
  ·have j: (g == f)=false:=qae.mpr h;simp only[fH,j,qaa h]
 | (k,x)::r=>by
  have q:=qz f g v r;rw[show fV f v ((k,x)::r)= (if k=f then(k,v)::r else(k,x)::fV f v r)from rfl];by_cases p:k=f
  ·rw[qab p];by_cases h:g=k
   ·have j: (g == k)=true:=beq_iff_eq.mpr h;simp only[fH,j,qab (h.trans p)]
   ·have j: (g == k)=false:=qae.mpr h;simp only[fH,j,qaa (fun e:g=f=>h (e.trans p.symm))]
  ·rw[qaa p];by_cases h:g=k
   ·have j: (g == k)=true:=beq_iff_eq.mpr h;simp only[fH,j,qaa (fun e:g=f=>p (h.symm.trans e))]
   ·have j: (g == k)=false:=qae.mpr h;simp only[fH,j];exact q
theorem pC(f:aQ)(v:V):∀fs:List (aQ×V),f∈(fV f v fs).map (·.1)/\∀g,g∈fs.map (·.1)->g∈(fV f v fs).map (·.1)
 | []=>⟨by simp[fV],fun g h=>by simp at h⟩
 | (k,x)::r=>by
  obtain⟨q,p⟩:=pC f v r;rw[show fV f v ((k,x)::r)= (if k=f then(k,v)::r else(k,x)::fV f v r)from rfl];by_cases j:k=f
  ·rw[qab j];subst j;exact⟨by simp,fun g h=>by simpa using h⟩
  ·rw[qaa j];refine⟨?_,fun g h=>?_⟩
   ·rw[bg];exact ak _ q
   ·rw[bg]at h ⊢;rcases am.mp h with e|e
    ·exact am.mpr (.inl e)
    ·exact ak _ (p g e)
theorem qA(f:aQ)(v:V):∀fs:List (aQ×V),(fV f v fs).length<=fs.length+1
 | []=>by simp[fV]
 | (k,x)::r=>by
  have g:=qA f v r;rw[show fV f v ((k,x)::r)= (if k=f then(k,v)::r else(k,x)::fV f v r)from rfl];by_cases e:k=f
  ·rw[qab e,ae,ae];lia
  ·rw[qaa e,ae,ae];lia
theorem RelO.some_of{v:V}{o:Option ag}(r:RelO (some v) o):∃u,o=some u/\RelV v u:=by
 cases o with
 |none=>exact(show False from r).elim
 |some u=>exact⟨u,rfl,r⟩
theorem RelO.none_of{o:Option ag}(r:RelO none o):o=none:=by
 cases o with
 |none=>rfl
 |some u=>exact(show False from r).elim
theorem BI{v:V}{u:ag}(r:RelV v u):PySem.W.handedIn u=true:=by
 cases v with
 |non=>cases(show u=gq from r);rfl
 |bl b=>cases(show u=jm b from r);rfl
 |int i=>obtain⟨t,e⟩:=(show ∃t,u=jk i t from r);cases e;rfl
 |str x=>obtain⟨t,e⟩:=(show ∃t,u=qV x t from r);cases e;rfl
 |byt b=>obtain⟨t,e⟩:=(show ∃t,u=JD b t from r);cases e;rfl
 |flt b=>obtain⟨t,e⟩:=(show ∃t,u=JE b t from r);cases e;rfl
 |ref a=>cases(show u=bU a from r);rfl
 |ty n=>cases(show u=JU n from r);rfl
section
variable {P:aZ}{w:bB}{H H':Hp}{h h':bH}{a C dx:aa}{fs fs':List (aQ×V)}
theorem vR(hok:HOk P w H h)(e:H a=some (.ins C dx fs)):∃g,ObjM h a dx C g/\(∀f,RelO (fs.lookup f) (g f))/\PySem.Within g (fs.map (·.1))/\fs.length<=1000/\H dx=some (.own a):=by
 obtain⟨d,z,ne,j,g,n,r,q⟩:=(show ObjOk P w H h a (.ins C dx fs)from hok a _ e);exact⟨g,⟨j,n,ne⟩,r,q,z,d⟩
end
structure Cls(K:PySem.W.Frag)(C:aa):Prop where
 pg:PySem.W.plainGet K C ol=true
 hd:PySem.W.hasDictIn K C=true
 po:PySem.W.plainOver K C=true
 sa:PySem.W.findIn K (.ref C) "__setattr__"=some (some (.builtin "object.__setattr__"))
theorem Cls.get{K:PySem.W.Frag}{C:aa}(c:Cls K C)(f:aQ):PySem.W.plainGet K C f=true:=c.pg
def NoAttr(K:PySem.W.Frag)(C:aa)(f:aQ):Prop:=PySem.W.findIn K (.ref C) f=some none
theorem NoAttr.taker{K:PySem.W.Frag}{C:aa}{f:aQ}(n:NoAttr K C f):PySem.W.takerIn K C f=some none:=by
 unfold PySem.W.takerIn;rw[show PySem.W.findIn K (.ref C) f=some none from n];rfl
structure BJ(K:PySem.W.Frag)(C:aa)(m:aQ)(f:aa):Prop where
 at_:PySem.W.findIn K (.ref C) m=some (some (.ref f))
 fn:PySem.W.isFn K (.ref f)=true
 kp:PySem.W.keepIn K (.ref f)=true
section
variable {X:Cx}{pins:List (aa×dX)}{σ:St}{H:Hp}{s:ap}{a C dx:aa}{fs:List (aQ×V)}{f:aQ}{v:V}{A:cC}{E:ag->ap->Prop}
theorem sd{b:Bool}{Q:ag->ap->Prop}(I:Inv X pins σ H s)(e:H a=some (.ins C dx fs))(c:Cls X.K C)(n:NoAttr X.K C f)(l:fs.lookup f=some v)
  (h:∀u g,Inv X pins σ H g->RelV v u->Q u g):wpAny (bj X.prog X.w) A (getAttr (.ref a) f b) Q E s:=by
 obtain⟨p,O,r,_,_,_⟩:=vR I.hok e;obtain⟨u,q,j⟩:=RelO.some_of (v:=v) (o:=p f) (by rw[<-l];exact r f);exact FC I.kIn O (c.get f) c.hd n q (BI j) (h u _ (I.tok _) j)
theorem nJ{m:aQ}{g:aa}{pl:CQ Bool}{Q:ag×List ag->ap->Prop}(I:Inv X pins σ H s)(e:H a=some (.ins C dx fs))(c:Cls X.K C)(k:BJ X.K C m g)(l:fs.lookup m=none)
  (h:Q (.ref g, [.ref a]) s):wpAny (bj X.prog X.w) A (mV (.ref a) m pl) Q E s:=by
 obtain⟨j,O,r,_,_,_⟩:=vR I.hok e;have p:j m=none:=RelO.none_of (by rw[<-l];exact r m);exact Dr I.kIn O (c.get m) k.at_ k.fn p h
theorem se{y:V}{u:ag}{Q:Unit->ap->Prop}(I:Inv X pins σ H s)(e:H a=some (.ins C dx fs))(c:Cls X.K C)(n:NoAttr X.K C f)(S:fs.length < 1000)(G:RelV y u)
  (h:∀v,Inv X pins σ (dJ H a (.ins C dx (fV f y fs))) v->Q () v):wpAny (bj X.prog X.w) A (setAttr (.ref a) f u) Q E s:=by
 obtain⟨B,O,r,p,_,D⟩:=vR I.hok e;have J: (fs.map (·.1)).length<=aO:=by rw[ah,EV];lia
 refine FD I.kIn O c.sa c.po n.taker c.hd p J fun h' j F=>h _ ?_;have hd:∃o,h'.get? dx=some o:=let⟨o,_,_,e',_⟩:=j.ns;⟨o,e'⟩;refine I.write (x:=a) (e:=dx) (by rw[e];exact True.intro) (.inr D) (fun b q R z=>(F.2 b R).trans z) hd ?_;refine⟨by rw[aY O.ne];exact D,?_,O.ne,j.obj,_,j.ns,fun g=>?_,fun g M=>?_⟩
 ·have:=qA f y fs;lia
 ·show RelO ((fV f y fs).lookup g) (if g=f then some u else B g);rw[qz];by_cases q:g=f
  ·rw[qab q,qab q];exact G
  ·rw[qaa q,qaa q];exact r g
 ·by_cases q:g=f
  ·rw[q];exact(pC f y fs).1
  ·refine(pC f y fs).2 g (p g fun z=>M ?_);show(if g=f then some u else B g)=none;rw[qaa q];exact z
theorem Inv.made(I:Inv X pins σ H s):Inv X pins σ (dJ (dJ H s.heap.objs.size (.own (s.heap.objs.size+1))) (s.heap.objs.size+1) (.ins C s.heap.objs.size []))
  { s with heap:=(s.heap.push PySem.W.emptyDict).push (PySem.W.instObj C s.heap.objs.size) } :=by
 have g: (s.heap.push PySem.W.emptyDict).get? s.heap.objs.size=some PySem.W.emptyDict:=cm s.heap rfl;have r: ((s.heap.push PySem.W.emptyDict).push (PySem.W.instObj C s.heap.objs.size)).get? (s.heap.objs.size+1)=some (PySem.W.instObj C s.heap.objs.size):=by
  have:=cm (s.heap.push PySem.W.emptyDict) (o:=PySem.W.instObj C s.heap.objs.size) rfl
  rwa [dq]at this
 have p: (s.heap.push PySem.W.emptyDict).Ns s.heap.objs.size (fun _=>none):=⟨PySem.W.emptyDict, #[],_,g,rfl,(fun e j=>absurd j (by simp)),fun _=>rfl⟩;have v:=I.laid (a:=s.heap.objs.size) (o:= .own (s.heap.objs.size+1)) (h':=s.heap.push PySem.W.emptyDict) (t':=s.toks) (fun b u q=>bn _ q) (aC _) ⟨_,g⟩;refine v.laid (a:=s.heap.objs.size+1) (o:= .ins C s.heap.objs.size []) (t':=s.toks) (fun b u q=>bn _ q) (jn (dq _ _)) ?_;have ne:s.heap.objs.size≠s.heap.objs.size+1:=db (cS _);refine⟨by rw[aY ne,aU],cr _,ne,r,fun _=>none,(Heap.Ns1.of_empty p).at fun o q=>bn _ q,fun _=>True.intro,fun y h=>absurd rfl h⟩
theorem FE{prog:aZ}{w:bB}{env:m4}{e:c7}{f:aQ}{j:lK}{s:ap}{Q:ag->ap->Prop}(p:fI e f env (dr e env)=dr e env)
  (h:wpAny (bj prog w) A (dr e env) (fun o g=>wpAny (bj prog w) A (getAttr o f true) Q E g) E s):wpAny (bj prog w) A (dr (.Attribute e f j) env) Q E s:=
 Attribute_any_ h (by rw[arm_eval_Attribute,p])
end
inductive Kx(K:PySem.W.Frag)(f:aQ)(x:V)(H1:Hp)(Q:VK):Prop
 |mk (a C dx:aa) (fs:List (aQ×V)) (v:V) (h1:x= .ref a) (h2:H1 a=some (.ins C dx fs)) (h3:Cls K C) (h4:NoAttr K C f) (h5:fs.lookup f=some v) (k:Q v H1):Kx K f x H1 Q
def Kz(K:PySem.W.Frag)(e:TE)(f:aQ):TE:=fun σ H Q=>e σ H fun x H1=>Kx K f x H1 Q
def sFld(K:PySem.W.Frag)(g tv:TE)(f:aQ):TS:=fun D σ H=>tv σ H fun y H1=>g σ H1 fun x e=>∃a C dx fs,x= .ref a/\e a=some (.ins C dx fs)/\Cls K C/\NoAttr K C f/\fs.length < 1000/\
 D.nx σ (dJ e a (.ins C dx (fV f y fs)))
def KA(X:Cx)(op:yY)(rd:V->V->Hp->VK->Prop):Prop:=
 ∀(pins:List (aa×dX)) (s:ap) (σ:St) (H:Hp) (x y:V) (u v:ag) (Q:VK),Inv X pins σ H s->RelV x u->RelV y v->rd x y H Q->wpAny (bj X.prog X.w) X.A (JX op u v) (EP X pins σ Q) X.xe s
def FF(K:PySem.W.Frag)(j tv:TE)(rd:V->V->Hp->VK->Prop)(f:aQ):TS:=fun D σ H=>j σ H fun x H1=>∃a C dx fs v,x= .ref a/\H1 a=some (.ins C dx fs)/\Cls K C/\NoAttr K C f/\fs.lookup f=some v/\
 tv σ H1 fun y p=>rd v y p fun z h=>∃g e,h a=some (.ins C g e)/\e.length < 1000/\D.nx σ (dJ h a (.ins C g (fV f z e)))
section
variable {X:Cx}{o e value:c7}{f:aQ}{pos pos' tpos:lK}{ta tv:TE}
theorem cp(r:PE X e ta)(y:fI e f X.env (dr e X.env)=dr e X.env):PE X (.Attribute e f pos) (Kz X.K ta f):=by
 intro pins s σ H Q I h;refine FE y (fe (r pins s σ H _ I h) fun u G g=>?_);obtain⟨x,H1,D,j,a,C,dx,fs,v,ex,z,c,n,l,q⟩:=g;subst ex;obtain rfl:u=bU a:=j;exact sd D z c n l fun E F B p=>⟨v,H1,B,p,q⟩
theorem d4(B:PE X o ta)(v:PE X value tv)(z:Cy value (some (.Attribute o f pos')) pos.line X.env=pure false):PS X (.Assign [.Attribute o f pos'] value pos) (sFld X.K ta tv f):=by
 intro pins s σ H D I h;refine plainObj_wpAny_Assign_Attribute (fe (v pins s σ H _ I h) fun u e ⟨y,H1,J,g,q⟩=>fe (B pins e σ H1 _ J q) fun r O ⟨x,Q,G,j,a,C,dx,fs,ex,E,c,n,l,p⟩=>?_) z;subst ex;obtain rfl:r=bU a:=j;exact se G E c n l g fun M F=>⟨σ,_,F,p⟩
theorem pD{op:yY}{rd:V->V->Hp->VK->Prop}(W:PE X o ta)(U:PE X value tv)(j:KA X op rd):PS X (.AugAssign (.Attribute o f tpos) op value pos) (FF X.K ta tv rd f):=by
 intro pins s σ H D I h;refine wpAny_AugAssign_AttributeAny (fe (W pins s σ H _ I h) fun R s1 e=>?_);obtain⟨x,H1,I1,J,a,C,dx,fs,v,ex,Z,c,n,l,q⟩:=e;subst ex;obtain rfl:R=bU a:=J;refine sd I1 Z c n l fun u E I2 M=>fe (U pins E σ H1 _ I2 q) fun r B g=>?_;obtain⟨y,H2,I3,G,Q⟩:=g;refine fe (j pins B σ H2 v y u r _ I3 M G Q) fun w4 s4 e=>?_;obtain⟨z,H3,I4,F,dx',Y,p,S,O⟩:=e;exact se I4 p c n S F fun s5 I5=>⟨σ,_,I5,O⟩
def rAdd:V->V->Hp->VK->Prop:=fun x y H Q=>∃i j,x= .int i/\y= .int j/\Q (.int (i+j)) H
theorem ze:KA X .Add rAdd:=by
 rintro pins s σ H x y u v Q I h g ⟨i,j,rfl,rfl,q⟩;obtain⟨t,rfl⟩:=(show ∃t,u=jk i t from h);obtain⟨e,rfl⟩:=(show ∃e,v=jk j e from g);exact EL ⟨.int (i+j),H,I.tok _,⟨_,rfl⟩,q⟩
theorem Hw{pl:CQ Bool}{m:aQ}{j:lK}{args:List c7}{pins:List (aa×dX)}{s:ap}{σ:St}{H:Hp}{Q:ag->ap->Prop}{r:TE}(B:PE X e r)(I:Inv X pins σ H s)
  (h:r σ H fun x H1=>∃a C dx fs g,x= .ref a/\H1 a=some (.ins C dx fs)/\Cls X.K C/\BJ X.K C m g/\fs.lookup m=none/\
   ∀p,Inv X pins σ H1 p->wpAny (bj X.prog X.w) X.A (pi pos (.ref g) [.ref a] (eB pos (bu args X.env)) (pj pos (jo [] X.env))) Q X.xe p)
  (z:dr (.Call (.Attribute e m j) args [] pos) X.env= (do
   let ov <-dr e X.env
   yN j.atName
   let(f,first) <-yO [ov] (mV ov m pl)
   pi pos f first (eB pos (bu args X.env)) (pj pos (jo [] X.env)))):
  wpAny (bj X.prog X.w) X.A (dr (.Call (.Attribute e m j) args [] pos) X.env) Q X.xe s:=by
 refine PySem.W.methodCall_KW (pl:=pl) (fe (B pins s σ H _ I h) fun u p ⟨x,H1,v,y,a,C,dx,fs,g,ex,D,c,k,l,q⟩=>?_) z;subst ex;obtain rfl:u=bU a:=y;exact nJ v D c k l (q p v)
end
end L2
namespace L2
open PySem PySem.Spec PyProof.Rows
structure Room(k:Nat)(A:cC):Prop where
 hd:A.handled=none
 dp:A.depth+3*k+5 < recursionLimit
 un:A.units+16*k+200 < rm
theorem Room.mono{j k:Nat}{A:cC}(r:Room k A)(h:j<=k):Room j A:=⟨r.hd,by have:=r.dp;lia,by have:=r.un;lia⟩
theorem Room.deeper{k:Nat}{A:cC}(r:Room (k+1) A)(env:m4):Room k (A.deeper env):=
 ⟨r.hd,by have:=r.dp;show A.depth+1+3*k+5 < _;lia,by have:=r.un;show A.units+3+16*k+200 < _;lia⟩
theorem zf{A:cC}{C:aa}{us:List ag}{e:List (aQ×ag)} : (A.under (.builtin "type.__call__" ⟨.ref C::us,e⟩)).depth=A.depth+1:=by
 first|rfl|simp[wV,Code.weight,Code.isCreation,Code.isGuard,Code.isCaller,JZ,yP,guardIds]
theorem zg{A:cC}{C:aa}{us:List ag}{e:List (aQ×ag)} : (A.under (.builtin "type.__call__" ⟨.ref C::us,e⟩)).units=A.units+1:=by
 first|rfl|simp[wV,Code.cUnits,JZ,yP]
theorem Room.make{k:Nat}{A:cC}(r:Room (k+1) A)(C:aa)(us:List ag)(e:List (aQ×ag)):Room k (A.under (.builtin "type.__call__" ⟨.ref C::us,e⟩)):=
 ⟨r.hd,by have:=r.dp;rw[zf];lia,by have:=r.un;rw[zg];lia⟩
theorem Room.depth{k:Nat}{A:cC}(r:Room k A):A.depth < recursionLimit:=by have:=r.dp;lia
theorem Room.units{k:Nat}{A:cC}(r:Room k A):A.units+64 < rm:=by have:=r.un;lia
def tNil:TA:=fun _ H Q=>Q [] H
def ie(e:TE)(tr:TA):TA:=fun σ H Q=>e σ H fun x H1=>tr σ H1 fun xs g=>Q (x::xs) g
section
variable {X:Cx}{e:c7}{es:List c7}{te:TE}{t:TA}{pos:lK}
theorem ao:PA X [] tNil:=fun _ _ _ _ H Q I h=>Cz ⟨[],H,I, .nil,h⟩
theorem ac(C:PE X e te)(B:PA X es t)(z:bu (e::es) X.env= (false,dr e X.env)::bu es X.env:=by rfl):PA X (e::es) (ie te t):=by
 intro g pins s σ H Q I h;rw[z];show wpAny _ _ (spliced ((false,dr e X.env)::eB g (bu es X.env))) _ _ s;refine Bk (fe (C pins s σ H _ I h) fun u p j=>?_);obtain⟨x,H1,E,r,y⟩:=j;exact fe (B g pins p σ H1 _ E y) fun us G ⟨xs,F,D,q,v⟩=>⟨x::xs,F,D, .cons r q,v⟩
def KB(t:TA):TE:=fun σ H Q=>t σ H fun xs H1=>xs.length<=aO/\∀p,H1 p=none->Q (.ref p) (dJ H1 p (.tup xs))
def tLst(t:TA):TE:=fun σ H Q=>t σ H fun xs H1=>xs.length<=aO/\∀p,H1 p=none->Q (.ref p) (dJ H1 p (.lst xs))
theorem kA{x1}(h:PA X es t):PE X (.Tuple es x1 pos) (KB t):=by
 intro pins s σ H Q I p;refine wpAny_Tuple_spliced (fe (h pos pins s σ H _ I p) fun us g ⟨xs,H1,j,r,z,q⟩=>⟨by rw[<-r.length];exact z,?_⟩);have v:H1 g.heap.objs.size=none:=j.hok.fresh (aC _);refine⟨.ref g.heap.objs.size,dJ H1 g.heap.objs.size (.tup xs),j.laid (t':=g.toks) (fun b u e=>bn _ e) (aC _) ?_,rfl,q _ v⟩;exact⟨z,us,r,⟨_,cm _ rfl,rfl,_,rfl⟩⟩
theorem iq(h:PA X es t):PE X (.List es pos) (tLst t):=by
 intro pins s σ H Q I p;refine wpAny_List_spliced (fe (h pos pins s σ H _ I p) fun us g ⟨xs,H1,j,r,z,q⟩=>⟨by rw[<-r.length];exact z,?_⟩);have v:H1 g.heap.objs.size=none:=j.hok.fresh (aC _);refine⟨.ref g.heap.objs.size,dJ H1 g.heap.objs.size (.lst xs),j.laid (t':=g.toks) (fun b u e=>bn _ e) (aC _) ?_,rfl,q _ v⟩;exact⟨z,us,0,r,cm _ rfl⟩
end
abbrev Sp:=List V->Hp->VK->XK->Prop
abbrev CXT:=List m4->Hp->ap->XK->ag->ap->Prop
structure Env0(P:aZ)(w:bB)(K:PySem.W.Frag)(mg:aQ->Option ag)(base:bH)(A:cC)(outer:List m4)(s:ap)(H:Hp):Prop where
 frames:A.frames=some outer
 mod:Mod K mg base
 bs:∀b o,base.get? b=some o->s.heap.get? b=some o/\H b=none
 bsz:base.objs.size<=s.heap.objs.size
 funs:s.heap.FunFrames base outer
 frf:∀b∈iS outer,H b=none
 hok:HOk P w H s.heap
 bare:qr s.gens
def CE(outer:List m4)(P:aZ)(w:bB)(H:Hp)(s:ap)(Q:VK)(u:ag)(e:ap):Prop:=
 ∃v H',e.os=s.os/\qr e.gens/\Un (iS outer) [] H H' s.heap e.heap/\HOk P w H' e.heap/\RelV v u/\Q v H'
def CR(CX:CXT)(outer:List m4)(P:aZ)(w:bB)(H:Hp)(s:ap)(Q:VK)(E:XK)(r:Result)(g:ap):Prop:=
 match r with
 | .ok (.ret u)=>CE outer P w H s Q u g
 | .ok _=>False
 | .error e=>CX outer H s E e g
structure lZ(P:aZ)(w:bB)(K:PySem.W.Frag)(mg:aQ->Option ag)(base:bH)(CX:CXT)(k:Nat)(f:aa)(fd:gc)(ps:List aQ)(sp:Sp):Prop where
 len:∀vs H Q E,sp vs H Q E->vs.length=ps.length
 run:∀(A:cC) (outer:List m4) (s:ap) (H:Hp) (args:Args) (us:List ag) (vs:List V) (Q:VK) (E:XK),Room k A->Env0 P w K mg base A outer s H->CT s fd args (ps.zip us)->Vals vs us->sp vs H Q E->
  codeAny (bj P w) A (.call (.ref f) args) (CR CX outer P w H s Q E) s
theorem Env0.make{P:aZ}{w:bB}{K:PySem.W.Frag}{mg:aQ->Option ag}{base:bH}{A:cC}{outer:List m4}{s:ap}{H:Hp}(e:Env0 P w K mg base A outer s H)(C:aa)(us:List ag)(g:List (aQ×ag)):
  Env0 P w K mg base (A.under (.builtin "type.__call__" ⟨.ref C::us,g⟩)) outer s H:=⟨by first|exact e.frames| (simpa[wV,Code.envs,yP,pushEnvs]using e.frames),e.mod,e.bs,e.bsz,e.funs,e.frf,e.hok,e.bare⟩
section
variable {X:Cx}{pins:List (aa×dX)}{σ:St}{H:Hp}{s s':ap}
theorem Inv.env0(I:Inv X pins σ H s):Env0 X.prog X.w X.K X.mg X.base X.A X.stack s H:=
 ⟨I.ok.frames,I.ok.mod,I.bs,cn I.ok.bsz I.sz,I.stack,I.stkFree,I.hok,I.bare⟩
theorem Inv.after{Q:VK}{u:ag}(I:Inv X pins σ H s)(h:CE X.stack X.prog X.w H s Q u s'):EP X pins σ Q u s':=by
 obtain⟨v,H',os,bare,un,hok,r,q⟩:=h;obtain⟨j,g,d,t,e⟩:=s';obtain rfl:e=s.os:=os;exact⟨v,H',I.call (h':=j) (g':=g) (d':=d) (t':=t) (ch:= []) un hok bare (fun b z=>absurd z (by simp)),r,q⟩
end
def sf(sp:Sp)(e:List V)(E:XK)(t:TA):TE:=fun σ H Q=>t σ H fun vs H1=>sp (vs++e) H1 Q E
inductive Hx(C:aa)(m:aQ)(sp:Sp)(dvs:List V)(E:XK)(t:TA)(σ:St)(x:V)(H1:Hp)(Q:VK):Prop
 |mk (a dx:aa) (fs:List (aQ×V)) (h1:x= .ref a) (h2:H1 a=some (.ins C dx fs)) (h3:fs.lookup m=none) (k:t σ H1 fun vs H2=>sp (x::(vs++dvs)) H2 Q E):Hx C m sp dvs E t σ x H1 Q
def Ao(C:aa)(m:aQ)(sp:Sp)(e:List V)(E:XK)(g:TE)(t:TA):TE:=fun σ H Q=>g σ H fun x H1=>Hx C m sp e E t σ x H1 Q
def uQ(C:aa)(sp:Sp)(e:List V)(E:XK)(t:TA):TE:=fun σ H Q=>t σ H fun vs H1=>∀x dx,H1 x=none->H1 dx=none->dx≠x->
 sp (.ref x::(vs++e)) (dJ (dJ H1 dx (.own x)) x (.ins C dx [])) (fun v g=>v= .non/\Q (.ref x) g) E
def Binds(K:PySem.W.Frag)(fd:gc)(e:List aQ)(g:List ag):Prop:=
 ∀(s:ap) (us:List ag),K.In s.heap->(us++g).length=e.length->CT s fd ⟨us, []⟩ (e.zip (us++g))
theorem Binds.all{K:PySem.W.Frag}{fd:gc}{e:List aQ}(h:∀us:List ag,us.length=e.length->bindArgs fd ⟨us, []⟩=pure (e.zip us)):Binds K fd e []:=fun s us _ g=>by
 rw[aG]at g ⊢;exact .of_eq (h us g)
def fO(CX:CXT)(X:Cx)(E:XK):Prop:=∀(pins:List (aa×dX)) (σ:St) (H:Hp) (s:ap) (e:ag) (g:ap),Inv X pins σ H s->CX X.stack H s E e g->X.xe e g
section
variable {X:Cx}{CX:CXT}{k:Nat}{f C:aa}{fd:gc}{ps:List aQ}{sp:Sp}{dvs:List V}{ds:List ag}{E:XK}{x m:aQ}{p pos apos:lK}{e o:c7}{es:List c7}{ta:TE}{t:TA}
theorem zh{pins:List (aa×dX)}{σ:St}{H:Hp}{s:ap}{Q:VK}{us:List ag}{vs:List V}(F:lZ X.prog X.w X.K X.mg X.base CX k f fd ps sp)(v:Room k X.A)(y:Binds X.K fd ps ds)(hd:Vals dvs ds)(q:fO CX X E)
  (I:Inv X pins σ H s) (r:Vals vs us) (h:sp (vs++dvs) H Q E):wpAny (bj X.prog X.w) X.A (call (.ref f) us) (EP X pins σ Q) X.xe s:=by
 have j:Vals (vs++dvs) (us++ds):=r.append hd;have x: (us++ds).length=ps.length:=by rw[<-j.length];exact F.len _ _ _ _ h
 refine wpAny_call (t9 (F.run X.A X.stack s H ⟨us, []⟩ (us++ds) (vs++dvs) Q E v I.env0 (y s us I.kIn x) j h) fun r p g=>?_);cases r with
 |error e=>exact q pins σ H s e p I g
 |ok fl=>
  cases fl with
  |ret u=>exact I.after g
  |next=>exact False.elim g
  |brk=>exact False.elim g
  |cont=>exact False.elim g
theorem FG(F:lZ X.prog X.w X.K X.mg X.base CX k f fd ps sp)(y:Room k X.A)(C:Gl X x)(z:X.mg x=some (.ref f))(B:PySem.W.keepIn X.K (.ref f)=true)(G:Binds X.K fd ps ds)(hd:Vals dvs ds)(v:fO CX X E)
  (J:PA X (e::es) t) (j: (x ==("__debug__":aQ))=false:=by decide) (D:bu (e::es) X.env= (false,dr e X.env)::bu es X.env:=by rfl) (g: (eB pos (bu es X.env)).any (·.1)=false:=by rfl):
  PE X (.Call (.Name x p) (e::es) [] pos) (sf sp dvs E t):=by
 intro pins s σ H Q I h;refine kv (ky I C z ?_ j);refine PySem.W.callWith_K (h₀:=X.base) I.ok.mod.kin B (fe (J pos pins s σ H _ I h) fun us M ⟨vs,H1,u,r,q⟩=>⟨u.kIn,?_⟩) D g;exact zh F y G hd v u r q
theorem FH{pl:CQ Bool}(O:PE X o ta)(c:Cls X.K C)(p:BJ X.K C m f)(F:lZ X.prog X.w X.K X.mg X.base CX k f fd ps sp)(M:Room k X.A)(R:Binds X.K fd ps ds)(hd:Vals dvs ds)(G:fO CX X E)(S:PA X (e::es) t)
  (g:bu (e::es) X.env= (false,dr e X.env)::bu es X.env:=by rfl) (j: (eB pos (bu es X.env)).any (·.1)=false:=by rfl)
  (J:dr (.Call (.Attribute o m apos) (e::es) [] pos) X.env= (do
   let ov <-dr o X.env
   yN apos.atName
   let(f,first) <-yO [ov] (mV ov m pl)
   pi pos f first (eB pos (bu (e::es) X.env)) (pj pos (jo [] X.env))):=by rfl):
  PE X (.Call (.Attribute o m apos) (e::es) [] pos) (Ao C m sp dvs E ta t):=by
 intro pins s σ H Q I h;refine PySem.W.methodCall_KW (pl:=pl) (fe (O pins s σ H _ I h) fun u z ⟨x,H1,y,B,a,dx,fs,ex,U,l,q⟩=>?_) J;subst ex;obtain rfl:u=bU a:=B;refine nJ y U c p l ?_;refine PySem.W.callWith_K (first:= [.ref a]) (h₀:=X.base) I.ok.mod.kin p.kp (fe (S pos pins z σ H1 _ y q) fun us Y ⟨vs,Z,v,r,D⟩=>⟨v.kIn,?_⟩) g j;exact zh (us:= .ref a::us) (vs:= .ref a::vs) F M R hd G v (.cons rfl r) D
theorem Dt{pl:CQ Bool}(y:PE X o ta)(c:Cls X.K C)(g:BJ X.K C m f)(F:lZ X.prog X.w X.K X.mg X.base CX k f fd ps sp)(v:Room k X.A)(z:Binds X.K fd ps ds)(hd:Vals dvs ds)(p:fO CX X E)
  (r:dr (.Call (.Attribute o m apos) [] [] pos) X.env= (do
   let ov <-dr o X.env
   yN apos.atName
   let(f,first) <-yO [ov] (mV ov m pl)
   pi pos f first (eB pos (bu [] X.env)) (pj pos (jo [] X.env))):=by rfl):
  PE X (.Call (.Attribute o m apos) [] [] pos) (Ao C m sp dvs E ta tNil):=by
 intro pins s σ H Q I h;refine PySem.W.methodCall_KW (pl:=pl) (fe (y pins s σ H _ I h) fun u D ⟨x,H1,e,j,a,dx,fs,ex,B,l,q⟩=>?_) r;subst ex;obtain rfl:u=bU a:=j;refine nJ e B c g l ?_;exact PySem.W.callWith_K0 (first:= [.ref a]) e.kIn g.kp (zh (us:= [.ref a]) (vs:= [.ref a]) F v z hd p e (.cons rfl .nil) q)
structure Mk(K:PySem.W.Frag)(C f:aa):Prop where
 makes:PySem.W.makesIn K C=true
 init:PySem.W.findIn K (.ref C) "__init__"=some (some (.ref f))
 fn:PySem.W.isFn K (.ref f)=true
 kp:PySem.W.keepIn K (.ref C)=true
theorem Du{pins:List (aa×dX)}{σ:St}{H:Hp}{s:ap}{Q:VK}{us:List ag}{vs:List V}(M:Mk X.K C f)(F:lZ X.prog X.w X.K X.mg X.base CX k f fd ps sp)(D:Room (k+1) X.A)(J:Binds X.K fd ps ds)(hd:Vals dvs ds)
  (B:fO CX X E) (I:Inv X pins σ H s) (r:Vals vs us)
  (h:∀x dx,H x=none->H dx=none->dx≠x->sp (.ref x::(vs++dvs)) (dJ (dJ H dx (.own x)) x (.ins C dx [])) (fun v S=>v= .non/\Q (.ref x) S) E):
  wpAny (bj X.prog X.w) X.A (call (.ref C) us) (EP X pins σ Q) X.xe s:=by
 have q:=h (s.heap.objs.size+1) s.heap.objs.size (I.hok.fresh (Nat.le_succ _)) (I.hok.fresh (aC _)) (db (cS _));have j:=Inv.made (C:=C) I;have p:Vals (V.ref (s.heap.objs.size+1)::(vs++dvs)) (bU (s.heap.objs.size+1)::(us++ds)):= .cons rfl (r.append hd);have G: (bU (s.heap.objs.size+1)::us++ds).length=ps.length:=by
  have e:=p.length;rw[F.len _ _ _ _ q]at e;exact e.symm
 refine wpAny_call (Ds (f:=f) I.kIn M.makes M.init (beq_iff_eq.mp M.fn) (t9 (F.run _ X.stack _ _ ⟨bU (s.heap.objs.size+1)::us, []⟩ (bU (s.heap.objs.size+1)::(us++ds)) _ _ E (D.make C us [])
  (j.env0.make C us []) (J _ (bU (s.heap.objs.size+1)::us) j.kIn G) p q) fun r y g=>?_))
 cases r with
 |error e=>exact B pins σ _ _ e y j g
 |ok fl=>
  cases fl with
  |ret u=>
   obtain⟨v,H',R,rv,O,z⟩:=j.after g;subst O;exact⟨rv,⟨V.ref (s.heap.objs.size+1),H',R,rfl,z⟩⟩
  |next=>exact False.elim g
  |brk=>exact False.elim g
  |cont=>exact False.elim g
theorem FI(M:Mk X.K C f)(F:lZ X.prog X.w X.K X.mg X.base CX k f fd ps sp)(y:Room (k+1) X.A)(B:Gl X x)(z:X.mg x=some (.ref C))(G:Binds X.K fd ps ds)(hd:Vals dvs ds)(v:fO CX X E)
  (J:PA X (e::es) t) (j: (x ==("__debug__":aQ))=false:=by decide) (D:bu (e::es) X.env= (false,dr e X.env)::bu es X.env:=by rfl) (g: (eB pos (bu es X.env)).any (·.1)=false:=by rfl):
  PE X (.Call (.Name x p) (e::es) [] pos) (uQ C sp dvs E t):=by
 intro pins s σ H Q I h;refine kv (ky I B z ?_ j);refine PySem.W.callWith_K (h₀:=X.base) I.ok.mod.kin M.kp (fe (J pos pins s σ H _ I h) fun us O ⟨vs,H1,u,r,q⟩=>⟨u.kIn,?_⟩) D g;exact Du M F y G hd v u r q
end
structure bf(N P:List aQ)(sc:gv):Prop where
 kind:sc.kind= .function
 co:sc.isCoroutine=false
 gen:sc.isGenerator=false
 nd:N.Nodup
 pre:N.take P.length=P
 par:∀x∈P,sc.names.lookup x=some .local\/sc.names.lookup x=some .cell
 nofree:∀y∈sc.names,y.2≠ .free
theorem uR{e:aQ->Option eS}{x:aQ} :∀ {binds:List (aQ×ag)} {m:aQ->Option ag},(∀v,(x,v)∉binds)->CA e binds m x=m x
 | [],_,_=>rfl
 | (n,v)::r,m,h=>by
  unfold CA;rw[uR fun w g=>h w (ak _ g)];split
  ·have:x≠n:=by rintro rfl;exact h v af
   simp[this]
  ·rfl
theorem uS{e:aQ->Option eS}{x:aQ} :∀ {binds:List (aQ×ag)} {m:aQ->Option ag},(∀v,(x,v)∉binds)->CB e binds m x=m x
 | [],_,_=>rfl
 | (n,v)::r,m,h=>by
  unfold CB;rw[uS fun w g=>h w (ak _ g)];split
  ·rfl
  ·have:x≠n:=by rintro rfl;exact h v af
   simp[this]
theorem uT{e:aQ->Option eS}{x:aQ}{v:ag} :∀ {P:List aQ} {vs:List ag} {i:Nat} {m:aQ->Option ag},P.Nodup->P[i]? =some x->vs[i]? =some v->e x=some .local->
  CA e (P.zip vs) m x=some v
 | [],_,_,_,_,h,_,_=>by simp at h
 |_::_, [],_,_,_,_,h,_=>by simp at h
 |p::P,w::vs,0,m,nd,h1,h2,hk=>by
  simp at h1 h2;subst h1;subst h2;show CA e ((p,w)::P.zip vs) m p=_;unfold CA;rw[uR fun v g=>(cR.mp nd).1 (tV g).1,qab hk];simp
 |p::P,w::vs,i+1,m,nd,h1,h2,hk=>by
  show CA e ((p,w)::P.zip vs) m x=_;unfold CA;exact uT (i:=i) (cR.mp nd).2 (by simpa using h1) (by simpa using h2) hk
theorem uU{e:aQ->Option eS}{x:aQ}{v:ag} :∀ {P:List aQ} {vs:List ag} {i:Nat} {m:aQ->Option ag},P.Nodup->P[i]? =some x->vs[i]? =some v->e x≠some .local->
  CB e (P.zip vs) m x=some v
 | [],_,_,_,_,h,_,_=>by simp at h
 |_::_, [],_,_,_,_,h,_=>by simp at h
 |p::P,w::vs,0,m,nd,h1,h2,hk=>by
  simp at h1 h2;subst h1;subst h2;show CB e ((p,w)::P.zip vs) m p=_;unfold CB;rw[uS fun v g=>(cR.mp nd).1 (tV g).1,qaa hk];simp
 |p::P,w::vs,i+1,m,nd,h1,h2,hk=>by
  show CB e ((p,w)::P.zip vs) m x=_;unfold CB;exact uU (i:=i) (cR.mp nd).2 (by simpa using h1) (by simpa using h2) hk
def i0(N:List aQ)(vs:List V):St:=vs.map some++m7 (N.length - vs.length) none
def ir(CX:CXT)(P:aZ)(w:bB)(K:PySem.W.Frag)(mg:aQ->Option ag)(base:bH)(N:List aQ)(h:aQ)(g:gv)(f:aa)(cd:ag)(A:cC)(outer:List m4)(s:ap)(H:Hp)(E:XK):Cx where
 prog:=P
 w:=w
 K:=K
 mg:=mg
 base:=base
 A:=A.deeper (im h g s.heap.objs.size f cd)
 N:=N
 s₀:=s
 H₀:=H
 env:=im h g s.heap.objs.size f cd
 outer:=outer
 stack:=im h g s.heap.objs.size f cd::outer
 ex:= []
 calm:=true
 fn:=fun _=>true
 pn:= []
 xe:=fun e p=>wpAny (bj P w) (A.deeper (im h g s.heap.objs.size f cd)) (qv (im h g s.heap.objs.size f cd) e) (fun _ j=>CX outer H s E e j) (fun q j=>CX outer H s E q j) p
theorem xu{e:gv}{n:Nat}{x:aQ}(h:e.names.lookup x=some .cell):∃c,(di n e.names []).lookup x=some c:=by
 have q:=PySem.W.cellsFrom_some e.names n [] (.inl h);exact dj.mp q
theorem BK{CX:CXT}{P:aZ}{w:bB}{K:PySem.W.Frag}{mg:aQ->Option ag}{base:bH}{N D:List aQ}{j:aQ}{g:gv}{f:aa}{cd:ag}{A:cC}{outer:List m4}{s O:ap}{H:Hp}{E:XK}{us:List ag}{vs:List V}
  (S:bf N D g) (hd:A.handled=none) (C:Env0 P w K mg base A outer s H) (Y:vs.length=D.length) (r:Vals vs us)
  (x:InCallC s s.heap.objs.size (CA (im j g s.heap.objs.size f cd).kindOf (D.zip us) fun _=>none) (di (s.heap.objs.size+1) g.names []) (CB (im j g s.heap.objs.size f cd).kindOf (D.zip us) fun _=>none) O):
  Inv (ir CX P w K mg base N j g f cd A outer s H E) [] (i0 N vs) H O:=by
 have U:D.length<=N.length:=by have:=qaf cI S.pre;rw[cg]at this;lia
 obtain⟨M,tk,rfl,R⟩:=x.done;have F:∀b:aa,b∉(ir CX P w K mg base N j g f cd A outer s H E).ex:=fun b z=>absurd (show b∈([]:List aa)from z) (by simp);refine⟨⟨C.mod,S.kind,rfl,rfl,aC _,fun y z c M B=>?_,fun y hy=>?_,fun y c _ h=>?_,fun _=>hd,Around.frames_deeper C.frames, .inr ⟨rfl,rfl⟩,fun b z=>absurd z (F b),C.bs,C.bsz,fun b _ _=>F b,fun b z=>absurd z (F b),C.funs,C.frf⟩,
  rfl,C.bare,Un.kept R,⟨_,x.toInCall.ns,fun i y v M B Z=>?_⟩,fun y c h=>⟨_,x.cell y c h⟩,C.hok.fresh (aC _),fun y c h=>?_,fun p I=>absurd (show p∈([]:List (aa×dX))from I) (by simp),C.hok.kept R,?_⟩
 ·exact name_of_addr x.apart (PySem.mem_of_lookup M) (PySem.mem_of_lookup B)
 ·have hy:g.names.lookup y=some .cell\/g.names.lookup y=some .free:=hy;rcases hy with hy|hy
  ·exact xu hy
  ·exact absurd rfl (S.nofree _ (PySem.mem_of_lookup hy))
 ·exact yX (x.above y c (PySem.mem_of_lookup h))
 ·have J:i < vs.length:=by
   unfold i0 at B;by_cases J:i < vs.length
   ·exact J
   ·rw[dz (by simpa using J)]at B;rw[w9]at B;split at B<;>cases B
  have X:vs[i]? =some v:=by
   unfold i0 at B;rw[eH (by simpa using J),bp]at B;cases e:vs[i]? with
   |none=>rw[e]at B;cases B
   |some a=>rw[e]at B;cases B;rfl
  obtain⟨u,Q,rv⟩:=r.get X;have I:D[i]? =some y:=by
   rw[<-S.pre,kl (by lia)];exact M
  have G:D.Nodup:=by rw[<-S.pre];exact S.nd.sublist (List.take_sublist _ _)
  refine⟨u,rv,?_⟩;rcases S.par y (bd I)with k|k
  ·exact .inl ⟨k,uT G I Q k⟩
  ·obtain⟨c,e⟩:=xu (n:=s.heap.objs.size+1) k;refine .inr ⟨.inl k,c,e,?_⟩;have q:=x.cell y c e;rw[uU G I Q (by show g.names.lookup y≠_;rw[k];decide)]at q;exact q
 ·exact C.hok.fresh (yX (x.above y c (PySem.mem_of_lookup h)))
 ·unfold i0;show _=N.length;rw[au,ah,yZ]
  lia
theorem Hy{CX:CXT}{P:aZ}{w:bB}{K:PySem.W.Frag}{mg:aQ->Option ag}{base:bH}{k:Nat}{f:aa}{name h:aQ}{p:Arguments}{z:List ck}{g:gv}{dV kV O pm j ct oc:ag}{an od:Option aa}
  {X:Array (Option ag)} {N R:List aQ} {sp:Sp} (lk:K.lookup f=some ⟨oc,od, .func (PySem.W.fnOf name h p z g dV kV O pm an j ct),X⟩) (hcd:PySem.W.codeIn K j h=true) (S:bf N R g)
  (len:∀vs H Q E,sp vs H Q E->vs.length=R.length)
  (D:∀(A:cC) (outer:List m4) (s:ap) (H:Hp) (vs:List V) (Q:VK) (E:XK),Room k (A.deeper (im h g s.heap.objs.size f j))->sp vs H Q E->
   ∃t,PSs (ir CX P w K mg base N h g f j A outer s H E) z t/\t { nx:=fun _ H'=>Q .non H',rt:=Q } (i0 N vs) H):
  lZ P w K mg base CX (k+1) f (PySem.W.fnOf name h p z g dV kV O pm an j ct) R sp:=by
 refine⟨len,fun A outer s H args us vs Q E Z M hb r G=>?_⟩;have hl:=len _ _ _ _ G;have KX:K.In s.heap:=M.mod.kin.keeps fun b o e=>(M.bs b o e).1;have Y:s.heap.NoLimit:=M.mod.nolimit.keeps fun b o e=>(M.bs b o e).1;have C:∀y∈R.zip us,g.names.lookup y.1=some .local\/(g.names.lookup y.1=some .cell/\((di (s.heap.objs.size+1) g.names []).lookup y.1).isSome=true):=fun⟨n,v⟩ hy=>by
  rcases S.par n (tV hy).1 with q|q
  ·exact .inl q
  ·exact .inr ⟨q,PySem.W.cellsFrom_some _ _ _ (.inl q)⟩
 refine codeAny_call_function Z.depth (KX _ _ lk) rfl S.co S.gen rfl (PySem.W.codeRec_of KX hcd) (hb _ _ _ _ ?_);refine wpAny_newFunctionEnv_cells S.kind C fun env he s1 x=>?_;subst he;refine⟨Y.keeps x.toInCall.keep,codeAny_func ?_⟩;obtain⟨t,ht,hq⟩:=D A outer s H vs Q E (Z.deeper _) G;have I:Inv (ir CX P w K mg base N h g f j A outer s H E) [] (i0 N vs) H s1:=BK S Z.hd M hl r x;refine cu (ht [] s1 (i0 N vs) H _ I hq) (fun fl U F=>?_) fun e U F=>F;have fin:∀ {B:St} {H':Hp} {v:V} {u:ag},Inv (ir CX P w K mg base N h g f j A outer s H E) [] B H' U->RelV v u->Q v H'->CE outer P w H s Q u U:=
  fun {B H' v u} J rv q=>⟨v,H',J.os,J.bare,J.base,J.hok,rv,q⟩
 cases fl with
 |ret u=>
  obtain⟨v,B,H',J,rv,q⟩:=F;exact fin J rv q
 |next=>
  obtain⟨B,H',J,q⟩:=F;exact fin (v:=V.non) (u:=gq) J rfl q
 |brk=>
  obtain⟨_,_,_,q⟩:=F;exact False.elim q
 |cont=>
  obtain⟨_,_,_,q⟩:=F;exact False.elim q
end L2
namespace L2
open PySem PySem.Spec PyProof.Rows
section
variable {X:Cx}{x:aQ}{p pos:lK}{e:c7}{es:List c7}{t:TA}{id T:String}{r:List V->Hp->VK->Prop}
def tCB(r:List V->Hp->VK->Prop)(t:TA):TE:=fun σ H Q=>t σ H fun vs H1=>r vs H1 Q
theorem cJ(E:oA X (.builtin id) r)(C:Gl X x)(B:X.mg x=none)(y:fq x=some (.builtin id))(F:PA X (e::es) t)(z:x≠"__name__":=by decide)(j: (x ==("__debug__":aQ))=false:=by decide)
  (D:bu (e::es) X.env= (false,dr e X.env)::bu es X.env:=by rfl) (g: (eB pos (bu es X.env)).any (·.1)=false:=by rfl):PE X (.Call (.Name x p) (e::es) [] pos) (tCB r t):=by
 intro pins s σ H Q I h;refine kv (De I C B y ?_ z j);exact Lm (fe (F pos pins s σ H _ I h) fun us q ⟨vs,H1,G,u,v⟩=>E pins q σ H1 vs us Q G u v) D g
theorem uV(E:oA X (.type T) r)(C:Gl X x)(B:X.mg x=none)(y:fq x=some (.type T))(F:PA X (e::es) t)(z:x≠"__name__":=by decide)(j: (x ==("__debug__":aQ))=false:=by decide)
  (D:bu (e::es) X.env= (false,dr e X.env)::bu es X.env:=by rfl) (g: (eB pos (bu es X.env)).any (·.1)=false:=by rfl):PE X (.Call (.Name x p) (e::es) [] pos) (tCB r t):=by
 intro pins s σ H Q I h;refine kv (De I C B y ?_ z j);exact Ln (fe (F pos pins s σ H _ I h) fun us q ⟨vs,H1,G,u,v⟩=>E pins q σ H1 vs us Q G u v) D g
end
end L2
namespace HT
open PySem PyProof.Rows
section
variable {prog:aZ}{w:bB}{A:cC}{E:ag->ap->Prop}{s:ap}
def sIx(n d:Nat):Option Int->Nat
 |none=>d
 |some v=>if v < 0 then(v+ (n:Int)).toNat else min v.toNat n
theorem KD(n d:Nat):sIx n d none=d:=rfl
theorem sIx_nat(n d k:Nat):sIx n d (some (k:Int))=min k n:=by
 show(if(k:Int) < 0 then((k:Int)+ (n:Int)).toNat else min (k:Int).toNat n)=min k n;rw[qaa (by lia),Int.toNat_natCast]
theorem sIx_le(n d:Nat)(hd:d<=n)(o:Option Int):sIx n d o<=n:=by
 cases o with
 |none=>exact hd
 |some v=>
  show(if v < 0 then(v+ (n:Int)).toNat else min v.toNat n)<=n;by_cases e:v < 0
  ·rw[qab e];lia
  ·rw[qaa e];exact rJ _ _
end
end HT
namespace L2
open PySem PySem.Spec PyProof.Rows
abbrev TO:=St->Hp->(Option Int->Hp->Prop)->Prop
def PO(X:Cx)(e:Option c7)(t:TO):Prop:=
 ∀(pins:List (aa×dX)) (s:ap) (σ:St) (H:Hp) (Q:Option Int->Hp->Prop),Inv X pins σ H s->t σ H Q->
  wpAny (bj X.prog X.w) X.A (evalPart e X.env) (fun u g=>∃o H',Inv X pins σ H' g/\IsPart u o/\Q o H') X.xe s
def tNoPart:TO:=fun _ H Q=>Q none H
def KE(t:TE):TO:=fun σ H Q=>t σ H fun x H1=>∃i,x= .int i/\Q (some i) H1
section
variable {X:Cx}{e:c7}{te:TE}{lo hi:Option c7}{tl th:TO}{pos p2:lK}
theorem FJ:PO X none tNoPart:=by
 intro pins s σ H Q I h;rw[evalPart_none];exact cH ⟨none,H,I, .none,h⟩
theorem oB(h:PE X e te):PO X (some e) (KE te):=by
 intro pins s σ H Q I r;rw[evalPart_some];refine fe (h pins s σ H _ I r) fun u y g=>?_;obtain⟨x,H1,v,j,p⟩:=g;obtain⟨i,rfl,q⟩:=p;obtain⟨t,rfl⟩:=j;exact⟨some i,H1,v, .int i t,q⟩
def SlR(X:Cx)(r:V->Option Int->Option Int->Hp->VK->Prop):Prop:=
 ∀(pins:List (aa×dX)) (s:ap) (σ:St) (H:Hp) (x:V) (v g e:ag) (j p:Option Int) (h:aa) (Q:VK),Inv X pins σ H s->RelV x v->s.heap.IsSliceOf h g e .none->IsPart g j->IsPart e p->r x j p H Q->
  ∃T id,typeLookup (.type T) "__getitem__"=pure (some (.builtin id))/\s.TypeIs v T/\wpAny (bj X.prog X.w) X.A (yQ v (.ref h)) (EP X pins σ Q) X.xe s
def tSl(r:V->Option Int->Option Int->Hp->VK->Prop)(g:TE)(tl e:TO):TE:=fun σ H Q=>g σ H fun x H1=>tl σ H1 fun l j=>e σ j fun u h=>r x l u h Q
theorem sh{r:V->Option Int->Option Int->Hp->VK->Prop}(R:SlR X r)(W:PE X e te)(S:PO X lo tl)(M:PO X hi th):PE X (.Subscript e (.Slice lo hi none p2) pos) (tSl r te tl th):=by
 intro pins s σ H Q I h;refine HW (fe (W pins s σ H _ I h) fun v C j=>?_);obtain⟨x,H1,I1,D,G⟩:=j;refine wpAny_Slice (fe (S pins C σ H1 _ I1 G) fun y B ⟨l,H2,I2,pl,F⟩=>fe (M pins B σ H2 _ I2 F) fun p g j=>?_);obtain⟨u,z,I3,J,E⟩:=j;rw[evalPart_none];refine cH ?_;have Z:Inv X pins σ z { g with heap:=g.heap.push { cls:= .type "slice",data:= .fields #[y,p, .none] } } :=I3.kept (t':=g.toks) fun b ob q=>bn _ q;obtain⟨T,id,Y,O,U⟩:=R pins { g with heap:=g.heap.push { cls:= .type "slice",data:= .fields #[y,p, .none] } } σ z x v y p l u g.heap.objs.size Q Z D (JG ..) pl J E;show wpAny (bj X.prog X.w) X.A (Bl e (.Slice lo hi none p2) v (.ref g.heap.objs.size)) (EP X pins σ Q) X.xe { g with heap:=g.heap.push { cls:= .type "slice",data:= .fields #[y,p, .none] } };exact tail_any (ops:= [.ref g.heap.objs.size,v]) O Y U (by with_unfolding_all rfl)
end
end L2
namespace L2
open PySem PySem.Spec PyProof.Rows
def Hz(n:Nat)(i:Int):Option Nat:=if 0<=i then(if i < n then some i.toNat else none)else if -(n:Int)<=i then some (i+n).toNat else none
def BL{e:Type}(xs:List e)(i:Int):Option e:=(Hz xs.length i).bind fun j=>xs[j]?
theorem FK{n:Nat}{i:Int}{j:Nat}(h:Hz n i=some j):seqIndex? i n=some j/\j < n/\ -(n:Int)<=i/\i < n:=by
 unfold Hz at h;by_cases p:0<=i
 ·rw[qab p]at h;by_cases g:i < n
  ·rw[qab g]at h;have e:i.toNat=j:=aB h;exact⟨by rw[seqIndex_of p g,e],by lia,by lia,g⟩
  ·rw[qaa g]at h;cases h
 ·rw[qaa p]at h;by_cases g: -(n:Int)<=i
  ·rw[qab g]at h;have e: (i+n).toNat=j:=aB h;exact⟨by rw[seqIndex_neg (by lia) g,e],by lia,g,by lia⟩
  ·rw[qaa g]at h;cases h
theorem vS{g:Type}{xs:List g}{i:Int}{v:g}(h:BL xs i=some v):∃j,seqIndex? i xs.length=some j/\xs[j]? =some v/\j < xs.length/\ -(xs.length:Int)<=i/\i < xs.length:=by
 unfold BL at h;cases e:Hz xs.length i with
 |none=>rw[e]at h;cases h
 |some j=>
  rw[e]at h;obtain⟨u,r,q,p⟩:=FK e;exact⟨j,u,h,r,q,p⟩
theorem f8{g:Type}{xs:List g}{j:Nat}{v:g}(h:xs[j]? =some v):BL xs (j:Int)=some v:=by
 have p:j < xs.length:=(aD.mp h).1;have e:Hz xs.length (j:Int)=some j:=by
  unfold Hz;rw[qab (by lia),qab (by lia)];simp
 unfold BL;rw[e];exact h
theorem Dv{g:Type}(xs:List g)(v:g):BL (xs++ [v]) (-1)=some v:=by
 have h: (xs++ [v]).length=xs.length+1:=by simp
 have e:Hz (xs++ [v]).length (-1)=some xs.length:=by
  unfold Hz;rw[h,qaa (by decide),qab (by lia)];congr 1
  lia
 unfold BL;rw[e];show(xs++ [v])[xs.length]? =some v;simp
def FL(b:c7):Prop:=∀o i,wW b false o i=operate [o,i] (yQ o i)
def KF(X:Cx)(r:R2):Prop:=
 ∀(g e:c7) (pins:List (aa×dX)) (s:ap) (σ:St) (H:Hp) (x y:V) (v u:ag) (Q:VK),Inv X pins σ H s->RelV x v->RelV y u->r x y H Q->
  wW e false v u=operate [v,u] (yQ v u)->wpAny (bj X.prog X.w) X.A (Bl g e v u) (EP X pins σ Q) X.xe s
def yU(X:Cx)(id:String)(r:V->List V->Hp->VK->Prop):Prop:=
 ∀(pins:List (aa×dX)) (s:ap) (σ:St) (H:Hp) (x:V) (xs:List V) (v:ag) (us:List ag) (Q:VK),Inv X pins σ H s->RelV x v->Vals xs us->r x xs H Q->
  wpAny (bj X.prog X.w) X.A (call (.builtin id) (v::us)) (EP X pins σ Q) X.xe s
section
variable {X:Cx}{a b:c7}{ta tb:TE}{pos:lK}
theorem fb{r:R2}(z:KF X r)(C:PE X a ta)(B:PE X b tb)(p:FL b):PE X (.Subscript a b pos) (JR r ta tb):=by
 intro pins s σ H Q I h;exact HW (Ir C B I h fun v u e x y E D j g q=>z a b pins e σ E x y v u Q D j g q (p _ _))
inductive HA(K:PySem.W.Frag)(x y:V)(H:Hp)(Q:VK):Prop
 |mk (p:aa) (xs:List V) (i:Int) (v:V) (h1:x= .ref p) (h2:y= .int i) (h3:SqL K H p xs) (h4:BL xs i=some v) (k:Q v H):HA K x y H Q
def KG(K:PySem.W.Frag):R2:=fun x y H Q=>HA K x y H Q
inductive HB(K:PySem.W.Frag)(x y:V)(H:Hp)(Q:VK):Prop
 |mk (p:aa) (xs:List V) (i:Int) (v:V) (h1:x= .ref p) (h2:y= .int i) (h3:SqT K H p xs) (h4:BL xs i=some v) (k:Q v H):HB K x y H Q
def rIxT(K:PySem.W.Frag):R2:=fun x y H Q=>HB K x y H Q
def rIxS:R2:=fun x y H Q=>∃z i c,x= .str z/\y= .int i/\z.length<=aO/\BL z.cps.toList i=some c/\Q (.str ⟨#[c]⟩) H
theorem fD:KF X (KG X.K):=by
 intro g B pins s σ H x y v u Q I R O h F;obtain⟨p,xs,i,z,rfl,rfl,S,W,q⟩:=h;cases R;obtain⟨t,rfl⟩:=O;obtain⟨D,r,pl,hz⟩:=I.list S;obtain⟨j,e,h2,h3,Z,Y⟩:=vS W;obtain⟨w,J,C⟩:=r.get h2;have U:=r.length;have hn:=sb;have fin:EP X pins σ Q w s:=⟨z,H,I,C,q⟩;by_cases G:0<=i
 ·have E:i.toNat=j:=by
   rw[seqIndex_of G Y]at e;exact aB e
  exact item_listR pl.isList G (by lia) (by rw[E];simpa using J) fin F
 ·have E: (i+ (D.toArray.size:Int)).toNat=j:=by
   rw[seqIndex_neg (by lia) Z]at e;rw[bX,<-U];exact aB e
  exact CU (x:=w) pl.isList.typeIs slot_list_getitem.lookup
   (wpAny_getItem_list_neg (Q:=fun r M=>r=w/\EP X pins σ Q r M) pl.isList (by lia) (by rw[bX]<;>lia) (by lia) (by rw[E];simpa using J) ⟨rfl,fin⟩) F
theorem si:KF X (rIxT X.K):=by
 intro e g pins s σ H x y v u Q I E D h G;obtain⟨p,xs,i,z,rfl,rfl,J,O,q⟩:=h;cases E;obtain⟨t,rfl⟩:=D;obtain⟨F,r,pl,W⟩:=I.tuple J;obtain⟨j,S,R,h3,h4,Z⟩:=vS O;obtain⟨w,U,B⟩:=r.get R;have M:=r.length;have Y:=sb;have fin:EP X pins σ Q w s:=⟨z,H,I,B,q⟩;exact CU (x:=w) pl.typeIs slot_tuple_getitem.lookup
  (getItem_tuple (j:=j) (Q:=fun r C=>r=w/\EP X pins σ Q r C) pl (by lia) (by lia) (by rw[bX,<-M];exact S) (by simpa using U) ⟨rfl,fin⟩) G
theorem nK:KF X rIxS:=by
 intro e g pins s σ H x y v u Q I B r h C;obtain⟨z,i,c,rfl,rfl,S,E,q⟩:=h;obtain⟨t,rfl⟩:=B;obtain⟨R,rfl⟩:=r;obtain⟨j,p,J,W,G,F⟩:=vS E;have D:z.cps.toList.length=z.length:=by simp[Str.length]
 rw[D]at p G F;have U:=sb;exact tail_any (rK s z t) slot_str_getitem.lookup (getItem_str (c:=c) (by
  have O:decide (i < -(2 ^ 63:Int))=false:=decide_eq_false (by lia);have M:decide (i>=2 ^ 63)=false:=decide_eq_false (by lia);rw[O,M,Bool.or_false]) (by rw[p];simpa using J) ⟨.str ⟨#[c]⟩,H,I.tok _,⟨_,rfl⟩,q⟩) C
def oC:V->Bool
 | .non=>true
 | .bl _=>true
 | .int _=>true
 | .str _=>true
 |_=>false
def FM:V->V->Bool
 | .non, .non=>true
 | .bl a, .bl b=>a == b
 | .bl a, .int b=>(if a then 1 else 0) == b
 | .int a, .bl b=>a ==(if b then 1 else 0)
 | .int a, .int b=>a == b
 | .str a, .str b=>a == b
 |_,_=>false
theorem Iv{A:cC}{s:ap}{y x:V}{u v:ag}(h:RelV y u)(e:RelV x v)(j:oC y=true)(fx:oC x=true):J0 A s u v (FM y x):=by
 cases y with
 |non=>
  cases h;cases x with
  |non=>cases e;exact SeqAt.EqAt.same _
  |bl b=>cases e;exact SeqAt.EqAt.none_bool b
  |int b=>obtain⟨t,rfl⟩:=e;exact SeqAt.EqAt.none_int b t
  |str b=>obtain⟨t,rfl⟩:=e;exact SeqAt.EqAt.none_str b t
  |_=>exact absurd (show false=true from fx) bq
 |bl a=>
  cases h;cases x with
  |non=>cases e;exact SeqAt.EqAt.bool_none a
  |bl b=>cases e;exact SeqAt.EqAt.bool_bool a b
  |int b=>obtain⟨t,rfl⟩:=e;exact SeqAt.EqAt.bool_int a b t
  |str b=>obtain⟨t,rfl⟩:=e;exact SeqAt.EqAt.bool_str a b t
  |_=>exact absurd (show false=true from fx) bq
 |int a=>
  obtain⟨g,rfl⟩:=h;cases x with
  |non=>cases e;exact SeqAt.EqAt.int_none a g
  |bl b=>cases e;exact SeqAt.EqAt.int_bool a g b
  |int b=>obtain⟨t,rfl⟩:=e;exact SeqAt.EqAt.int_int a g b t
  |str b=>obtain⟨t,rfl⟩:=e;exact wT a g b t
  |_=>exact absurd (show false=true from fx) bq
 |str a=>
  obtain⟨g,rfl⟩:=h;cases x with
  |non=>cases e;exact SeqAt.EqAt.str_none a g
  |bl b=>cases e;exact SeqAt.EqAt.str_bool a g b
  |int b=>obtain⟨t,rfl⟩:=e;exact wU a g b t
  |str b=>obtain⟨t,rfl⟩:=e;exact SeqAt.EqAt.str_str a g b t
  |_=>exact absurd (show false=true from fx) bq
 |_=>exact absurd (show false=true from j) bq
def FN(x:V)(u:ag):Bool:=match u with
 | .none=>FM .non x
 | .bool b=>FM (.bl b) x
 | .int i _=>FM (.int i) x
 | .str z _=>FM (.str z) x
 |_=>false
theorem Dw{x y:V}{u:ag}(r:RelV y u)(f:oC y=true):FN x u=FM y x:=by
 cases y with
 |non=>cases r;rfl
 |bl b=>cases r;rfl
 |int i=>obtain⟨t,rfl⟩:=r;rfl
 |str z=>obtain⟨t,rfl⟩:=r;rfl
 |_=>exact absurd (show false=true from f) bq
theorem vT{x:V} :∀ {xs:List V} {us:List ag},Vals xs us->xs.all oC=true->us.any (FN x)=xs.any fun y=>FM y x
 |_,_, .nil,_=>rfl
 |y::xs,u::us, .cons r t,f=>by
  rw[oy,bY]at f;rw[gj,gj,Dw r f.1,vT t f.2]
theorem sj{A:cC}{s:ap}{x:V}{v:ag}(e:RelV x v)(fx:oC x=true):∀ {xs:List V} {us:List ag},Vals xs us->xs.all oC=true->∀u∈us,J0 A s u v (FN x u)
 |_,_, .nil,_=>fun u hu=>by cases hu
 |y::xs,u::us, .cons r t,f=>fun g hu=>by
  rw[oy,bY]at f;rcases am.mp hu with rfl|hu
  ·rw[Dw r f.1];exact Iv r e f.1 fx
  ·exact sj e fx t f.2 g hu
def inV(x:V)(xs:List V):Bool:=xs.any fun y=>FM y x
def rIn(K:PySem.W.Frag)(e:Bool):R2:=fun x y H Q=>∃p xs,y= .ref p/\(SqL K H p xs\/SqT K H p xs)/\oC x=true/\xs.all oC=true/\Q (.bl (if e then !inV x xs else inV x xs)) H
theorem BM:uP X (eR .In) (rIn X.K false):=by
 intro pins s σ H x y v u Q I j z h;obtain⟨p,xs,rfl,hq,fx,fs,q⟩:=h;cases z;rcases hq with hq|hq
 ·obtain⟨e,r,pl,B⟩:=I.list hq;refine SeqAt.in_listAt (FN x) pl.isList (fun w g=>sj j fx r fs w (by simpa using g)) ⟨.bl _,H,I,rfl,?_⟩;rw[show e.toArray.any (FN x)=e.any (FN x) by simp,vT r fs];exact q
 ·obtain⟨e,r,pl,B⟩:=I.tuple hq;refine SeqAt.in_tupleAt (FN x) pl (fun w g=>sj j fx r fs w (by simpa using g)) ⟨.bl _,H,I,rfl,?_⟩;rw[show e.toArray.any (FN x)=e.any (FN x) by simp,vT r fs];exact q
theorem d5:oA X (.builtin "len") (fun xs H Q=>∃p g,xs= [.ref p]/\(SqL X.K H p g\/SqT X.K H p g)/\Q (.int g.length) H):=by
 intro pins s σ H xs us Q I r h;obtain⟨p,g,rfl,hq,q⟩:=h;obtain⟨u,rfl,x⟩:=xt r;cases x;have z:=sb;rcases hq with hq|hq
 ·obtain⟨v,j,pl,y⟩:=I.list hq;have e:=j.length;exact Calls.call_len_list pl.isList (by simp only[bX]<;>lia) ⟨.int g.length,H,I.tok _,⟨s.toks+1,by rw[bX,e]⟩,q⟩
 ·obtain⟨v,j,pl,y⟩:=I.tuple hq;have e:=j.length;exact len_tuple pl (by simp only[bX]<;>lia) ⟨.int g.length,H,I.tok _,⟨s.toks+1,by rw[bX,e]⟩,q⟩
theorem c8:oA X (.builtin "len") (fun xs H Q=>∃z,xs= [.str z]/\z.length<=aO/\Q (.int z.length) H):=by
 intro pins s σ H xs us Q I r h;obtain⟨z,rfl,e,q⟩:=h;obtain⟨u,rfl,t,rfl⟩:=xt r;have g:=sb;exact len_str (by lia) ⟨.int z.length,H,I.tok _,⟨_,rfl⟩,q⟩
def tyV(K:PySem.W.Frag)(T:String)(x:V)(H:Hp):Prop:=match x with
 | .str _=>T="str"
 | .int _=>T="int"
 | .ref p=>(T="list"/\∃xs,SqL K H p xs)\/(T="tuple"/\∃o,K.lookup p=some o/\o.cls= .type "tuple"/\o.dict=none)\/
   (T="dict"/\((∃e,H p=some (.dK e))\/∃e,H p=some (.dT e)))\/(T="set"/\∃S n,H p=some (.set S n))
 |_=>False
theorem Dx{pins:List (aa×dX)}{σ:St}{H:Hp}{s:ap}{T:String}{x:V}{v:ag}(I:Inv X pins σ H s)(r:RelV x v)(ty:tyV X.K T x H):
  s.TypeIs v T/\∀a,v= .ref a->∃q,s.heap.get? a=some q/\q.dict=none:=by
 cases x with
 |str z=>
  obtain⟨t,rfl⟩:=r;cases(show T="str" from ty);exact⟨rK s z t,fun _ e=>nomatch e⟩
 |int i=>
  obtain⟨t,rfl⟩:=r;cases(show T="int" from ty);exact⟨typeIs_int s i t,fun _ e=>nomatch e⟩
 |ref p=>
  cases r;rcases ty with⟨rfl,xs,y⟩ | ⟨rfl,o,g,hc,hd⟩ | ⟨rfl,g⟩ | ⟨rfl,S,n,g⟩
  ·obtain⟨u,_,pl,_⟩:=I.list y;refine⟨pl.isList.typeIs,fun a e=>?_⟩;cases e;obtain⟨o,n,e,c,hd,_⟩:=pl;exact⟨o,e,hd⟩
  ·refine⟨⟨o,I.kIn p o g,hc⟩,fun a e=>?_⟩;cases e;exact⟨o,I.kIn _ o g,hd⟩
  ·have z:∃o,s.heap.get? p=some o/\o.ExactDict:=by
    rcases g with⟨h,g⟩ | ⟨h,g⟩
    ·obtain⟨_,_,_,_,o,_,_,e,ex,_⟩:=I.hok p _ g;exact⟨o,e,ex⟩
    ·obtain⟨_,_,_,_,o,_,_,e,ex,_⟩:=I.hok p _ g;exact⟨o,e,ex⟩
   obtain⟨o,e,ex⟩:=z;refine⟨⟨o,e,ex.1⟩,fun a j=>?_⟩;cases j;exact⟨o,e,ex.2.1⟩
  ·obtain⟨o,_,_,_,e,ex,_⟩:=I.hok p _ g;refine⟨⟨o,e,ex.1⟩,fun a j=>?_⟩;cases j;exact⟨o,e,ex.2.1⟩
 |_=>exact False.elim ty
def tBM0(K:PySem.W.Frag)(T:String)(r:V->List V->Hp->VK->Prop)(e:TE):TE:=fun σ H Q=>e σ H fun x H1=>tyV K T x H1/\r x [] H1 Q
def tBM(K:PySem.W.Frag)(T:String)(r:V->List V->Hp->VK->Prop)(e:TE)(t:TA):TE:=fun σ H Q=>e σ H fun x H1=>tyV K T x H1/\t σ H1 fun xs g=>r x xs g Q
variable {o e:c7}{es:List c7}{to:TE}{t:TA}{name:aQ}{apos cpos:lK}{T id:String}{r:V->List V->Hp->VK->Prop}
theorem Iw(pa:PlainAttrs T)(slot:Slot T name id)(p:typeOf (.builtin id)=pure (.type "method_descriptor"))(C:yU X id r)(B:PE X o to)
  (g:fI o name X.env (dr o X.env)=dr o X.env:=by rfl) (e: (apos.endLine == cpos.line)=true:=by rfl):PE X (.Call (.Attribute o name apos) [] [] cpos) (tBM0 X.K T r to):=by
 intro pins s σ H Q I h;refine wpAny_Call_method0_late g e (fe (B pins s σ H _ I h) fun v y j=>?_);obtain⟨x,H1,u,q,ty,z⟩:=j;obtain⟨E,D⟩:=Dx u q ty;exact⟨T,id,pa,slot,p,E,D,gF rfl (PySem.evalArgs_none (C pins y σ H1 x [] v [] Q u q .nil z))⟩
theorem lv(pa:PlainAttrs T)(slot:Slot T name id)(y:typeOf (.builtin id)=pure (.type "method_descriptor"))(R:yU X id r)(O:PE X o to)(S:PA X (e::es) t)
  (p:fI o name X.env (dr o X.env)=dr o X.env:=by rfl)
  (q: ((eB cpos (bu (e::es) X.env)).all (fun x=> !x.1)&&(pj cpos (jo [] X.env)).all (fun x=>x.1.isSome)
   &&decide ((e::es).length+ ([]:List Keyword).length+ (if([]:List Keyword).isEmpty then 0 else 1) < 30))=true:=by rfl)
  (j: (apos.endLine == cpos.line)=true:=by rfl) (M:bu (e::es) X.env= (false,dr e X.env)::bu es X.env:=by rfl) (g: (eB cpos (bu es X.env)).any (·.1)=false:=by rfl):
  PE X (.Call (.Attribute o name apos) (e::es) [] cpos) (tBM X.K T r to t):=by
 intro pins s σ H Q I h;refine wpAny_Call_method_late p q j rfl (fe (O pins s σ H _ I h) fun v E u=>?_);obtain⟨x,H1,C,z,ty,J⟩:=u;obtain⟨W,U⟩:=Dx C z ty;refine⟨T,id,pa,slot,y,W,U,?_⟩;have B:=S cpos pins E σ H1 _ C J;rw[M]at B ⊢;refine gF (by show(false ||(eB cpos (bu es X.env)).any (·.1))=false;rw[g]<;>rfl) (io ?_);exact fe B fun us D ⟨vs,Z,Y,F,G⟩=>R pins D σ Z x vs v us Q Y z F G
end
end L2
namespace L2
open PySem PySem.Spec PyProof.Rows
def MtM(X:Cx)(id:String)(r:V->List V->Hp->VK->Prop):Prop:=
 ∀(pins:List (aa×dX)) (s:ap) (σ:St) (H:Hp) (x:V) (xs:List V) (v:ag) (us:List ag) (Q:VK),Inv X pins σ H s->RelV x v->Vals xs us->r x xs H Q->
  wpAny (bj X.prog X.w) X.A (call (.builtin id) (v::us)) (EP X pins σ Q) X.xe s
theorem Vals.one{x:V}{us:List ag}(h:Vals [x] us):∃u,us= [u]/\RelV x u:=by
 cases h with
 |cons r t=>cases t;exact⟨_,rfl,r⟩
theorem Vals.two{x y:V}{us:List ag}(h:Vals [x,y] us):∃u v,us= [u,v]/\RelV x u/\RelV y v:=by
 cases h with
 |cons r t=>
  cases t with
  |cons q t=>cases t;exact⟨_,_,rfl,r,q⟩
theorem Vals.zero:∀ {us:List ag},Vals [] us->us= []
 |_, .nil=>rfl
theorem Vals.dropLast{xs:List V}{us:List ag}(h:Vals xs us):Vals xs.dropLast us.dropLast:=by
 induction h with
 |nil=>exact .nil
 |cons r t ih=>
  cases t with
  |nil=>exact .nil
  |cons q t'=>exact .cons r ih
theorem zi{g:Type}(l:List g):l.eraseIdx (l.length - 1)=l.dropLast:=by
 induction l with
 |nil=>rfl
 |cons a r ih=>
  cases r with
  |nil=>rfl
  |cons b r=>
   have e: (a::b::r).length - 1= ((b::r).length - 1)+1:=by
    have j: (a::b::r).length=r.length+2:=rfl;have h: (b::r).length=r.length+1:=rfl
    lia
   rw[e,List.eraseIdx_cons_succ,ih]
   all_goals rfl
section
variable {X:Cx}{pins:List (aa×dX)}{σ:St}{H:Hp}{s:ap}{l b:aa}{xs ys zs:List V}
theorem Inv.lset{g its':List ag}{n:Nat}{f:Array ag->Array ag}{t':Nat}(I:Inv X pins σ H s)(y:H l=some (.lst xs))
  (e:s.heap.get? l=some { cls:= .type "list",data:= .seq g.toArray n }) (r:f g.toArray=its'.toArray) (j:Vals ys its') (h:ys.length<=aO):
  Inv X pins σ (dJ H l (.lst ys)) { s with heap:=s.heap.update l (Obj.mapSeq f),toks:=t' } :=by
 have q:=PySem.IsL.update e f;rw[r]at q;refine I.write (x:=l) (e:=l) (by rw[y];exact trivial) (.inl rfl) (fun z u v p=>(ei s.heap (Obj.mapSeq f) (Ne.symm v)).trans p) ⟨_,q⟩ ?_;exact⟨h,its',_,j,q⟩
theorem Inv.lnew{e:List ag}{t':Nat}(I:Inv X pins σ H s)(h:Vals ys e)(g:ys.length<=aO):
  Inv X pins σ (dJ H s.heap.objs.size (.lst ys)) { s with heap:=s.heap.push { cls:= .type "list",data:= .seq e.toArray },toks:=t' } :=
 I.laid (fun _ _ q=>bn _ q) (aC _) ⟨g,e,0,h,cm _ rfl⟩
theorem Inv.fresh(I:Inv X pins σ H s):H s.heap.objs.size=none:=I.hok.fresh (aC _)
theorem Inv.lstM(I:Inv X pins σ H s)(h:H l=some (.lst xs)):xs.length<=aO/\∃(g:List ag) (n:Nat),Vals xs g/\xs.length=g.length/\s.heap.get? l=some { cls:= .type "list",data:= .seq g.toArray n } :=by
 obtain⟨z,g,n,r,e⟩:=I.hok l _ h;exact⟨z,g,n,r,r.length,e⟩
end
section
variable {X:Cx}
def rAppend:V->List V->Hp->VK->Prop:=fun x vs H Q=>∃l xs y,x= .ref l/\vs= [y]/\H l=some (.lst xs)/\xs.length < aO/\Q .non (dJ H l (.lst (xs++ [y])))
theorem gk:MtM X "list.append" rAppend:=by
 intro pins s σ H x vs v us Q I p rv h;obtain⟨l,xs,y,rfl,rfl,j,C,q⟩:=h;cases p;obtain⟨u,rfl,B⟩:=rv.one;obtain⟨z,g,n,r,D,e⟩:=I.lstM j;refine call_meets F.slot_list_append ⟨_,e,rfl⟩ F.entry_list_append (F.args_list_append_2 _ _) (PySem.list_append l g.toArray n u (by rw[bX];lia)) ⟨e,?_⟩;refine⟨.non,_,I.lset (its':=g++ [u]) j e (by simp) (r.append (.cons B .nil)) ?_,rfl,q⟩;rw[au,ci]
 lia
def rPop:V->List V->Hp->VK->Prop:=fun x vs H Q=>∃l xs y,x= .ref l/\vs= []/\H l=some (.lst xs)/\xs[xs.length - 1]? =some y/\Q y (dJ H l (.lst xs.dropLast))
theorem Ix:MtM X "list.pop" rPop:=by
 intro pins s σ H x vs v us Q I C rv h;obtain⟨l,xs,y,rfl,rfl,B,E,q⟩:=h;cases C;have p:=rv.zero;subst p;obtain⟨z,g,n,r,J,e⟩:=I.lstM B;obtain⟨u,G,D⟩:=r.get E;have j:g.toArray[g.toArray.size - 1]? =some u:=by
  show g.toArray[g.length - 1]? =some u;rw[<-yR,<-J];exact G
 refine call_meets F.slot_list_pop ⟨_,e,rfl⟩ F.entry_list_pop (F.args_list_pop_1 _) (MeetsSeq.list_pop_last l g.toArray n u j (by rw[bX];lia)) ⟨e,?_⟩;refine⟨y,_,I.lset (its':=g.dropLast) B e ?_ r.dropLast ?_,D,q⟩
 ·show g.toArray.eraseIdxIfInBounds (g.toArray.size - 1)=g.dropLast.toArray;rw[bX,List.eraseIdxIfInBounds_toArray,zi]
 ·rw[List.length_dropLast]
  lia
def rCat:R2:=fun x y H Q=>∃l b xs e,x= .ref l/\y= .ref b/\H l=some (.lst xs)/\H b=some (.lst e)/\xs.length+e.length<=aO/\∀p,H p=none->Q (.ref p) (dJ H p (.lst (xs++e)))
theorem Iy:uP X (t8 .Add) rCat:=by
 intro pins s σ H x y v u Q I B p h;obtain⟨l,b,xs,M,rfl,rfl,E,F,S,q⟩:=h;cases B;cases p;obtain⟨z,j,n,r,U,e⟩:=I.lstM E;obtain⟨O,g,R,C,D,J⟩:=I.lstM F;refine PySem.P.add_list e J ?_ (by rw[bX,bX];lia);have G:j.toArray++g.toArray= (j++g).toArray:=by simp
 rw[G];exact⟨.ref _,_,I.lnew (t':=s.toks) (r.append C) (by rw[au];lia),rfl,q _ I.fresh⟩
end
end L2
namespace L2
open PySem PySem.Spec PyProof.Rows
theorem vU:∀ {us:List ag} {ns:List Int},ua us ns->Vals (ns.map V.int) us
 |_,_, .nil=>by rw[lF];exact Paired.nil
 |_,_, .cons n t h=>by rw[bg];exact Paired.cons (show RelV (V.int n) (jk n t)from⟨t,rfl⟩) (vU h)
theorem Vals.bls:∀ {bs:List Bool} {us:List ag},Vals (bs.map V.bl) us->us=bs.map jm
 | [],us,h=>by
  rw[lF]at h;cases h;rfl
 |b::bs,us,h=>by
  rw[bg]at h;cases h with
  |cons r t=>
   cases r;rw[Vals.bls t,bg]
theorem Vals.ref1{a:aa}{us:List ag}(r:Vals [V.ref a] us):us= [bU a]:=by
 cases r with
 |cons r t=>
  cases t;cases r;rfl
theorem Dy{prog:aZ}{w:bB}{A:cC}{E:ag->ap->Prop}{s:ap}{l:aa}{items:Array ag}{Q:ag->ap->Prop}(p:s.heap.IsList l items)
  (h:∀g:ap,g= { s with heap:=s.heap.push { cls:= .type "list_iterator",data:= .fields #[.ref l, .int 0 0] } } ->
   (g.heap.IsListIter s.heap.objs.size l 0/\g.heap.IsList l items)->l≠s.heap.objs.size->Q (.ref s.heap.objs.size) g):wpAny (bj prog w) A (pyIter (.ref l)) Q E s:=by
 have j:l < s.heap.objs.size:=by obtain⟨_,e,_⟩:=p;exact bv e
 exact JF p (h _ rfl ⟨⟨_,cm _ rfl,rfl,rfl⟩,p.push _⟩ (db j))
theorem xw{prog:aZ}{w:bB}{A:cC}{bs:List Bool}{g:List ag}(e:g=bs.map jm):
  TruthOf prog w A (fun i v=>g.toArray[i]? =some v) (fun i=>bs.getD i false):=fun i v s Q E p q=>by
 have h:g[i]? =some v:=by simpa using p
 rw[e,bp]at h;obtain⟨b,u,rfl⟩:=d7.mp h;have r:bs.getD i false=b:=by rw[fJ,u]<;>rfl
 have j:Q (bs.getD i false) s:=q;rw[r]at j;exact il j
theorem BN:∀bs:List Bool,(lD bs.length).any (fun i=>bs.getD i false)=bs.any id
 | []=>rfl
 |b::bs=>by
  rw[ae,yS,gj,JB,gj,<-BN bs]
  all_goals rfl
theorem uW:∀bs:List Bool,(lD bs.length).all (fun i=>bs.getD i false)=bs.all id
 | []=>rfl
 |b::bs=>by
  rw[ae,yS,oy,lG,oy,<-uW bs]
  all_goals rfl
section
variable {X:Cx}
def rAll(K:PySem.W.Frag):List V->Hp->VK->Prop:=fun vs H Q=>∃(a:aa) (bs:List Bool),vs= [V.ref a]/\SqL K H a (bs.map V.bl)/\Q (.bl (bs.all id)) H
theorem Iz(z:X.calm=true):oA X (.builtin "all") (rAll X.K):=by
 intro pins s σ H vs us Q I r h;obtain⟨a,bs,rfl,v,q⟩:=h;obtain⟨e,rv,x,_⟩:=I.list v;rw[Vals.ref1 r];have p:=rv.bls;refine call_all_walk (Dy x.isList fun j B st g=>?_);subst B;refine⟨_,_,_,_,_,_,_,rfl,Walks.list (A:=X.A.in1) (I.ok.hd z) _ a g e.toArray,st,xw p,fun h' tk y=>?_⟩;refine⟨.bl _,H,I.kept fun b o u=>y b o (fun hmem=>?_) (bn _ u),?_,q⟩
 ·rcases am.mp hmem with e1|hmem
  ·exact absurd (e1 ▸ bv u) (dA _)
  ·cases hmem
 ·show jm _=jm _;rw[<-uW,p,bX,ah]
end
mutual
inductive Dp(K:PySem.W.Frag)(H:Hp):V->rL->Prop
 |non:Dp K H .non .none
 |bl (b:Bool):Dp K H (.bl b) (.bool b)
 |int (i:Int):Dp K H (.int i) (.int i)
 |str (x:aQ):Dp K H (.str x) (.str x)
 |lst {a:aa} {xs:List V} {ds:List rL} :SqL K H a xs->uX K H xs ds->Dp K H (.ref a) (.list ds)
 |tup {a:aa} {xs:List V} {ds:List rL} :SqT K H a xs->uX K H xs ds->Dp K H (.ref a) (.tuple ds)
inductive uX(K:PySem.W.Frag)(H:Hp):List V->List rL->Prop
 |nil:uX K H [] []
 |cons {v:V} {vs:List V} {d:rL} {ds:List rL} :Dp K H v d->uX K H vs ds->uX K H (v::vs) (d::ds)
end
section
variable {X:Cx}{pins:List (aa×dX)}{σ:St}{H:Hp}{s:ap}
mutual
theorem Dp.reads(I:Inv X pins σ H s):∀(d:rL) (v:V) (u:ag),Dp X.K H v d->RelV v u->∃as,Reads s.heap u d as
 | .none,_,_,h,r=>by
  cases h;cases r;exact⟨_,Reads.none⟩
 | .bool b,_,_,h,r=>by
  cases h;cases r;exact⟨_,Reads.bool b⟩
 | .int i,_,_,h,r=>by
  cases h;obtain⟨t,rfl⟩:=r;exact⟨_,Reads.int i t⟩
 | .str x,_,_,h,r=>by
  cases h;obtain⟨t,rfl⟩:=r;exact⟨_,Reads.str x t⟩
 | .list ds,_,_,h,r=>by
  cases h with
  |lst hs ha=>
   cases r;obtain⟨e,rv,⟨o,n,j,p,_,hd⟩,_⟩:=I.list hs;obtain⟨as,g⟩:=Dp.readsAll I ds _ e ha rv;exact⟨_,Reads.list j p hd g⟩
 | .tuple ds,_,_,h,r=>by
  cases h with
  |tup hs ha=>
   cases r;obtain⟨e,rv,⟨o,j,p,n,hd⟩,_⟩:=I.tuple hs;obtain⟨as,g⟩:=Dp.readsAll I ds _ e ha rv;exact⟨_,Reads.tuple j p hd g⟩
 | .dict _,_,_,h,_=>by cases h
theorem Dp.readsAll(I:Inv X pins σ H s):∀(e:List rL) (vs:List V) (us:List ag),uX X.K H vs e->Vals vs us->∃as,ReadsAll s.heap us e as
 | [],_,_,h,r=>by
  cases h;cases r;exact⟨_,ReadsAll.nil⟩
 |d::e,_,_,h,r=>by
  cases h with
  |cons h1 h2=>
   cases r with
   |cons r1 r2=>
    obtain⟨as,j⟩:=Dp.reads I d _ _ h1 r1;obtain⟨bs,g⟩:=Dp.readsAll I e _ _ h2 r2;exact⟨_,ReadsAll.cons j g⟩
end
end
section
variable {X:Cx}
def rNeD(K:PySem.W.Frag):R2:=fun x y H Q=>∃d e,Dp K H x d/\Dp K H y e/\xa d=true/\xa e=true/\Q (.bl (!PyData.eqv d e)) H
theorem IA(C:X.A.units+64 < rm):uP X (eR .NotEq) (rNeD X.K):=by
 intro pins s σ H x y v u Q I r p h;obtain⟨d,e,hd,D,j,g,q⟩:=h;obtain⟨as,B⟩:=Dp.reads I d x v hd r;obtain⟨bs,z⟩:=Dp.reads I e y u D p;exact SeqAt.compareNe_shaped B z j g C ⟨.bl _,H,I,rfl,q⟩
end
end L2
namespace L2
open PySem PySem.Spec PyProof.Rows
abbrev Dz(h:bH)(c:aa)(v:Option ag):Prop:=h.IsCell c v
def relS(e g:gv):gv:=
 { e with names:=e.names.map fun(n,k)=>if(k == .free&&g.kind == .function&&g.names.lookup n == some .cell)then(n, .cell)else(n,k) }
def dO(cells:List (aQ×aa)):List (aQ×eS)->List (aQ×aa)->List (aQ×aa)
 | [],acc=>acc
 | (n,k)::r,acc=>if k == .free then dO cells r ((n,(cells.lookup n).getD 0)::acc)else dO cells r acc
theorem oD(env:m4)(f:aQ×eS->List (aQ×aa)->CQ (ForInStep (List (aQ×aa))))
  (p:∀n k c,f (n,k) c=if k == .free then(do let a <-cellOf env n;pure (.yield ((n,a)::c)))else pure (.yield c)):
  ∀(names:List (aQ×eS)) (acc:List (aQ×aa)),(∀y∈names,y.2= .free->∃c,env.cells.lookup y.1=some c)->forIn names acc f=pure (dO env.cells names acc)
 | [],acc,_=>by rw[Hg];rfl
 | (n,k)::r,acc,h=>by
  rw[List.forIn_cons,p];have j:=fun acc=>oD env f p r acc fun y u=>h y (ak _ u);unfold dO;by_cases g: (k == gN)=true
  ·rw[qab g,qab g];obtain⟨c,q⟩:=h (n,k) af (by simpa using g);have e:cellOf env n=pure c:=by unfold cellOf;rw[q]
   rw[e];have v: (env.cells.lookup n).getD 0=c:=by rw[q];rfl
   rw[v];exact j _
  ·rw[qaa g,qaa g];exact j _
theorem zj{e:gv}{env:m4}(h:∀y∈e.names,y.2= .free->∃c,env.cells.lookup y.1=some c):closureFor e env=pure (dO env.cells e.names []):=by
 simp only[closureFor];rw[oD env _ (fun n k c=>rfl) e.names [] h];rfl
theorem nL{g:Type} :∀ {l:List (aQ×g)} {n:aQ} {c:g},(n,c)∈l->∃p,l.lookup n=some p
 | (k,v)::r,n,c,h=>by
  rw[bS];cases j:n == k with
  |true=>exact⟨_,rfl⟩
  |false=>
   rcases am.mp h with e|h
   ·cases e;simp at j
   ·exact nL h
theorem jw{cells:List (aQ×aa)} :∀ {names:List (aQ×eS)} {acc:List (aQ×aa)} {n:aQ} {c:aa},(n,c)∈dO cells names acc->(n,c)∈acc\/((n, .free)∈names/\c= (cells.lookup n).getD 0)
 | [],_,_,_,h=> .inl h
 | (m,k)::r,acc,n,c,h=>by
  unfold dO at h;split at h
  ·rename_i g;have g:k= .free:=by simpa using g
   rcases jw h with h| ⟨h1,h2⟩
   ·rcases am.mp h with e|h
    ·cases e;exact .inr ⟨g ▸ af,rfl⟩
    ·exact .inl h
   ·exact .inr ⟨ak _ h1,h2⟩
  ·rcases jw h with h| ⟨h1,h2⟩
   ·exact .inl h
   ·exact .inr ⟨ak _ h1,h2⟩
theorem l4{cells:List (aQ×aa)} :∀ {names:List (aQ×eS)} {acc:List (aQ×aa)} {p:aQ×aa},p∈acc->p∈dO cells names acc
 | [],_,_,h=>h
 | (m,k)::r,acc,p,h=>by
  unfold dO;split
  ·exact l4 (ak _ h)
  ·exact l4 h
theorem l6{cells:List (aQ×aa)} :∀ {names:List (aQ×eS)} {acc:List (aQ×aa)} {n:aQ},(n, .free)∈names->(n,(cells.lookup n).getD 0)∈dO cells names acc
 | (m,k)::r,acc,n,h=>by
  unfold dO;rcases am.mp h with e|h
  ·cases e;exact l4 af
  ·split
   ·exact l6 h
   ·exact l6 h
theorem jY:∀ {names:List (aQ×eS)} {h:bH} {acc:List (aQ×aa)} {x:aQ} {c:aa},(x,c)∈di h.objs.size names acc->
  (x,c)∈acc\/((x, .cell)∈names/\h.objs.size<=c/\Dz (kn h names) c none)
 | [],_,_,_,_,h=> .inl h
 | (n,k)::r,h,acc,x,c,hm=>by
  unfold di at hm;unfold kn;split at hm
  ·rename_i g;rw[qab g];have g:k= .cell:=by simpa using g
   rw[<-dq h { cls:= .type "cell",data:= .cell none }]at hm;rcases jY hm with hm| ⟨h1,h2,h3⟩
   ·rcases am.mp hm with e|hm
    ·cases e;exact .inr ⟨g ▸ af,aC _,_,om r _ _ _ (cm _ rfl),rfl⟩
    ·exact .inl hm
   ·rw[dq]at h2;exact .inr ⟨ak _ h1,ko h2,h3⟩
  ·rename_i g;rw[qaa g];rcases jY hm with hm| ⟨h1,h2,h3⟩
   ·exact .inl hm
   ·exact .inr ⟨ak _ h1,h2,h3⟩
theorem mJ:∀ {names:List (aQ×eS)} {n:Nat} {acc:List (aQ×aa)} {p:aQ×aa},p∈acc->p∈di n names acc
 | [],_,_,_,h=>h
 | (m,k)::r,n,acc,p,h=>by
  unfold di;split
  ·exact mJ (ak _ h)
  ·exact mJ h
theorem pE:∀ {names:List (aQ×eS)} {n:Nat} {acc:List (aQ×aa)} {x:aQ},(x, .cell)∈names->∃c,(x,c)∈di n names acc
 | (m,k)::r,n,acc,x,h=>by
  unfold di;rcases am.mp h with e|h
  ·cases e;exact⟨n,mJ af⟩
  ·split
   ·exact pE h
   ·exact pE h
theorem pF:∀ {names:List (aQ×eS)} {h:bH} {acc:List (aQ×aa)} {x y:aQ} {c:aa},(∀p∈acc,p.2 < h.objs.size)->(∀x y c,(x,c)∈acc->(y,c)∈acc->x=y)->
  (x,c)∈di h.objs.size names acc->(y,c)∈di h.objs.size names acc->x=y
 | [],_,_,_,_,_,_,hi,h1,h2=>hi _ _ _ h1 h2
 | (n,k)::r,h,acc,x,y,c,hl,hi,h1,h2=>by
  unfold di at h1 h2;split at h1
  ·rename_i g;rw[qab g]at h2;rw[<-dq h { cls:= .type "cell",data:= .cell none }]at h1 h2;refine pF (h:=h.push _) (fun p hp=>?_) (fun x y c a b=>?_) h1 h2
   ·rw[dq];rcases am.mp hp with rfl|hp
    ·exact cS _
    ·exact dD (hl p hp)
   ·rcases am.mp a with e|a<;>rcases am.mp b with e'|b
    ·cases e;cases e';rfl
    ·cases e;exact absurd (hl _ b) (dA _)
    ·cases e';exact absurd (hl _ a) (dA _)
    ·exact hi _ _ _ a b
  ·rename_i g;rw[qaa g]at h2;exact pF hl hi h1 h2
theorem xx{M:tY}{A:cC}{E:ag->ap->Prop}{s:ap}{e:gv}{p:aa}{g:List (aQ×aa)}{r:aQ}{u:Option aa}{v:ag}{q:m4}{j:aa}{Q:m4->ap->Prop}
  (h:Q (newEnv e s.heap.objs.size p (di (s.heap.objs.size+1) e.names g) r u v (some q) j)
   { s with heap:=kn (s.heap.push { cls:= .type "dict",data:= .dict #[] }) e.names }):
  wpAny M A (newFunctionEnv e p g [] r u v (some q) j) Q E s:=by
 simp only[newFunctionEnv,z6,if_true];refine bc (wpAny_alloc ?_);refine bc (wpAny_layCells _ (fun n k c=>rfl) e.names g _ _ ?_);rw[show({ s with heap:=s.heap.push { cls:= .type "dict",data:= .dict #[] } } :ap).heap.objs.size=s.heap.objs.size+1 from dq ..];rw[Hg];exact bc (cH (cH h))
theorem l7{e:gv} :∀ {names:List (aQ×eS)} {x:aQ} {k:eS},
  (names.map fun(n,k)=>if(k == gN&&e.kind == .function&&e.names.lookup n == some .cell)then(n,tW)else(n,k)).lookup x=some k->
  ∃p,names.lookup x=some p/\(k=p\/(p= .free/\k= .cell))
 | [],_,_,h=>by simp at h
 | (n,k₀)::r,x,k,h=>by
  have q:= @l7 e r x k;have h':fH x ((if(k₀ == gN&&e.kind == .function&&e.names.lookup n == some .cell)=true then(n,tW)else(n,k₀))::(r.map _))=some k:=h;cases j:x == n with
  |true=>
   simp only[bS,j];by_cases g: (k₀ == gN&&e.kind == .function&&e.names.lookup n == some .cell)=true
   ·rw[qab g]at h';simp only[bS,j]at h';cases h';simp only[bY,beq_iff_eq]at g;exact⟨k₀,rfl, .inr ⟨g.1.1,rfl⟩⟩
   ·rw[qaa g]at h';simp only[bS,j]at h';cases h';exact⟨_,rfl, .inl rfl⟩
  |false=>
   simp only[bS,j];by_cases g: (k₀ == gN&&e.kind == .function&&e.names.lookup n == some .cell)=true
   ·rw[qab g]at h';simp only[bS,j]at h';exact q h'
   ·rw[qaa g]at h';simp only[bS,j]at h';exact q h'
structure Ap(N:List aQ)(sc scope:gv)(own:List (aQ×Nat)):Prop where
 kind:scope.kind= .function
 uniq:∀y∈scope.names,scope.names.lookup y.1=some y.2
 ix:∀p∈own,N[p.2]? =some p.1
 free:∀y∈scope.names,y.2= .free->sc.names.lookup y.1=some .cell\/sc.names.lookup y.1=some .free
 own:∀y∈scope.names,y.2= .local\/y.2= .cell->y.1∈own.map (·.1)\/y.1∉N
def iu(σ:St):List Nat->St
 | []=>σ
 |v::vs=>(iu σ vs).set v none
theorem l8(σ:St):∀vs:List Nat,(iu σ vs).length=σ.length
 | []=>rfl
 |v::vs=>by unfold iu;rw[List.length_set,l8 σ vs]
theorem pG{σ:St}{i:Nat}{x:V} :∀ {vs:List Nat},(iu σ vs)[i]? =some (some x)->σ[i]? =some (some x)/\i∉vs
 | [],h=>⟨h,by simp⟩
 |v::vs,h=>by
  unfold iu at h;by_cases g:v=i
  ·subst g;by_cases j:v < (iu σ vs).length
   ·rw[lE j]at h;cases h
   ·rw[y0 (by simpa using j)]at h;cases h
  ·rw[m5 g]at h;obtain⟨q,p⟩:=pG h;exact⟨q,by simp only[am,not_or];exact⟨fun e=>g e.symm,p⟩⟩
abbrev Cx.blk(X:Cx)(s:ap)(H:Hp)(e:gv)(g:m4)(h:List aa):Cx:= { X with s₀:=s,H₀:=H,env:=g,outer:=X.stack,ex:=h,fn:=fun x=>e.names.lookup x == some .cell,pn:= [],xe:=fun _ _=>False }
section
variable {X:Cx}{pins:List (aa×dX)}{σ:St}{H:Hp}{s:ap}
theorem xy{g:gv}{own:List (aQ×Nat)}{F:List aa}(I:Inv X pins σ H s)(ok:Ap X.N X.env.scope g own)(J:X.N.Nodup)(x:∀b∈F,uf X pins H b/\b < s.heap.objs.size):
  Inv (X.blk s H g (jp g (di (s.heap.objs.size+1) g.names (dO X.env.cells g.names [])) s.heap.objs.size X.env) F) [] (iu σ (own.map (·.2))) H { s with heap:=kn (s.heap.push { cls:= .type "dict",data:= .dict #[] }) g.names } :=by
 have C:∀y∈g.names,y.2= .free->∃c,X.env.cells.lookup y.1=some c:=fun y hy e=>by
  rcases ok.free y hy e with k|k
  ·exact I.ok.has _ (.inl k)
  ·exact I.ok.has _ (.inr k)
 generalize h:jp g (di (s.heap.objs.size+1) g.names (dO X.env.cells g.names [])) s.heap.objs.size X.env=cenv;have kp:∀b o,s.heap.get? b=some o->(kn (s.heap.push { cls:= .type "dict",data:= .dict #[] }) g.names).get? b=some o:=fun b o e=>om _ _ _ _ (bn _ e);have E:cenv.locals=s.heap.objs.size:=by rw[<-h];rfl
 have u:cenv.cells=di (s.heap.objs.size+1) g.names (dO X.env.cells g.names []):=by rw[<-h];rfl
 have B:cenv.scope=relS g X.env.scope:=by rw[<-h];rfl
 rw[<-dq s.heap { cls:= .type "dict",data:= .dict #[] }]at u;have D:∀ {y c},(y,c)∈dO X.env.cells g.names []->X.env.cells.lookup y=some c/\c < s.heap.objs.size:=fun {y c} v=>by
  rcases jw v with v| ⟨j,rfl⟩
  ·cases v
  ·obtain⟨c,G⟩:=C _ j rfl;rw[G];obtain⟨w,z⟩:=I.cell _ _ G;exact⟨rfl,z.lt⟩
 have mem:∀ {y c},cenv.cells.lookup y=some c->(X.env.cells.lookup y=some c/\c < s.heap.objs.size)\/(s.heap.objs.size+1<=c/\Dz (kn (s.heap.push { cls:= .type "dict",data:= .dict #[] }) g.names) c none):=fun {y c} e=>by
  rw[u]at e;rcases jY (PySem.mem_of_lookup e)with v| ⟨_,h2,h3⟩
  ·exact .inl (D v)
  ·rw[dq]at h2;exact .inr ⟨h2,h3⟩
 have look:∀ {y},g.names.lookup y=some .free->∃c,cenv.cells.lookup y=some c/\X.env.cells.lookup y=some c:=fun {y} hl=>by
  have hy: (y,gN)∈g.names:=PySem.mem_of_lookup hl;obtain⟨c',e'⟩:=nL (mJ (names:=g.names) (n:=(s.heap.push { cls:= .type "dict",data:= .dict #[] }).objs.size) (l6 (cells:=X.env.cells) (acc:= []) hy));rw[<-u]at e';refine⟨c',e',?_⟩;rw[u]at e';rcases jY (PySem.mem_of_lookup e')with v| ⟨j,_,_⟩
  ·exact(D v).1
  ·have:=ok.uniq _ j;rw[hl]at this;cases this
 have okB: (X.blk s H g cenv F).Ok:=by
  refine⟨I.ok.mod,by show cenv.scope.kind=_;rw[B];exact ok.kind,by show cenv.globals=_;rw[<-h];exact I.ok.glob,by show cenv.builtins=_;rw[<-h];exact I.ok.blt,by show s.heap.objs.size<=cenv.locals;rw[E];exact aC _,
   fun y z c e1 e2=>?_,fun y hy=>?_,fun y c z e=>?_,I.ok.hd,I.ok.frames, .inl rfl,fun b hb=>⟨?_,fun y c e z=>?_⟩,I.bs,cn I.ok.bsz I.sz,fun b o e hb=>?_,fun b hb z=>?_,I.stack,I.stkFree⟩
  ·have e1:cenv.cells.lookup y=some c:=e1;have e2:cenv.cells.lookup z=some c:=e2;rw[u]at e1 e2;refine pF (fun p hp=>?_) (fun y z c a b=>I.ok.inj y z c (D a).1 (D b).1) (PySem.mem_of_lookup e1) (PySem.mem_of_lookup e2);rw[dq];exact dD (D (y:=p.1) (c:=p.2) hp).2
  ·show ∃c,cenv.cells.lookup y=some c;have key:∀k,cenv.kindOf y=some k->(k= .cell\/k= .free)->∃c,cenv.cells.lookup y=some c:=fun k hk hk'=>by
    unfold Env.kindOf at hk;rw[B]at hk;obtain⟨k',e,r⟩:=l7 hk;have:k'= .cell\/k'= .free:=by
     rcases r with rfl| ⟨rfl,_⟩
     ·exact hk'
     ·exact .inr rfl
    rcases this with rfl|rfl
    ·obtain⟨c,v⟩:=pE (n:=(s.heap.push { cls:= .type "dict",data:= .dict #[] }).objs.size) (acc:=dO X.env.cells g.names []) (PySem.mem_of_lookup e);obtain⟨c',e'⟩:=nL v;exact⟨c',by rw[u];exact e'⟩
    ·obtain⟨c,j,_⟩:=look e;exact⟨c,j⟩
   rcases hy with hy|hy
   ·exact key _ hy (.inl rfl)
   ·exact key _ hy (.inr rfl)
  ·have z: (g.names.lookup y == some tW)=true:=z;have z:g.names.lookup y=some .cell:=by simpa using z
   have e:cenv.cells.lookup y=some c:=e;rw[u]at e;rcases jY (PySem.mem_of_lookup e)with v| ⟨_,h2,_⟩
   ·rcases jw v with v| ⟨j,_⟩
    ·cases v
    ·have q:=ok.uniq _ j;rw[z]at q;cases q
   ·rw[dq]at h2;exact ko h2
  ·show b≠cenv.locals;rw[E];exact db (x b hb).2
  ·have e:cenv.cells.lookup y=some c:=e;rcases mem e with⟨j,_⟩ | ⟨j,_⟩
   ·exact(x b hb).1.2.2.2.2.1 y c j z
   ·have h2:s.heap.objs.size+1<=b:=by rw[<-z];exact j
    exact absurd (bC (x b hb).2 (ko h2)) (dA _)
  ·rcases(x b hb).1.2.2.2.1 with z|z
   ·exact I.ok.noex b o e z
   ·exact absurd (bC (bv e) (cn I.ok.bsz z)) (dA _)
  ·rcases am.mp (I.stkSub b z)with z|z
   ·exact(x b hb).1.2.1 z
   ·exact(x b hb).1.2.2.1 z
 refine⟨okB,rfl,I.bare,Un.kept kp,⟨fun _=>none,?_,fun i y av e1 e2 e3=>?_⟩,fun y c e=>?_,?_,fun y c e=>?_,fun p hp=>?_,I.hok.kept kp,by rw[l8];exact I.len⟩
 ·show Heap.Ns _ cenv.locals _;rw[E];exact Heap.Ns.keeps (Heap.Ns.new ..) fun b o e=>om _ _ _ _ e
 ·obtain⟨e2,hne⟩:=pG e2;have hfr:g.names.lookup y=some .free/\(cenv.kindOf y=some .cell\/cenv.kindOf y=some .free):=by
   have key:∀k,cenv.scope.names.lookup y=some k->k= .local\/k= .cell\/k= .free->g.names.lookup y=some .free/\(cenv.kindOf y=some .cell\/cenv.kindOf y=some .free):=fun k hk hk'=>by
    have hk0:=hk;rw[B]at hk;obtain⟨k',e,r⟩:=l7 hk;have no:¬(k'= .local\/k'= .cell):=fun hh=>by
     rcases ok.own _ (PySem.mem_of_lookup e) hh with e'|e'
     ·obtain⟨p,hp,hpy⟩:=bA.mp e';have e3:=ok.ix p hp;have:p.1=y:=hpy;rw[this]at e3;exact hne (bA.mpr ⟨p,hp,rZ J e3 e1⟩)
     ·exact e' (bd e1)
    rcases r with rfl| ⟨rfl,rfl⟩
    ·rcases hk' with rfl|rfl|rfl
     ·exact absurd (.inl rfl) no
     ·exact absurd (.inr rfl) no
     ·exact⟨e, .inr hk0⟩
    ·exact⟨e, .inl hk0⟩
   have e3:JQ cenv.scope y:=e3;rcases e3 with e3|e3|e3
   ·exact key _ e3 (.inl rfl)
   ·exact key _ e3 (.inr (.inl rfl))
   ·exact key _ e3 (.inr (.inr rfl))
  obtain⟨m,hn,hl⟩:=I.loc;have hvis:JQ X.env.scope y:=(ok.free _ (PySem.mem_of_lookup hfr.1) rfl).elim (fun k=> .inr (.inl k)) (fun k=> .inr (.inr k));obtain⟨w,r,q⟩:=hl i y av e1 e2 hvis;refine⟨w,r, .inr ⟨hfr.2,?_⟩⟩;obtain⟨c,j,h2⟩:=look hfr.1;rcases q with⟨k,_⟩ | ⟨_,c',e',z⟩
  ·have k:X.env.scope.names.lookup y=some .local:=k;rcases ok.free _ (PySem.mem_of_lookup hfr.1) rfl with k'|k'<;>rw[show X.env.scope.names.lookup y=_ from k']at k<;>cases k
  ·rw[h2]at e';cases e';exact⟨c,j,z.keeps kp⟩
 ·have e:cenv.cells.lookup y=some c:=e;rcases mem e with⟨j,_⟩ | ⟨_,z⟩
  ·obtain⟨w,z⟩:=I.cell y c j;exact⟨w,z.keeps kp⟩
  ·exact⟨_,z⟩
 ·show H cenv.locals=none;rw[E];exact I.hok.fresh (aC _)
 ·have e:cenv.cells.lookup y=some c:=e;rcases mem e with⟨j,_⟩ | ⟨j,_⟩
  ·exact I.freeC y c j
  ·exact I.hok.fresh (ko j)
 ·exact absurd (show p∈([]:List (aa×dX))++ []from hp) (by simp)
theorem IB{E:ag->ap->Prop}{D:aa}{xs:List V}{y:V}{v:ag}{Q:ag->ap->Prop}(I:Inv X pins σ H s)(z:H D=some (.lst xs))(F:xs.length < aO)(r:RelV y v)
  (h:∀p,Inv X pins σ (dJ H D (.lst (xs++ [y]))) p->Q .none p):wpAny (bj X.prog X.w) X.A (call (.builtin "list.append") [.ref D,v]) Q E s:=by
 obtain⟨C,j,n,x,e⟩:=I.hok D _ z;have J:=x.length;refine append_at (hsz:=by rw[bX];lia) e fun h' B g=>?_;refine h { s with heap:=h' } (I.write (t':=s.toks) (by rw[z];trivial) (.inl rfl) (fun b u G q=>(B.2 b G).trans q) ⟨_,g⟩ ⟨by rw[au];exact F,j++ [v],n+1,x.append (.cons r .nil),?_⟩);rw[g];simp
def PTs(X:Cx)(e:List c7)(t:TT):Prop:=
 ∀(pins:List (aa×dX)) (s:ap) (σ:St) (H:Hp) (Q:Bool->Hp->Prop),Inv X pins σ H s->t σ H Q->
  wpAny (bj X.prog X.w) X.A (forIn e true fun c r=>if r=true then do let ok <-HS c X.env (dr c X.env);pure (kq ok)else pure (kq r)) (TP X pins σ Q) X.xe s
def tYes:TT:=fun _ H Q=>Q true H
theorem oE:PTs X [] tYes:=fun _ _ _ H _ I h=>wpAny_tests_nil ⟨H,I,h⟩
end
theorem BO{e:Type}{t:CQ e}{Q g:e->ap->Prop}{M:tY}{A:cC}{E:ag->ap->Prop}{s:ap}(h:wpAny M A t Q (fun _ _=>False) s)(j:∀a s,Q a s->g a s):wpAny M A t g E s:=cu h j fun _ _ z=>False.elim z
theorem vV{prog:aZ}{w:bB}{A:cC}{R:Result->ap->Prop}{s:ap}{J target C:c7}{F:List c7}{q:gv}{O:lK}{W acc:ag}{env:m4}(I:Nat->ap->Prop)
  (M:∀n s,I n s->wpAny (bj prog w) A (pyNext W) (fun r p=>match r with
   |none=>R (.ok .next) p
   |some v=>wpAny (bj prog w) A (oj target W v) (fun _ j=>wpAny (bj prog w) A (assign target env v) (fun _ B=>
     wpAny (bj prog w) A (forIn F true fun c r=>if r=true then do let ok <-HS c env (dr c env);pure (kq ok)else pure (kq r)) (fun ok g=>
      if ok=true then wpAny (bj prog w) A (dr J env) (fun x z=>
       wpAny (bj prog w) A (call (.builtin "list.append") [acc,x]) (fun _ y=>∃m,m < n/\I m y) (yT (bj prog w) A env fun e u=>R (.error e) u) z) (yT (bj prog w) A env fun e u=>R (.error e) u) g
      else ∃m,m < n/\I m g) (yT (bj prog w) A env fun e u=>R (.error e) u) B) (yT (bj prog w) A env fun e u=>R (.error e) u) j) (yT (bj prog w) A env fun e u=>R (.error e) u) p) (yT (bj prog w) A env fun e u=>R (.error e) u) s)
  (n:Nat) (h:I n s):
  codeAny (bj prog w) A (.compLoop (.ListComp J [⟨target,C,F,0⟩] q O) 0 W acc env) R s:=by
 refine codeAny_loop rfl I (fun n s X=>?_) n h;show wpAny _ A ((compTurn (.ListComp J [⟨target,C,F,0⟩] q O) 0 W acc env).onRaise (fun x=>do qw x env;theTreesLotGoes x)) _ _ s;refine wpAny_noted ?_;rw[compTurn_list];refine bc (lM (bc (cu (M n s X) (fun r p E=>?_) fun _ _ h'=>h')));cases r with
 |none=>exact cH E
 |some v=>
  refine bc (cu E (fun _ j G=>?_) fun _ _ h'=>h');refine bc (cu G (fun _ B U=>bc (cu U (fun ok g D=>?_) fun _ _ h'=>h')) fun _ _ h'=>h');cases ok with
  |false=>exact cH ⟨rfl,D⟩
  |true=>
   exact bc (bc (cu D (fun x z S=>bc (cu S (fun _ y Q=>cH (cH ⟨rfl,Q⟩)) fun _ _ h'=>h')) fun _ _ h'=>h'))
section
variable {X:Cx}
def tLc(r:TI)(g:TG)(u:TT)(v:TE)(vs:List Nat):TE:=fun σ H Q=>r σ H fun J H1=>∀D,H1 D=none->∃W:Nat->Nat->Hp->Prop,(∃m,W 0 m (dJ H1 D (.lst [])))/\∀i m H,W i m H->
 (J.stop i H/\Q (.ref D) H)\/(J.go i H/\∃h:Hp->Prop,(∀H',h H'->∃j,j < m/\W (i+1) j H')/\∀x H',J.yld i H x H'->g x (iu σ vs) H' fun e z=>iu e vs=iu σ vs/\u e z fun b q=>
  if b=true then v e q fun y p=>∃acc,p D=some (.lst acc)/\acc.length < aO/\h (dJ p D (.lst (acc++ [y])))else h q)
theorem FO{pins:List (aa×dX)}{s:ap}{σ:St}{H:Hp}{Q:VK}{Y tg M:c7}{U:List c7}{B:gv}{own:List (aQ×Nat)}{pos a3:lK}{wi:TI}{g:TG}{tt:TT}{te:TE}{use:Option (ag->CQ Unit)}{Qf:ag->ap->Prop}
  (hc:X.calm=true) (hN:X.N.Nodup) (I:Inv X pins σ H s) (hi:PI X tg M wi) (ok:Ap X.N X.env.scope B own)
  (hg:∀(s:ap) (H:Hp) (C:aa) (cl:List (aQ×aa)) (E:List aa),PG (X.blk s H B (jp B cl C X.env) E) tg g) (ht:∀(s:ap) (H:Hp) (C:aa) (cl:List (aQ×aa)) (E:List aa),PTs (X.blk s H B (jp B cl C X.env) E) U tt)
  (he:∀(s:ap) (H:Hp) (C:aa) (cl:List (aQ×aa)) (E:List aa),PE (X.blk s H B (jp B cl C X.env) E) Y te) (hs:∀x,t7 M X.env x=pure x)
  (h:tLc wi g tt te (own.map (·.2)) σ H Q)
  (hRR:∀D C O m H',Inv X pins σ H' O->Q (.ref D) H'->O.heap.Ns C m->uf X pins H' C->compPost (bj X.prog X.w) X.A X.xe use Qf (.ref D) C (.ok .next) O):
  wpAny (bj X.prog X.w) X.A (comprehension (.ListComp Y [⟨tg,M,U,0⟩] B pos) B X.env a3 (newList []) false (dr M X.env) use) Qf X.xe s:=by
 have a1:∀y∈B.names,y.2= .free->∃c,X.env.cells.lookup y.1=some c:=fun y hy e=>by
  rcases ok.free y hy e with k|k
  ·exact I.ok.has _ (.inl k)
  ·exact I.ok.has _ (.inr k)
 refine wpAny_comprehension_free (use:=use) rfl hs (zj a1) ok.kind (fun y hy e=>by rw[ok.uniq y hy,e])
  (fe (hi pins s σ H _ I h) fun xv s1 hx=>fe hx fun itv s2 h2=>?_)
 obtain⟨it,E,tn,J,H2,e,I2,T,st2,f2,q⟩:=h2;subst e;refine JH (xx ?_) (by show 0<=aO;decide);generalize hD:s2.heap.objs.size=D;have hDn:H2 D=none:=I2.hok.fresh (jn hD);obtain⟨W,⟨m0,w0⟩,a2⟩:=q D hDn
 -- the new list
 generalize hs3: ({ s2 with heap:=s2.heap.push { cls:= .type "list",data:= .seq ([]:List ag).toArray } } :ap)=s3;have I3:Inv X pins σ (dJ H2 D (.lst [])) s3:=by
  rw[<-hs3];refine I2.laid (t':=s2.toks) (fun b o e=>bn _ e) (jn hD) ⟨cr _, [],0, .nil,?_⟩;rw[<-hD];exact cm _ rfl
 have h3:s3.heap=s2.heap.push { cls:= .type "list",data:= .seq ([]:List ag).toArray } :=by rw[<-hs3]
 have sz:∀b∈E,b < s2.heap.objs.size:=fun b F=>by
  obtain⟨o,e,_⟩:=T.obj _ _ st2 b F;exact bv e
 have f3:∀b∈E,uf X pins (dJ H2 D (.lst [])) b/\b < s3.heap.objs.size:=fun b F=>by
  have hlt:=sz b F;refine⟨⟨?_,(f2 b F).2⟩,by rw[h3,dq];exact dD hlt⟩;rw[aY (by rw[<-hD];exact db hlt)];exact(f2 b F).1
 have st3:tn 0 s3.heap:=T.keep _ _ _ st2 fun b _ o e=>by rw[h3];exact bn _ e
 have I4:=xy I3 ok hN f3;have pg:=hg s3 (dJ H2 D (.lst [])) s3.heap.objs.size (di (s3.heap.objs.size+1) B.names (dO X.env.cells B.names [])) E;have pt:=ht s3 (dJ H2 D (.lst [])) s3.heap.objs.size (di (s3.heap.objs.size+1) B.names (dO X.env.cells B.names [])) E;have pe:=he s3 (dJ H2 D (.lst [])) s3.heap.objs.size (di (s3.heap.objs.size+1) B.names (dO X.env.cells B.names [])) E;show codeAny _ _ (.compStart (.ListComp Y [⟨tg,M,U,0⟩] B pos) 0 (.ref it) (.ref D) (jp B (di (s3.heap.objs.size+1) B.names (dO X.env.cells B.names [])) s3.heap.objs.size X.env)) (compPost (bj X.prog X.w) X.A X.xe use Qf (.ref D) s3.heap.objs.size) { s3 with heap:=kn (s3.heap.push { cls:= .type "dict",data:= .dict #[] }) B.names };have nfp:∀b∈E,(dJ H2 D (.lst [])) b=none:=fun b F=>(f3 b F).1.1;generalize hce:jp B (di (s3.heap.objs.size+1) B.names (dO X.env.cells B.names [])) s3.heap.objs.size X.env=ce at I4 pg pt pe ⊢;have cL:ce.locals=s3.heap.objs.size:=by subst hce;rfl
 generalize hH3:dJ H2 D (.lst [])=H3 at I3 I4 pg pt pe w0 nfp f3;generalize hs4: ({ s3 with heap:=kn (s3.heap.push { cls:= .type "dict",data:= .dict #[] }) B.names } :ap)=s4 at I4 ⊢;have st4:tn 0 s4.heap:=T.keep _ _ _ st3 fun b _ o e=>by rw[<-hs4];exact om _ _ _ _ (bn _ e)
 have R:∀ {σ':St} {H':Hp} {O:ap},Inv (X.blk s3 H3 B ce E) [] σ' H' O->(∀b∈E,H' b=none)->∀b∈E,uf (X.blk s3 H3 B ce E) [] H' b:=fun {σ' H' O} I' hn b F=>
  ⟨hn b F,(I'.ok.exf b F).1,I'.ok.exfs b F, .inl F,fun x c e=>(I'.ok.exf b F).2 x c e,fun p hp=>absurd (show p∈([]:List (aa×dX))++ []from hp) (by simp)⟩
 have a0:codeAny (bj X.prog X.w) X.A (.compLoop (.ListComp Y [⟨tg,M,U,0⟩] B pos) 0 (.ref it) (.ref D) ce) (compPost (bj X.prog X.w) X.A X.xe use Qf (.ref D) s3.heap.objs.size) s4:=by
  refine vV (fun n O=>∃i H',Inv (X.blk s3 H3 B ce E) [] (iu σ (own.map (·.2))) H' O/\tn i O.heap/\(∀b∈E,H' b=none)/\W i n H') ?_ m0 ⟨0,H3,I4,st4,nfp,w0⟩;rintro n s5 ⟨i,H5,I5,st5,n5,w5⟩;rcases a2 i n H5 w5 with⟨stop,qq⟩ | ⟨go,Nx,hNx,step⟩
  ·have td:=T.done (X.blk s3 H3 B ce E) rfl rfl rfl hc i [] s5 _ H5 (fun _ _=>False) I5 (R I5 n5) st5 stop;refine BO td fun r s6 G=>?_;obtain⟨hr,I6⟩:=G;subst hr
   -- back in the def's context
   have I7:Inv X pins σ H5 s6:=I3.call' (ch:=E) I6.os I6.base I6.hok I6.bare fun b F=>⟨(f3 b F).1.2.2.2.1,(f3 b F).1.2.1,(f3 b F).1.2.2.2.2.1,(f3 b F).1.2.2.2.2.2⟩;have nC:H5 s3.heap.objs.size=none:=by
    have z:H5 ce.locals=none:=I6.free;rw[cL]at z;exact z
   obtain⟨m,hn,_⟩:=I6.loc;have hn:s6.heap.Ns ce.locals m:=hn;rw[cL]at hn;exact hRR D s3.heap.objs.size s6 m H5 I7 qq hn (I3.fpOk (aC _) nC)
  ·have ti:=T.item (X.blk s3 H3 B ce E) rfl rfl rfl hc i [] s5 _ H5 (fun _ _=>False) I5 (R I5 n5) st5 go;refine BO ti fun r s6 G=>?_;obtain⟨u,hr,h6⟩:=G;subst hr;refine BO h6 fun _ s7 G=>?_;obtain⟨x,H7,I7,r7,y7,st7,n7⟩:=G;have I7':=I7.pinned (R I7 n7) (T.obj _ _ st7);refine BO (pg _ s7 _ H7 x u _ I7' r7 (step x H7 y7)) fun _ s8 G=>?_;obtain⟨S,H8,I8,hw8,q8⟩:=G;refine BO (pt _ s8 S H8 _ I8 q8) fun b s9 G=>?_;obtain⟨H9,I9,q9⟩:=G
   -- the turn's end
   have fin:∀ {O:ap} {H':Hp},Inv (X.blk s3 H3 B ce E) ([]++r9 E s7.heap) S H' O->Nx H'->∃m,m < n/\∃i H',Inv (X.blk s3 H3 B ce E) [] (iu σ (own.map (·.2))) H' O/\tn i O.heap/\(∀b∈E,H' b=none)/\W i m H':=fun {O H'} I' nx=>by
    obtain⟨m',hm,w'⟩:=hNx H' nx;have Z:∀b∈E,∀o,s7.heap.get? b=some o->O.heap.get? b=some o/\H' b=none:=fun b F o e=>
     let z:=I'.pin (b,o) (aM _ (aM _ (nI F e)))
     ⟨z.1,z.2.1⟩
    have hl: (iu σ (own.map (·.2))).length=S.length:=by rw[<-hw8,l8]
    refine⟨m',hm,i+1,H',(I'.unpinned (pins:= [])).weak hl (fun j v e=>?_),T.keep _ _ _ st7 fun b F o e=>(Z b F o e).1,fun b F=>?_,w'⟩
    ·rw[<-hw8]at e;exact(pG e).1
    ·obtain⟨o,e,_⟩:=T.obj _ _ st7 b F;exact(Z b F o e).2
   cases b with
   |false=>
    simp only[Bool.false_eq_true,if_false]at q9 ⊢;exact fin I9 q9
   |true=>
    simp only[if_true]at q9 ⊢;refine BO (pe _ s9 S H9 _ I9 q9) fun z s10 G=>?_;obtain⟨yv,H10,I10,r10,acc,a5,a4,nx⟩:=G;exact IB (X:=X.blk s3 H3 B ce E) I10 a5 a4 r10 fun s11 I11=>fin I11 nx
 exact codeAny_compStart_list a0 (T.self X.A 0 _ _ _ st4 a0)
theorem xz{v y p:c7}{r:List c7}{j:gv}{own:List (aQ×Nat)}{z:lK}{B:TI}{g:TG}{E:TT}{F:TE}(Y:X.calm=true)(hN:X.N.Nodup)(S:PI X y p B)(ok:Ap X.N X.env.scope j own)
  (U:∀(s:ap) (H:Hp) (C:aa) (cl:List (aQ×aa)) (u:List aa),PG (X.blk s H j (jp j cl C X.env) u) y g) (M:∀(s:ap) (H:Hp) (C:aa) (cl:List (aQ×aa)) (u:List aa),PTs (X.blk s H j (jp j cl C X.env) u) r E)
  (W:∀(s:ap) (H:Hp) (C:aa) (cl:List (aQ×aa)) (u:List aa),PE (X.blk s H j (jp j cl C X.env) u) v F) (O:∀x,t7 p X.env x=pure x:=by intro _;rfl):
  PE X (.ListComp v [⟨y,p,r,0⟩] j z) (tLc B g E F (own.map (·.2))):=by
 intro pins s σ H Q I h;rw[eval_ListComp];refine FO Y hN I S ok U M W O h fun D C J m H' I' q R f=>⟨m,R,fun h'' G=>?_⟩;obtain⟨f0,f1,f2,f3,f4,f5⟩:=f;exact⟨.ref D,H',I'.turned (t':=J.toks) (fun b o Z e=>(G.2 b Z).trans e) f0 f1 f3 f4 f5,rfl,q⟩
end
theorem vW{K:PySem.W.Frag}{a:aa}{xs:List V}{g:TG}{C:TT}{E:TE}{vs:List Nat}{σ:St}{H1:Hp}{D:aa}{Qd:Hp->Prop}(j:Nat->Hp->Prop)(O:j 0 (dJ H1 D (.lst [])))(J:∀i H,i<=xs.length->j i H->SqL K H a xs)
  (I:∀i x H,xs[i]? =some x->j i H->g x (iu σ vs) H fun h B=>iu h vs=iu σ vs/\C h B fun b v=>
   if b=true then E h v fun y u=>∃acc,u D=some (.lst acc)/\acc.length < aO/\j (i+1) (dJ u D (.lst (acc++ [y])))else j (i+1) v) (hd:∀H,j xs.length H->Qd H):
  ∃W:Nat->Nat->Hp->Prop,(∃m,W 0 m (dJ H1 D (.lst [])))/\∀i m H,W i m H->
   ((Ht K a).stop i H/\Qd H)\/((Ht K a).go i H/\∃z:Hp->Prop,(∀H',z H'->∃F,F < m/\W (i+1) F H')/\∀x H',(Ht K a).yld i H x H'->g x (iu σ vs) H' fun h B=>iu h vs=iu σ vs/\C h B fun b v=>
    if b=true then E h v fun y u=>∃acc,u D=some (.lst acc)/\acc.length < aO/\z (dJ u D (.lst (acc++ [y])))else z v):=by
 refine⟨fun i m H=>m=xs.length - i/\i<=xs.length/\j i H,⟨xs.length,by simp,cr _,O⟩,?_⟩;rintro i m H ⟨rfl,M,p⟩;have q:=J i H M p;by_cases r:i < xs.length
 ·refine .inr ⟨⟨xs,xs[i],q,by simp[r]⟩,j (i+1),fun H' G=>⟨xs.length - (i+1),by lia,rfl,r,G⟩,fun x H' y=>?_⟩;obtain⟨e,y⟩:=y;subst e;exact I i x _ (y xs q) p
 ·have e:i=xs.length:=by lia
  subst e;exact .inl ⟨⟨xs,q,aC _⟩,hd H p⟩
def zk(N:List aQ)(g e:gv)(own:List (aQ×Nat)):Bool:=
 (match e.kind with| .function=>true|_=>false)&&(e.names.all fun y=>decide (e.names.lookup y.1=some y.2))&&(own.all fun p=>decide (N[p.2]? =some p.1))&&
  (e.names.all fun y=>match y.2 with
   | .free=>(match g.names.lookup y.1 with|some .cell=>true|some .free=>true|_=>false)
   | .local=>decide (y.1∈own.map (·.1)) || decide (y.1∉N)
   | .cell=>decide (y.1∈own.map (·.1)) || decide (y.1∉N)
   |_=>true)
theorem l9{N:List aQ}{p g:gv}{own:List (aQ×Nat)}(h:zk N p g own=true):Ap N p g own:=by
 unfold zk at h;simp only[bY,bw,decide_eq_true_eq]at h;obtain⟨⟨⟨u,x⟩,v⟩,r⟩:=h;refine⟨?_,x,v,fun y j e=>?_,fun y j e=>?_⟩
 ·split at u
  ·assumption
  ·cases u
 ·have q:=r y j;simp only[e]at q;split at q<;>first|exact .inl (by assumption) |exact .inr (by assumption) |cases q
 ·have q:=r y j;rcases e with e|e<;>(simp only[e,tX,decide_eq_true_eq]at q;exact q)
end L2
namespace L2
open PySem PySem.Spec PyProof.Rows
section
variable {κ:Type}[DecidableEq κ]
def gf(e:List (κ×V))(k:κ):Option V:=(e.find? fun g=>decide (g.1=k)).map (·.2)
def lA(e:List (κ×V))(k:κ)(v:V):List (κ×V):=
 if(e.any fun g=>decide (g.1=k))=true then e.map (fun g=>if g.1=k then(g.1,v)else g)else e++ [(k,v)]
theorem i9{p:κ×V}{r:List (κ×V)}{k:κ}(e:p.1=k):gf (p::r) k=some p.2:=by simp[gf,dH,e]
theorem ja{p:κ×V}{r:List (κ×V)}{k:κ}(e:¬p.1=k):gf (p::r) k=gf r k:=by simp[gf,dH,e]
theorem sk(k:κ):∀g:List (κ×V),(g.any fun h=>decide (h.1=k))= (gf g k).isSome
 | []=>rfl
 |p::r=>by
  rw[gj];by_cases e:p.1=k
  ·simp only[i9 e,qad e,qx,z6]
  ·rw[ja e,decide_eq_false e,kr];exact sk k r
theorem qB(e:List (κ×V))(k:κ)(v:V): (lA e k v).length<=e.length+1:=by
 unfold lA;split
 ·rw[ah];lia
 ·rw[au,ae,iL];lia
theorem xA{e:List (κ×V)}{k:κ}(v:V)(h:gf e k=none):lA e k v=e++ [(k,v)]:=by
 unfold lA;rw[sk,h];exact qaa (by decide)
theorem RelO.isSome_eq{o:Option V}{u:Option ag}(r:RelO o u):o.isSome=u.isSome:=by
 cases o with
 |none=>cases u with
  |none=>rfl
  |some _=>exact(show False from r).elim
 |some _=>cases u with
  |none=>exact(show False from r).elim
  |some _=>rfl
theorem KV.val{g:List (κ×V)}{vs:List (κ×ag)}(r:KV g vs)(k:κ):RelO (gf g k) (ub vs k):=by
 unfold KV at r;induction r with
 |nil=>exact True.intro
 | @cons p q ps qs h t ih=>
  obtain⟨u,v⟩:=h;by_cases e:p.1=k
  ·have j:q.1=k:=u.symm.trans e;have b:ub (q::qs) k=some q.2:=by simp[ub,dH,j]
   rw[i9 e,b];exact v
  ·have j:¬q.1=k:=fun z=>e (u.trans z);have b:ub (q::qs) k=ub qs k:=by simp[ub,dH,j]
   rw[ja e,b];exact ih
theorem KV.any{e:List (κ×V)}{vs:List (κ×ag)}(r:KV e vs)(k:κ): (e.any fun g=>decide (g.1=k))=vs.any fun g=>decide (g.1=k):=by
 unfold KV at r;induction r with
 |nil=>rfl
 |cons h t ih=>rw[gj,gj,ih,h.1]
theorem KV.repl{j:List (κ×V)}{vs:List (κ×ag)}(r:KV j vs)(k:κ){y:V}{u:ag}(x:RelV y u):
  KV (j.map fun g=>if g.1=k then(g.1,y)else g) (vs.map fun g=>if g.1=k then(g.1,u)else g):=by
 unfold KV at r ⊢;induction r with
 |nil=>exact .nil
 | @cons p q ps qs h t ih=>
  rw[bg,bg];refine .cons ?_ ih;obtain⟨v,B⟩:=h;by_cases e:p.1=k
  ·rw[qab e,qab (v.symm.trans e)];exact⟨v,x⟩
  ·rw[qaa e,qaa (fun z=>e (v.trans z))];exact⟨v,B⟩
theorem KV.put{g:List (κ×V)}{vs:List (κ×ag)}(r:KV g vs)(k:κ){y:V}{u:ag}(h:RelV y u):KV (lA g k y) (stored vs k u):=by
 unfold lA stored;rw[r.any k];by_cases e: (vs.any fun j=>decide (j.1=k))=true
 ·rw[qab e,qab e];exact r.repl k h
 ·rw[qaa e,qaa e];exact Paired.snoc r ⟨rfl,h⟩
theorem KV.length{e:List (κ×V)}{vs:List (κ×ag)}(r:KV e vs):e.length=vs.length:=Paired.length r
end
theorem xB{P:aZ}{w:bB}{k:g0}{u:ag}(r:RelV (kV k) u): (fC P w).is k u=true:=by
 cases k with
 |inl i=>obtain⟨t,e⟩:=(show ∃t,u=jk i t from r);subst e;exact xn P w i t
 |inr x=>obtain⟨t,e⟩:=(show ∃t,u=qV x t from r);subst e;exact xo P w x t
theorem uY{P:aZ}{w:bB} :∀ {e:List g0} {us:List ag},Vals (e.map kV) us->ItemsAre (fC P w) e us
 | [],_,r=>by rw[lF]at r;cases r;exact .nil
 |k::e,_,r=>by
  rw[bg]at r;cases r with
  |cons h t=>exact .cons (xB h) (uY t)
abbrev KT(H:Hp):List (List g0×V)->List (List g0×aa×ag)->Prop:=Paired fun p q=>p.1=q.1/\H q.2.1=some (.tup (p.1.map kV))/\RelV p.2 q.2.2
theorem KT.val{H:Hp}{g:List (List g0×V)}{xs:List (List g0×aa×ag)}(r:KT H g xs)(k:List g0):RelO (gf g k) ((y3 xs k).map (·.2)):=by
 induction r with
 |nil=>exact True.intro
 | @cons p q ps qs h t ih=>
  obtain⟨u,_,v⟩:=h;by_cases e:p.1=k
  ·have j:q.1=k:=u.symm.trans e;have b:y3 (q::qs) k=some q.2:=by simp[y3,dH,j]
   rw[i9 e,b];exact v
  ·have j:¬q.1=k:=fun z=>e (u.trans z);have b:y3 (q::qs) k=y3 qs k:=by simp[y3,dH,j]
   rw[ja e,b];exact ih
theorem KT.repl{H:Hp}{g:List (List g0×V)}{xs:List (List g0×aa×ag)}(r:KT H g xs)(k:List g0){y:V}{u:ag}(B:RelV y u):
  KT H (g.map fun v=>if v.1=k then(v.1,y)else v) (xs.map (putAt k u)):=by
 induction r with
 |nil=>exact .nil
 | @cons p q ps qs h t ih=>
  rw[bg,bg];refine .cons ?_ ih;obtain⟨j,x,C⟩:=h;unfold putAt;by_cases e:p.1=k
  ·rw[qab e,qab (j.symm.trans e)];exact⟨j,x,B⟩
  ·rw[qaa e,qaa (fun z=>e (j.trans z))];exact⟨j,x,C⟩
theorem KT.put{H:Hp}{g:List (List g0×V)}{xs:List (List g0×aa×ag)}(r:KT H g xs)(k:List g0){b:aa}{y:V}{u:ag}(p:H b=some (.tup (k.map kV)))(h:RelV y u):
  KT H (lA g k y) (storedH xs k b u):=by
 have e: (g.any fun j=>decide (j.1=k))= (y3 xs k).isSome:=by
  rw[sk,(r.val k).isSome_eq,dy]
 unfold lA storedH;rw[e];by_cases q: (y3 xs k).isSome=true
 ·rw[qab q,qab q];exact r.repl k h
 ·rw[qaa q,qaa q];exact Paired.snoc r ⟨rfl,p,h⟩
theorem KT.keeps{H H':Hp}{e:List (List g0×V)}{xs:List (List g0×aa×ag)}(r:KT H e xs)(h:∀b g,H b=some (.tup g)->H' b=some (.tup g)):KT H' e xs:=
 Paired.mapP r fun _ _ z=>⟨z.1,h _ _ z.2.1,z.2.2⟩
section
variable {P:aZ}{w:bB}{H:Hp}{h:bH}{a:aa}
theorem HC{u:HO}(ok:HOk P w H h)(e:Rd H a u):ObjOk P w H h a u:=e.ok ok
theorem uZ{g:List (g0×V)}(ok:HOk P w H h)(e:Rd H a (.dK g)):g.length<=aO/\(a == gM)=false/\∃vs,KV g vs/\h.DictOf (fC P w) a vs:=
 show ObjOk P w H h a (.dK g)from HC ok e
theorem KH{g:List (g0×V)}(ok:HOk P w H h)(e:H a=some (.dK g)):g.length<=aO/\(a == gM)=false/\∃vs,KV g vs/\h.DictOf (fC P w) a vs:=uZ ok (.inl e)
theorem sm{g:List g0}(ok:HOk P w H h)(e:H a=some (.tup (g.map kV))): (vI (fC P w)).is h g a:=by
 obtain⟨_,j,r,o,u,q,n,p⟩:=(show ObjOk P w H h a (.tup (g.map kV))from ok a _ e);exact⟨o,j.toArray,n,u,q,p,by simpa using uY r⟩
theorem xC{g:List (List g0×V)}(ok:HOk P w H h)(e:Rd H a (.dT g)):g.length<=aO/\(a == gM)=false/\
  ∃xs,KT H g xs/\h.DictOfH (vI (fC P w)) a xs:=by
 obtain⟨z,y,xs,r,o,D,E,C,B,v,u,j⟩:=(show ObjOk P w H h a (.dT g)from HC ok e);refine⟨z,y,xs,r,o,D,E,C,B,v,u,fun x hx=>?_,j⟩;have all:∀ {l:List (List g0×V)} {m:List (List g0×aa×ag)},KT H l m->∀x∈m,(vI (fC P w)).is h x.1 x.2.1:=by
  intro l m q;induction q with
  |nil=>intro x hx;exact nomatch hx
  | @cons p q ps qs hq t ih=>
   intro x hx;rcases am.mp hx with e|hx
   ·subst e;exact sm ok (by rw[<-hq.1];exact hq.2.1)
   ·exact ih x hx
 exact all r x hx
theorem KI{g:List (List g0×V)}(ok:HOk P w H h)(e:H a=some (.dT g)):g.length<=aO/\(a == gM)=false/\
  ∃xs,KT H g xs/\h.DictOfH (vI (fC P w)) a xs:=xC ok (.inl e)
end
def DGet(H:Hp)(a:aa)(y:V)(r:Option V):Prop:=
 (∃e k,Rd H a (.dK e)/\y=kV k/\r=gf e k)\/∃e k b,Rd H a (.dT e)/\y= .ref b/\H b=some (.tup (k.map kV))/\r=gf e k
def DPut(H:Hp)(a:aa)(y v:V)(H':Hp):Prop:=
 (∃e k,H a=some (.dK e)/\y=kV k/\e.length < aO/\H'=dJ H a (.dK (lA e k v)))\/
 ∃e k b,H a=some (.dT e)/\y= .ref b/\H b=some (.tup (k.map kV))/\e.length < aO/\H'=dJ H a (.dT (lA e k v))
theorem DGet.k{H:Hp}{a:aa}{g:List (g0×V)}{k:g0}(e:H a=some (.dK g)):DGet H a (kV k) (gf g k):= .inl ⟨g,k, .inl e,rfl,rfl⟩
theorem DPut.k{H:Hp}{a:aa}{g:List (g0×V)}{k:g0}{v:V}(e:H a=some (.dK g))(h:g.length < aO):DPut H a (kV k) v (dJ H a (.dK (lA g k v))):= .inl ⟨g,k,e,rfl,h,rfl⟩
section
variable {X:Cx}{pins:List (aa×dX)}{σ:St}{H:Hp}{s:ap}{a:aa}{y v:V}{u r:ag}{o:Option V}{A:cC}{E:ag->ap->Prop}
theorem Inv.big(I:Inv X pins σ H s):gM < s.heap.objs.size:=by
 have h:cf < s.heap.objs.size:=(I.mod.glob.keeps I.bk).lt;exact jl (by decide) h
theorem BP{Q:ag->ap->Prop}(J:A.units+1 < rm)(I:Inv X pins σ H s)(g:DGet H a y (some v))(G:RelV y u)(h:∀r F,Inv X pins σ H F->RelV v r->Q r F):
  wpAny (bj X.prog X.w) A (yQ (.ref a) u) Q E s:=by
 rcases g with⟨x,k,e,D,l⟩ | ⟨x,k,b,e,D,eb,l⟩
 ·subst D;obtain⟨z,hd,vs,q,dd⟩:=uZ I.hok e;obtain⟨r,B,j⟩:=RelO.some_of (v:=v) (o:=ub vs k) (by rw[l];exact q.val k);exact wpAny_getItem_of (xB G) dd.mapOf B (h r _ (I.tok _) j)
 ·subst D;cases(show u=bU b from G);obtain⟨z,hd,xs,q,dd⟩:=xC I.hok e;obtain⟨r,B,j⟩:=RelO.some_of (v:=v) (o:=(y3 xs k).map (·.2)) (by rw[l];exact q.val k);obtain⟨p,M,C⟩:=d7.mp B;refine wpAny_getItem_heap (kx J) (sm I.hok eb) dd M ?_;rw[C];exact h r _ (I.tok _) j
theorem d_in{Q:ag->ap->Prop}(B:A.units+1 < rm)(I:Inv X pins σ H s)(g:DGet H a y o)(x:RelV y u)(h:∀v,Inv X pins σ H v->Q (.bool o.isSome) v):
  wpAny (bj X.prog X.w) A (eR .In u (.ref a)) Q E s:=by
 rcases g with⟨p,k,e,r,l⟩ | ⟨p,k,b,e,r,eb,l⟩
 ·subst r;obtain⟨z,hd,vs,j,dd⟩:=uZ I.hok e;refine wpAny_in_of (xB x) hd dd.mapOf ?_;rw[<-(j.val k).isSome_eq,<-l];exact h _ (I.tok _)
 ·subst r;cases(show u=bU b from x);obtain⟨z,hd,xs,j,dd⟩:=xC I.hok e;refine wpAny_in_heap (kx B) (sm I.hok eb) hd dd ?_;have q:=(j.val k).isSome_eq;rw[dy]at q;rw[<-q,<-l];exact h _ (I.tok _)
theorem FP{Q:ag->ap->Prop}(B:A.units+1 < rm)(I:Inv X pins σ H s)(g:DGet H a y o)(x:RelV y u)(h:∀v,Inv X pins σ H v->Q (.bool (!o.isSome)) v):
  wpAny (bj X.prog X.w) A (eR .NotIn u (.ref a)) Q E s:=by
 rcases g with⟨p,k,e,r,l⟩ | ⟨p,k,b,e,r,eb,l⟩
 ·subst r;obtain⟨z,hd,vs,j,dd⟩:=uZ I.hok e;refine wpAny_notIn_of (xB x) hd dd.mapOf ?_;rw[<-(j.val k).isSome_eq,<-l];exact h _ (I.tok _)
 ·subst r;cases(show u=bU b from x);obtain⟨z,hd,xs,j,dd⟩:=xC I.hok e;refine wpAny_notIn_heap (kx B) (sm I.hok eb) hd dd ?_;have q:=(j.val k).isSome_eq;rw[dy]at q;rw[<-q,<-l];exact h _ (I.tok _)
theorem Aq{h':bH}{t':Nat}{g:HO}(I:Inv X pins σ H s)(h:Kj (H a))(j:qt a s.heap h')(p:∃q,h'.get? a=some q)(new:ObjOk X.prog X.w (dJ H a g) h' a g):
  Inv X pins σ (dJ H a g) { s with heap:=h',toks:=t' } :=
 I.write (x:=a) (e:=a) h (.inl rfl) (fun b q r z=>(j.2 b r).trans z) p new
theorem IC{P:aZ}{w:bB}{H':Hp}{h':bH}{e:List (g0×V)}{vs:List (g0×ag)}(z:e.length<=aO)(hd: (a == gM)=false)(g:KV e vs)(dd:h'.DictOf (fC P w) a vs):
  ObjOk P w H' h' a (.dK e):=⟨z,hd,vs,g,dd⟩
theorem BQ{H':Hp}{Q:Unit->ap->Prop}(S:A.units+1 < rm)(I:Inv X pins σ H s)(g:DPut H a y v H')(O:RelV y u)(rv:RelV v r)(h:∀M,Inv X pins σ H' M->Q () M):
  wpAny (bj X.prog X.w) A (setItem (.ref a) u r) Q E s:=by
 rcases g with⟨p,k,e,G,l,J⟩ | ⟨p,k,b,e,G,eb,l,J⟩
 ·subst G J;obtain⟨z,hd,vs,j,dd⟩:=KH I.hok e;have C:vs.length<=aO:=by rw[<-j.length];exact z
  have F: (lA p k v).length<=aO:=by have:=qB p k v;lia
  refine wpAny_setItem_pairs (hsz:=C) (xB O) dd fun h' x D=>h _ ?_;have U:∃q,h'.get? a=some q:=let⟨q,_,_,B,_⟩:=x;⟨q,B⟩;exact Aq I (by rw[e];exact True.intro) D U (IC F hd (j.put k rv) x)
 ·subst G J;cases(show u=bU b from O);obtain⟨z,hd,xs,j,dd⟩:=KI I.hok e;have C:xs.length<=aO:=by rw[<-Paired.length j];exact z
  have F: (lA p k v).length<=aO:=by have:=qB p k v;lia
  refine wpAny_setItem_heap (hsz:=C) (kx S) (sm I.hok eb) dd fun h' x D=>h _ ?_;obtain⟨q,es,ep,B,h2,Z,Y,_,W⟩:=x;refine Aq I (by rw[e];exact True.intro) D ⟨q,B⟩ ⟨F,hd,_,(j.put k eb rv).keeps fun c ys R=>?_,q,es,ep,B,h2,Z,Y,W⟩;rw[aY (xp R e (fun z=>nomatch z))];exact R
end
section
variable {X:Cx}{pins:List (aa×dX)}{σ:St}{H:Hp}{s:ap}{a:aa}{kvs:List (g0×V)}{k:g0}{u:ag}{A:cC}{E:ag->ap->Prop}
theorem KL{Q:ag->ap->Prop}(I:Inv X pins σ H s)(e:Rd H a (.dK kvs))(h:∀t j,Inv X pins σ H j->Q (.int kvs.length t) j):wpAny (bj X.prog X.w) A (call (.builtin "len") [.ref a]) Q E s:=by
 obtain⟨z,hd,vs,g,dd⟩:=uZ I.hok e;refine call_len_dict hd dd (by rw[<-g.length];rw[EV]at z;lia) ?_;rw[<-g.length];exact h _ _ (I.tok _)
end
def KM(i:c7):Prop:=∀e iv,wW i false e iv=operate [e,iv] (yQ e iv)
theorem FQ{prog:aZ}{w:bB}{A:cC}{E:ag->ap->Prop}{s:ap}{env:m4}{g e:c7}{z:lK}{T id:String}{Q:ag->ap->Prop}
  (D:typeLookup (.type T) "__getitem__"=pure (some (.builtin id))) (C:KM e)
  (h:wpAny (bj prog w) A (dr g env) (fun o u=>wpAny (bj prog w) A (dr e env) (fun i j=>j.TypeIs o T/\wpAny (bj prog w) A (yQ o i) Q E j) E u) E s):
  wpAny (bj prog w) A (dr (.Subscript g e z) env) Q E s:=by
 refine HW (cu h (fun o u y=>cu y (fun i j p=>?_) fun _ _ x=>x) fun _ _ x=>x);obtain⟨B,p⟩:=p;unfold Bl;refine bc ?_;rw[getitemInPython_of_ne B.not_modules];refine bc (wpAny_specialOf B D ?_);have fin:wpAny (bj prog w) A (wW e false o i) (fun r q=>wpAny (bj prog w) A (letTemporaryGo g o r >>= fun _=>pure r) Q E q) E j:=by
  rw[C o i];exact wpAny_operating (cu p (fun r q v=>bc (wpAny_letTemporaryGo (cH v))) fun _ _ x=>x)
 first
  |exact cH (bc fin)
  |exact bc (cH (bc fin))
  |exact bc fin
theorem xD{X:Cx}{pins:List (aa×dX)}{σ:St}{H:Hp}{s:ap}{a:aa}{y:V}{o:Option V}(I:Inv X pins σ H s)(g:DGet H a y o):s.TypeIs (.ref a) "dict":=by
 rcases g with⟨h,k,e,_,_⟩ | ⟨h,k,b,e,_,_,_⟩
 ·obtain⟨_,_,vs,_,dd⟩:=uZ I.hok e;exact dd.typeIs
 ·obtain⟨_,_,xs,_,dd⟩:=xC I.hok e;exact dd.typeIs
def KN(g ty:TE):TE:=fun σ H Q=>g σ H fun x H1=>ty σ H1 fun y e=>∃a v,x= .ref a/\DGet e a y (some v)/\Q v e
def tDIn(ty g:TE):TE:=fun σ H Q=>ty σ H fun y H1=>g σ H1 fun x e=>∃a o,x= .ref a/\DGet e a y o/\Q (.bl o.isSome) e
def FR(ty g:TE):TE:=fun σ H Q=>ty σ H fun y H1=>g σ H1 fun x e=>∃a o,x= .ref a/\DGet e a y o/\Q (.bl (!o.isSome)) e
def KO(g ty tv:TE):TS:=fun D σ H=>tv σ H fun v H1=>g σ H1 fun x j=>ty σ j fun y h=>∃a e,x= .ref a/\DPut h a y v e/\D.nx σ e
section
variable {X:Cx}{o i e value:c7}{pos pos' tpos:lK}{td ty tv:TE}
theorem oF(D:X.A.units+1 < rm)(G:PE X o td)(J:PE X i ty)(E:KM i):PE X (.Subscript o i pos) (KN td ty):=by
 intro pins s σ H Q I h;refine FQ PySem.F.slot_dict_getitem.lookup E (fe (G pins s σ H _ I h) fun u q ⟨x,H1,O,z,C⟩=>fe (J pins q σ H1 _ O C) fun iv W j=>?_);obtain⟨y,R,p,r,a,v,ex,g,B⟩:=j;subst ex;obtain rfl:u=bU a:=z;exact⟨xD p g,BP D p g r fun S U M e=>⟨v,R,M,e,B⟩⟩
theorem DA(B:X.A.units+1 < rm)(D:PE X i ty)(C:PE X o td):PC X .In i o (tDIn ty td):=by
 intro pins s σ H Q I h;refine fe (D pins s σ H _ I h) fun iv j ⟨y,H1,G,p,v⟩=>fe (C pins j σ H1 _ G v) fun u O e=>?_;obtain⟨x,J,F,q,a,z,ex,g,r⟩:=e;subst ex;obtain rfl:u=bU a:=q;exact d_in B F g p fun M E=>⟨.bl z.isSome,J,E,rfl,r⟩
theorem pH(B:X.A.units+1 < rm)(D:PE X i ty)(C:PE X o td):PC X .NotIn i o (FR ty td):=by
 intro pins s σ H Q I h;refine fe (D pins s σ H _ I h) fun iv j ⟨y,H1,G,p,v⟩=>fe (C pins j σ H1 _ G v) fun u O e=>?_;obtain⟨x,J,F,q,a,z,ex,g,r⟩:=e;subst ex;obtain rfl:u=bU a:=q;exact FP B F g p fun M E=>⟨.bl (!z.isSome),J,E,rfl,r⟩
theorem Ar(F:X.A.units+1 < rm)(J:PE X o td)(M:PE X i ty)(E:PE X value tv)(G:Cy value (some (.Subscript o i pos')) pos.line X.env=pure false):
  PS X (.Assign [.Subscript o i pos'] value pos) (KO td ty tv):=by
 intro pins s σ H D I h;refine wpAny_Assign_Subscript (fe (E pins s σ H _ I h) fun r j ⟨v,H1,S,rv,C⟩=>fe (J pins j σ H1 _ S C) fun u e ⟨x,W,R,q,B⟩=>fe (M pins e σ W _ R B) fun iv Z ⟨y,H3,Q,p,a,U,ex,g,z⟩=>?_) G;subst ex;obtain rfl:u=bU a:=q;exact BQ F Q g p rv fun Y O=>⟨σ,U,O,z⟩
end
theorem DB{P:aZ}{w:bB}{H:Hp}(h:bH)(e:gM < h.objs.size):ObjOk P w H (h.push { cls:= .type "dict",data:= .dict #[] }) h.objs.size (.dK []):=
 ⟨cr _,qae.mpr (Ne.symm (db e)), [], .nil,Heap.DictOf.new h⟩
def tDNewK:TE:=fun _ H Q=>∀p,H p=none->Q (.ref p) (dJ H p (.dK []))
section
variable {X:Cx}{pos:lK}
theorem xE:PE X (.Dict [] [] pos) tDNewK:=fun pins s σ H Q I h=>
 wpAny_Dict_empty ⟨.ref s.heap.objs.size,_,I.laid (a:=s.heap.objs.size) (o:= .dK []) (t':=s.toks) (fun _ _ q=>bn _ q) (aC _) (DB s.heap I.big),rfl,h _ (I.hok.fresh (aC _))⟩
end
end L2
namespace L2
open PySem PySem.Spec PyProof.Rows
section
variable {X:Cx}
theorem DC{h:c7}{pins:List (aa×dX)}{σ:St}{H:Hp}{s:ap}{R:It->Hp->Prop}{J:It}{g:Nat->bH->Prop}{tk:Nat}(I:Inv X pins σ H s)(o:dX)
  (T:Di X.prog X.w X.K h J [s.heap.objs.size] s.heap.objs.size g) (st:g 0 (s.heap.push o)) (q:R J H):PIE X pins σ h R (.ref s.heap.objs.size) { s with heap:=s.heap.push o,toks:=tk } :=by
 refine⟨s.heap.objs.size, [s.heap.objs.size],g,J,H,rfl,I.kept fun b p e=>bn _ e,T,st,fun b j=>?_,q⟩;have e:b=s.heap.objs.size:=by simpa using j
 subst e;exact I.fpOk (aC _) (I.hok.fresh (aC _))
end
def KP(x:aQ):It:=⟨fun i _=>i < x.cps.size,fun i H v H'=>H'=H/\∃c,x.cps[i]? =some c/\v= .str ⟨#[c]⟩,fun i _=>x.cps.size<=i⟩
theorem xF{P:aZ}{w:bB}{K:PySem.W.Frag}{tg:c7}(g:aa)(x:aQ)(t:Tok)(ty:String)(j:ty="str_ascii_iterator"\/ty="str_iterator"):
  Di P w K tg (KP x) [g] g (fun i h=>h.IsStrIter g ty x t i)where
 mem:=by simp
 obj:=fun i h st b p=>by
  have e:b=g:=by simpa using p
  subst e;obtain⟨o,e,c,d⟩:=st;exact⟨o,e,fun v z=>by rw[d]at z;cases z⟩
 keep:=fun i h h' st k=>let⟨o,ho,r⟩:=st;⟨o,k g (by simp) o ho,r⟩
 item:=by
  intro X U M Y y i pins s σ H E I B st R;subst U M Y;obtain⟨J,G,f2,F,D,C⟩:=B g (by simp);have W:Walks X.prog X.w X.A g [g] [g] x.cps.size (SignAt x) (fun i h=>h.IsStrIter g ty x t i):=by
   rcases j with e|e
   ·rw[e];exact Walks.strAscii (I.ok.hd y) g x t
   ·rw[e];exact Walks.strWide (I.ok.hd y) g x t
  have O: ["enumerate","zip","dict_itemiterator","dict_reverseitemiterator","odict_iterator","itertools.zip_longest","itertools.pairwise"].contains ty=false:=by
   rcases j with e|e
   ·rw[e];decide
   ·rw[e];decide
  refine W.item i s _ _ R st fun v h' tk hv q kk=>?_;obtain⟨c,u,S,rfl⟩:=hv;have I1:Inv X pins σ H { s with heap:=h',toks:=tk } :=I.turned (fun b o p e=>kk b o (by simpa using p) e) J G F D C;obtain⟨oi,e,cc,dd⟩:=id q;exact⟨_,rfl,Dj (s:= { s with heap:=h',toks:=tk }) e cc dd O ⟨.str ⟨#[c]⟩,H,I1,⟨u,rfl⟩,⟨rfl,c,S,rfl⟩,q,fun b p=>(B b p).1⟩⟩
 done:=by
  intro X U M Y y i pins s σ H E I B st R;subst U M Y;obtain⟨J,G,f2,F,D,C⟩:=B g (by simp);have hx:x.cps[i]? =none:=Array.getElem?_eq_none R;rcases j with e|e
  ·rw[e]at st;exact wpAny_pyNext_ascii_end (I.ok.hd y) st hx fun h' Z=>⟨rfl,I.turned (t':=s.toks) (fun b o p e=>Z b o p e) J G F D C⟩
  ·rw[e]at st;exact wpAny_pyNext_wide_end (I.ok.hd y) st hx fun h' Z=>⟨rfl,I.turned (t':=s.toks) (fun b o p e=>Z b o p e) J G F D C⟩
 self:=fun A i s Q E st h=>by
  rcases j with e|e
  ·rw[e]at st;exact wpAny_pyIter_striter_ascii st h
  ·rw[e]at st;exact wpAny_pyIter_striter_wide st h
def iStr(e:TE):TI:=fun σ H R=>e σ H fun v H1=>∃x,v= .str x/\R (KP x) H1
theorem DD{X:Cx}{z e:c7}{j:TE}(C:PE X e j):PI X z e (iStr j):=by
 intro pins s σ H R I h;refine fe (C pins s σ H _ I h) fun v p g=>?_;obtain⟨y,H1,u,B,x,ex,q⟩:=g;subst ex;obtain⟨t,rfl⟩:=B;cases r:x.cps.all (· < 128)
 ·exact wpAny_pyIter_wide r (DC (tk:=p.toks) u _ (xF _ x t "str_iterator" (.inr rfl)) ⟨_,cm _ rfl,rfl,rfl⟩ q)
 ·exact wpAny_pyIter_ascii r (DC (tk:=p.toks) u _ (xF _ x t "str_ascii_iterator" (.inl rfl)) ⟨_,cm _ rfl,rfl,rfl⟩ q)
end L2
section
end
section
namespace TL
open PySem PySem.Builtin PySem.Builtin.Str PySem.StrLaws
abbrev tl(x:aQ):List Nat:=x.cps.toList
theorem len_tl(x:aQ):x.length= (tl x).length:=by simp[tl,Str.length]
theorem ext_tl{x y:aQ}(h:tl x=tl y):x=y:=Str.ext' (Array.toList_inj.mp h)
theorem u7(x y:aQ):tl (x++y)=tl x++tl y:=by
 show(x++y).cps.toList=_;rw[Str.cps_append,Array.toList_append]
theorem HD(s:String):tl (ai s)=s.toList.map pc:=Lo s
def pre(S l:List Nat):Bool:=l.take S.length == S
theorem pre_nil{S:List Nat}(e:S≠ []):pre S []=false:=by
 cases S with
 |nil=>exact absurd rfl e
 |cons s S=>rfl
theorem HE{s c:Nat}(S r:List Nat)(h:c≠s):pre (s::S) (c::r)=false:=by
 cases g:pre (s::S) (c::r)with
 |false=>rfl
 |true=>
  have e: (c::r).take (s::S).length=s::S:=eq_of_beq g;rw[ae,cv]at e;injection e with e1 e2
  exact absurd e1 h
theorem KQ(S r:List Nat):pre S (S++r)=true:=by
 show((S++r).take S.length == S)=true;have e: (S++r).take S.length=S:=Hh;rw[e]<;>exact qag S
def DE(S:List Nat):List (List Nat)->List Nat
 | []=> []
 | [p]=>p
 |p::q::r=>p++(S++DE S (q::r))
theorem FS(y:aQ):∀parts:List aQ,tl (HX y parts)=DE (tl y) (parts.map tl)
 | []=>rfl
 | [_]=>rfl
 |x::z::r=>by
  show tl (x++y++HX y (z::r))=tl x++(tl y++DE (tl y) ((z::r).map tl));rw[u7,u7,FS y (z::r),bD]
theorem join_eq(y:aQ)(parts:List aQ):Txt.join y parts=HX y parts:=glued_eq_join y parts
end TL
end
namespace L2
open PySem PySem.Spec PyProof.Rows
theorem kB:∀ {e:List aQ} {us:List ag},Vals (e.map V.str) us->StrsAre us e
 | [],_, .nil=> .nil
 |y::e,_, .cons r t=>by
  obtain⟨k,rfl⟩:=r;exact .cons y k (kB t)
section
variable {X:Cx}
theorem FT:yU X "str.join" (fun x xs H Q=>∃a p,∃g:List aQ,x= .str a/\xs= [.ref p]/\(SqL X.K H p (g.map V.str)\/SqT X.K H p (g.map V.str))/\
  (g.map (·.length)).sum+g.length*a.length<=16777216/\Q (.str (Txt.join a g)) H):=by
 intro pins s σ H x xs v us Q I y q h;obtain⟨a,p,g,rfl,rfl,hp,u,h⟩:=h;obtain⟨t,rfl⟩:=y;cases q with
 |cons r1 q=>
  cases q;cases r1;rcases hp with hp|hp
  ·obtain⟨e,r,⟨o,n,B,C,_,hd⟩,_⟩:=I.list hp;exact Lp (items:=e.toArray) ⟨o,B,C,n,hd⟩ (by rw[Bm];exact kB r) u fun j k=>⟨.str _,H,I.tok k,⟨j,rfl⟩,h⟩
  ·obtain⟨e,r,z,_⟩:=I.tuple hp;exact Lq (items:=e.toArray) z (by rw[Bm];exact kB r) u fun j k=>⟨.str _,H,I.tok k,⟨j,rfl⟩,h⟩
theorem mt0{id:String}{C:aQ->Prop}{g:aQ->V}(e:∀(a:aQ) (t:Tok) (s:ap) (Q:ag->ap->Prop),C a->(∀(u:ag) (k:Nat),RelV (g a) u->Q u { s with toks:=k })->
  wpAny (bj X.prog X.w) X.A (call (.builtin id) [.str a t]) Q X.xe s):yU X id (fun x xs H Q=>∃a,x= .str a/\xs= []/\C a/\Q (g a) H):=by
 intro pins s σ H x xs v us Q I j p h;obtain⟨a,rfl,rfl,q,h⟩:=h;obtain⟨t,rfl⟩:=j;cases p;exact e a t s _ q fun u k r=>⟨g a,H,I.tok k,r,h⟩
theorem sq:yU X "str.isalpha" (fun x xs H Q=>∃a,x= .str a/\xs= []/\True/\Q (.bl (Txt.isalpha a)) H):=
 mt0 (C:=fun _=>True) (g:=fun a=> .bl (Txt.isalpha a)) fun _ _ s _ _ h=>PySem.SC.isalpha (h _ s.toks rfl)
theorem mt1{id:String}{g:aQ->aQ->V}(e:∀(a b:aQ) (t u:Tok) (s:ap) (Q:ag->ap->Prop),(∀(v:ag) (k:Nat),RelV (g a b) v->Q v { s with toks:=k })->
  wpAny (bj X.prog X.w) X.A (call (.builtin id) [.str a t, .str b u]) Q X.xe s):yU X id (fun x xs H Q=>∃a b,x= .str a/\xs= [.str b]/\Q (g a b) H):=by
 intro pins s σ H x xs v us Q I p j h;obtain⟨a,b,rfl,rfl,h⟩:=h;obtain⟨t,rfl⟩:=p;cases j with
 |cons r1 j=>
  cases j;obtain⟨u,rfl⟩:=r1;exact e a b t u s _ fun v k r=>⟨g a b,H,I.tok k,r,h⟩
theorem ug:yU X "str.startswith" (fun x xs H Q=>∃a b,x= .str a/\xs= [.str b]/\Q (.bl (Txt.startswith a b)) H):=
 mt1 (g:=fun a b=> .bl (Txt.startswith a b)) fun _ _ _ _ s _ h=>PySem.SC.startswith (h _ s.toks rfl)
theorem xG:yU X "str.endswith" (fun x xs H Q=>∃a b,x= .str a/\xs= [.str b]/\Q (.bl (Txt.endswith a b)) H):=
 mt1 (g:=fun a b=> .bl (Txt.endswith a b)) fun _ _ _ _ s _ h=>PySem.SC.endswith (h _ s.toks rfl)
theorem vX:oA X (.type "int") (fun xs H Q=>∃a n,xs= [.str a]/\PySem.intText? a=some n/\a.length<=640/\Q (.int n) H):=by
 intro pins s σ H xs us Q I e h;obtain⟨a,n,rfl,g,j,h⟩:=h;cases e with
 |cons r1 e=>
  cases e;obtain⟨t,rfl⟩:=r1;exact PySem.W.KIN.call_text g j ⟨.int n,H,I.tok _,⟨_,rfl⟩,h⟩
end
section
variable {X:Cx}{o e:c7}{to te:TE}
def tM0(r:V->List V->Hp->VK->Prop)(e:TE):TE:=fun σ H Q=>e σ H fun x H1=>(∃a,x= .str a)/\r x [] H1 Q
def tM1(r:V->List V->Hp->VK->Prop)(e g:TE):TE:=fun σ H Q=>e σ H fun x H1=>(∃a,x= .str a)/\g σ H1 fun y h=>r x [y] h Q
theorem As{id:String}{name:aQ}{g u:lK}{r:V->List V->Hp->VK->Prop}(slot:Slot "str" name id)(ty:typeOf (.builtin id)=pure (.type "method_descriptor"))(q:yU X id r)(D:PE X o to)
  (p:fI o name X.env (dr o X.env)=dr o X.env:=by rfl) (j: (g.endLine == u.line)=true:=by rfl):PE X (.Call (.Attribute o name g) [] [] u) (tM0 r to):=by
 intro pins s σ H Q I h;refine PySem.Call_method0 p j (fe (D pins s σ H _ I h) fun v C z=>?_);obtain⟨x,H1,E,B,y⟩:=z;obtain⟨⟨a,rfl⟩,y⟩:=y;obtain⟨t,rfl⟩:=_root_.id B;exact⟨"str",_,F.plainAttrs_str,slot,ty,rK _ _ _,(fun _ e=>nomatch e),gF rfl (PySem.evalArgs_none (q pins C σ H1 _ [] _ [] Q E B .nil y))⟩
theorem u8{id:String}{name:aQ}{g z:lK}{r:V->List V->Hp->VK->Prop}(slot:Slot "str" name id)(ty:typeOf (.builtin id)=pure (.type "method_descriptor"))(q:yU X id r)(R:PE X o to)(S:PE X e te)
  (O:bu [e] X.env= [(false,dr e X.env)]:=by rfl) (p:fI o name X.env (dr o X.env)=dr o X.env:=by rfl) (j: (g.endLine == z.line)=true:=by rfl):
  PE X (.Call (.Attribute o name g) [e] [] z) (tM1 r to te):=by
 intro pins s σ H Q I h;refine PySem.Call_method1 p O j (fe (R pins s σ H _ I h) fun v G C=>?_);obtain⟨x,H1,W,D,B⟩:=C;obtain⟨⟨a,rfl⟩,B⟩:=B;obtain⟨t,rfl⟩:=_root_.id D;refine⟨"str",_,F.plainAttrs_str,slot,ty,rK _ _ _,(fun _ e=>nomatch e),gF rfl (io (Bk ?_))⟩;exact fe (S pins G σ H1 _ W B) fun u E ⟨y,Y,U,J,M⟩=>Cz (q pins E σ Y _ [y] _ [u] Q U D (.cons J .nil) M)
theorem Au{g r:lK}(v:PE X o to)(y:PE X e te)(u:bu [e] X.env= [(false,dr e X.env)]:=by rfl)(j:fI o "join" X.env (dr o X.env)=dr o X.env:=by rfl)(h: (g.endLine == r.line)=true:=by rfl):
  PE X (.Call (.Attribute o "join" g) [e] [] r) (tM1 (fun x xs H Q=>∃a p,∃q:List aQ,x= .str a/\xs= [.ref p]/\(SqL X.K H p (q.map V.str)\/SqT X.K H p (q.map V.str))/\
   (q.map (·.length)).sum+q.length*a.length<=16777216/\Q (.str (Txt.join a q)) H) to te):=
 u8 F.slot_str_join F.type_str_join FT v y u j h
end
end L2
namespace L2
open PySem PySem.Spec PyProof.Rows
section
variable {X:Cx}
theorem kC:uP X (eR .In) (fun x y H Q=>∃(c:Nat) (z:aQ),x= .str ⟨#[c]⟩/\y= .str z/\Q (.bl (decide (c∈z.cps.toList))) H):=by
 intro pins s σ H x y v u Q I g e h;obtain⟨c,z,rfl,rfl,q⟩:=h;obtain⟨t,rfl⟩:=g;obtain⟨j,rfl⟩:=e;exact Lr (dc I q (PySem.StrLaws.found_one z c).symm)
end
theorem IsPart.raw{v:ag}{o:Option Int}(p:IsPart v o):∃l:Option (Int×Tok),v=partValue l/\l.map (·.1)=o:=by
 cases p with
 |none=>exact⟨none,rfl,rfl⟩
 |int i t=>exact⟨some (i,t),rfl,rfl⟩
def xH(n d:Nat):Option Int->Int
 |none=>(d:Int)
 |some i=>max 0 (min (if i < 0 then i+ (n:Int)else i) (n:Int))
theorem xI(n d:Nat)(o:Option Int):xH n d o= ((HT.sIx n d o:Nat):Int):=by
 cases o with
 |none=>rfl
 |some v=>
  show max (0:Int) (min (if v < 0 then v+ (n:Int)else v) (n:Int))= (((if v < 0 then(v+ (n:Int)).toNat else min v.toNat n):Nat):Int);by_cases e:v < 0
  ·simp only[qab e]
   lia
  ·simp only[qaa e]
   lia
theorem BR(a b:Option Int)(n:Nat):cj a b 1 n=sliceRange (xH n 0 a) (xH n n b) 1:=by
 have e: ((1:Int) > 0)=True:=by simp
 cases a<;>cases b<;>first
  |rfl
  | (simp only[cj,xH,e,if_true];rfl)
  |simp[cj,xH]
theorem sidx(a b:Option Int)(n:Nat):cj a b 1 n= (lD (HT.sIx n n b - HT.sIx n 0 a)).map (fun k=>HT.sIx n 0 a+k):=by
 rw[BR,xI,xI];generalize HT.sIx n 0 a=p;generalize HT.sIx n n b=q;simp only[sliceRange,show((1:Int) > 0)=True from by simp,if_true];by_cases e: (p:Int) < q
 ·have g: (((q:Int) - p+1 - 1) / 1).toNat=q - p:=by first|lia| (simp;done) | (simp;lia)
  simp only[e,if_true,g];refine bI fun k _=>?_
  lia
 ·have:q - p=0:=by lia
  simp[e,this]
def sr(z:aQ)(e g:Option Int):aQ:=
 ⟨((z.cps.toList.drop (HT.sIx z.length 0 e)).take (HT.sIx z.length z.length g - HT.sIx z.length 0 e)).toArray⟩
theorem nj(z:aQ)(g h:Option Int):PySem.StrLaws.sliceText z g h=sr z g h:=by
 have r:HT.sIx z.length 0 g<=z.length:=HT.sIx_le _ _ (cr _) _;have q:HT.sIx z.length z.length h<=z.length:=HT.sIx_le _ _ (aC _) _;have p:HT.sIx z.length 0 g<=max (HT.sIx z.length 0 g) (HT.sIx z.length z.length h):=uc _ _;have j:max (HT.sIx z.length 0 g) (HT.sIx z.length z.length h)<=z.length:=Nat.max_le.mpr ⟨r,q⟩;have hd:max (HT.sIx z.length 0 g) (HT.sIx z.length z.length h) - HT.sIx z.length 0 g=HT.sIx z.length z.length h - HT.sIx z.length 0 g:=by lia
 have e:cj g h 1 z.length=
   cj (some ((HT.sIx z.length 0 g:Nat):Int)) (some ((max (HT.sIx z.length 0 g) (HT.sIx z.length z.length h):Nat):Int)) 1 z.length:=by
  rw[PySem.StrLaws.strSliceIndices_plain p j,hd,sidx]
 have u:PySem.StrLaws.sliceText z g h=
   PySem.StrLaws.sliceText z (some ((HT.sIx z.length 0 g:Nat):Int)) (some ((max (HT.sIx z.length 0 g) (HT.sIx z.length z.length h):Nat):Int)):=by
  unfold PySem.StrLaws.sliceText;rw[e]
 rw[u,PySem.StrLaws.sliceText_nat z p j,hd];rfl
theorem xJ(z:aQ)(e g:Option Int): (sr z e g).length<=z.length:=by
 show(((z.cps.toList.drop (HT.sIx z.length 0 e)).take (HT.sIx z.length z.length g - HT.sIx z.length 0 e)).toArray).size<=z.cps.size;rw[bX,cg,aF,iM]
 lia
def rSlS:V->Option Int->Option Int->Hp->VK->Prop:=fun x e g H Q=>∃z,x= .str z/\z.length<=aO/\Q (.str (sr z e g)) H
theorem zl{X:Cx} :SlR X rSlS:=by
 intro pins s σ H x v E D J M G Q I r C pl y h;obtain⟨z,rfl,B,q⟩:=h;obtain⟨t,rfl⟩:=r;obtain⟨os,e,p,j⟩:=C;obtain⟨l,rfl,rfl⟩:=IsPart.raw pl;obtain⟨u,rfl,rfl⟩:=IsPart.raw y;refine⟨"str",_,F.slot_str_getitem.lookup,rK _ _ _,?_⟩;refine wpAny_getItem_str_slice (l:=l) (u:=u) (st:=none) ⟨os,e,p,j⟩ rfl ?_;have g: (PySem.StrLaws.sliceText z (l.map (·.1)) (u.map (·.1))).length<=aO:=by
  rw[nj];exact cn (xJ z _ _) B
 rw[<-nj]at q;unfold PySem.StrLaws.sliceText at q g;show Made.post (if((1:Int) == 1&&(cj (l.map (·.1)) (u.map (·.1)) 1 z.length).length == z.length)=true then Made.val (.str z t)
  else Made.str ⟨((cj (l.map (·.1)) (u.map (·.1)) 1 z.length).filterMap (z.cps[·]?)).toArray⟩) (EP X pins σ Q) s
 by_cases c: ((1:Int) == 1&&(cj (l.map (·.1)) (u.map (·.1)) 1 z.length).length == z.length)=true
 ·rw[qab c]at q ⊢;exact⟨.str z,H,I,⟨t,rfl⟩,q⟩
 ·rw[qaa c]at q g ⊢;exact⟨g, .str _,H,I.tok _,⟨_,rfl⟩,q⟩
end L2
namespace Att
open PySem PySem.W PySem.Calls PyProof.Rows
theorem CK{P:Params}{h:bH} :∀(ns:List Int) (vs:List ag),WellAll P h vs (ns.map Ls)->ua vs ns:=by
 intro ns;induction ns with
 |nil=>
  intro vs w;rw[lF]at w;cases w;exact .nil
 |cons n ns ih=>
  intro vs w;rw[bg]at w;cases w with
  |cons a b=>
   cases a;exact .cons _ _ (ih _ b)
end Att
namespace L2
open PySem PySem.Spec PyProof.Rows
theorem jZ:∀ {vs:List ag} {ns:List Int},ua vs ns->Vals (ns.map V.int) vs
 |_,_, .nil=> .nil
 |_,_, .cons n t h=> .cons ⟨t,rfl⟩ (jZ h)
def KR(H:Hp):Prop:=∀b,H b=none\/∃o xs,H b=some (.frz o (.lst xs))
end L2
namespace L2
open PySem PySem.Spec PyProof.Rows
def hH(s:ck)(j:Nat):ck:=match s with
 | .ClassDef _ _ _ body _ _ _ _ _ _ _=>body.getD j (.Pass ⟨0,0,0,0⟩)
 |_=> .Pass ⟨0,0,0,0⟩
def hJ(s:ck):Arguments:=match s with
 | .FunctionDef _ a _ _ _ _ _ _ _ _=>a
 |_=> { posonlyargs:= [],args:= [],vararg:=none,kwonlyargs:= [],kw_defaults:= [],kwarg:=none,defaults:= [] }
def ew(s:ck):List ck:=match s with
 | .FunctionDef _ _ b _ _ _ _ _ _ _=>b
 |_=> []
def aA(s:ck):gv:=match s with
 | .FunctionDef _ _ _ _ _ _ sc _ _ _=>sc
 |_=> { kind:= .function,names:= [],isGenerator:=false,isCoroutine:=false }
abbrev fh:CXT:=fun _ _ _ _ _ _=>False
abbrev E0:XK:=fun _ _ _=>False
theorem cD{X:Cx} :fO fh X E0:=fun _ _ _ _ _ _ _ h=>h.elim
structure Fun(K:PySem.W.Frag)(x qual:aQ)(st:ck)(f:aa)(fd:gc):Prop where
 ex:∃(oc:ag) (od:Option aa) (kV doc pm:ag) (an:Option aa) (cdv ct:ag) (osl:Array (Option ag)),
  fd=PySem.W.fnOf x qual (hJ st) (ew st) (aA st) .none kV doc pm an cdv ct/\K.lookup f=some ⟨oc,od, .func fd,osl⟩/\PySem.W.codeIn K cdv qual=true
 kp:PySem.W.keepIn K (.ref f)=true
section
variable {P:aZ}{w:bB}{K:PySem.W.Frag}{mg:aQ->Option ag}{base:bH}
theorem Fun.ok{x e:aQ}{st:ck}{f:aa}{fd:gc}{N p:List aQ}{k:Nat}{sp:Sp}(F:Fun K x e st f fd)(S:bf N p (aA st))(len:∀vs H Q E,sp vs H Q E->vs.length=p.length)
  (j:∀(g:ag) (A:cC) (outer:List m4) (s:ap) (H:Hp) (vs:List V) (Q:VK) (E:XK),Room k (A.deeper (im e (aA st) s.heap.objs.size f g))->sp vs H Q E->
   ∃t,PSs (ir fh P w K mg base N e (aA st) f g A outer s H E).nox (ew st) t/\t { nx:=fun _ H'=>Q .non H',rt:=Q } (i0 N vs) H):lZ P w K mg base fh (k+1) f fd p sp:=by
 obtain⟨D,od,kV,B,C,G,g,ct,v,rfl,y,u⟩:=F.ex;refine Hy y u S len fun A outer s H vs Q E z r=>?_;obtain⟨t,h,q⟩:=j g A outer s H vs Q E z r;exact⟨t,h.nox,q⟩
theorem Fun.binds{x e:aQ}{st:ck}{f:aa}{fd:gc}{p:List aQ}(F:Fun K x e st f fd)
  (h:∀(kV g q:ag) (r:Option aa) (j ct:ag) (us:List ag),us.length=p.length->bindArgs (PySem.W.fnOf x e (hJ st) (ew st) (aA st) .none kV g q r j ct) ⟨us, []⟩=pure (p.zip us)):Binds K fd p []:=by
 obtain⟨y,od,kV,g,q,r,j,ct,u,rfl,z,v⟩:=F.ex;exact .all (h kV g q r j ct)
theorem kD{x e:aQ}{st:ck}{f:aa}{r:ag}{od q:Option aa}{j:Array (Option ag)}{kV h p g ct:ag}(l:K.lookup f=some ⟨r,od, .func (PySem.W.fnOf x e (hJ st) (ew st) (aA st) .none kV h p q g ct),j⟩)
  (c:PySem.W.codeIn K g e=true) (k:PySem.W.keepIn K (.ref f)=true):Fun K x e st f (PySem.W.fnOf x e (hJ st) (ew st) (aA st) .none kV h p q g ct):=⟨⟨r,od,kV,h,p,q,g,ct,j,rfl,l,c⟩,k⟩
end
theorem qC{A:cC}{k:Nat}(e:Room k A):A.units+1 < rm:=bK (CC (by decide:1<=64) _) e.units
section
variable {X:Cx}
theorem pv(i:Nat){x:aQ}{e:lK}(j:X.N[i]? =some x:=by rfl)(h:JQ X.env.scope x:=by first|exact Or.inl rfl|exact Or.inr (Or.inl rfl) |exact Or.inr (Or.inr rfl))(hd: (x ==("__debug__":aQ))=false:=by decide)
  (g: (x ==("__classdict__":aQ))=false:=by decide):PE X (.Name x e) (lz i):=Il j h hd g
theorem pI:oA X (.builtin "len") (fun xs H Q=>∃a e,xs= [V.ref a]/\H a=some (.dK e)/\Q (.int e.length) H):=by
 intro pins s σ H xs us Q I r h;obtain⟨a,e,rfl,j,q⟩:=h;obtain⟨u,rfl,g⟩:=xt r;cases g;exact KL I (.inl j) fun t v p=>⟨.int e.length,H,p,⟨t,rfl⟩,q⟩
end
theorem eC{A B:Prop}(h:B):if false=true then A else B:=by
 rw[qaa bq];exact h
theorem d9{A B:Prop}(h:A):if true=true then A else B:=by
 rw[qab rfl];exact h
theorem du{c A B:Prop}[Decidable c](g:c->A)(e:¬c->B):if c then A else B:=by
 by_cases h:c
 ·rw[qab h];exact g h
 ·rw[qaa h];exact e h
def Same(H H':Hp):Prop:=∀b o,H b=some o->H' b=some o
theorem Same.seq{K:PySem.W.Frag}{H H':Hp}{a:aa}{xs:List V}(e:Same H H')(h:SqL K H a xs):SqL K H' a xs:=by
 rcases h with(h| ⟨o,h⟩) |h
 ·exact .inl (.inl (e _ _ h))
 ·exact .inl (.inr ⟨o,e _ _ h⟩)
 ·exact .inr h
end L2
namespace L2
inductive CL{A0 A1:Type}(p:A0->A1->Prop):Prop
 |mk (x0:A0) (x1:A1) (h:p x0 x1):CL p
inductive ES{A0 A1 A2:Type}(p:A0->A1->A2->Prop):Prop
 |mk (x0:A0) (x1:A1) (x2:A2) (h:p x0 x1 x2):ES p
inductive CM{A0 A1 A2 A3:Type}(p:A0->A1->A2->A3->Prop):Prop
 |mk (x0:A0) (x1:A1) (x2:A2) (x3:A3) (h:p x0 x1 x2 x3):CM p
inductive Ex5{A0 A1 A2 A3 A4:Type}(p:A0->A1->A2->A3->A4->Prop):Prop
 |mk (x0:A0) (x1:A1) (x2:A2) (x3:A3) (x4:A4) (h:p x0 x1 x2 x3 x4):Ex5 p
inductive Ex6{A0 A1 A2 A3 A4 A5:Type}(p:A0->A1->A2->A3->A4->A5->Prop):Prop
 |mk (x0:A0) (x1:A1) (x2:A2) (x3:A3) (x4:A4) (x5:A5) (h:p x0 x1 x2 x3 x4 x5):Ex6 p
inductive FU{A0 A1 A2 A3 A4 A5 A6:Type}(p:A0->A1->A2->A3->A4->A5->A6->Prop):Prop
 |mk (x0:A0) (x1:A1) (x2:A2) (x3:A3) (x4:A4) (x5:A5) (x6:A6) (h:p x0 x1 x2 x3 x4 x5 x6):FU p
inductive Ex8{A0 A1 A2 A3 A4 A5 A6 A7:Type}(p:A0->A1->A2->A3->A4->A5->A6->A7->Prop):Prop
 |mk (x0:A0) (x1:A1) (x2:A2) (x3:A3) (x4:A4) (x5:A5) (x6:A6) (x7:A7) (h:p x0 x1 x2 x3 x4 x5 x6 x7):Ex8 p
inductive Ex9{A0 A1 A2 A3 A4 A5 A6 A7 A8:Type}(p:A0->A1->A2->A3->A4->A5->A6->A7->A8->Prop):Prop
 |mk (x0:A0) (x1:A1) (x2:A2) (x3:A3) (x4:A4) (x5:A5) (x6:A6) (x7:A7) (x8:A8) (h:p x0 x1 x2 x3 x4 x5 x6 x7 x8):Ex9 p
inductive FV{A0 A1 A2 A3 A4 A5 A6 A7 A8 A9 A10:Type}(p:A0->A1->A2->A3->A4->A5->A6->A7->A8->A9->A10->Prop):Prop
 |mk (x0:A0) (x1:A1) (x2:A2) (x3:A3) (x4:A4) (x5:A5) (x6:A6) (x7:A7) (x8:A8) (x9:A9) (x10:A10) (h:p x0 x1 x2 x3 x4 x5 x6 x7 x8 x9 x10):FV p
inductive ID{A0 A1 A2 A3 A4 A5 A6 A7 A8 A9 A10 A11 A12:Type}(p:A0->A1->A2->A3->A4->A5->A6->A7->A8->A9->A10->A11->A12->Prop):Prop
 |mk (x0:A0) (x1:A1) (x2:A2) (x3:A3) (x4:A4) (x5:A5) (x6:A6) (x7:A7) (x8:A8) (x9:A9) (x10:A10) (x11:A11) (x12:A12) (h:p x0 x1 x2 x3 x4 x5 x6 x7 x8 x9 x10 x11 x12):ID p
inductive zm{A0 A1 A2 A3 A4 A5 A6 A7 A8 A9 A10 A11 A12 A13:Type}(p:A0->A1->A2->A3->A4->A5->A6->A7->A8->A9->A10->A11->A12->A13->Prop):Prop
 |mk (x0:A0) (x1:A1) (x2:A2) (x3:A3) (x4:A4) (x5:A5) (x6:A6) (x7:A7) (x8:A8) (x9:A9) (x10:A10) (x11:A11) (x12:A12) (x13:A13) (h:p x0 x1 x2 x3 x4 x5 x6 x7 x8 x9 x10 x11 x12 x13):zm p
inductive KS{A0 A1 A2 A3 A4 A5 A6 A7 A8 A9 A10 A11 A12 A13 A14:Type}(p:A0->A1->A2->A3->A4->A5->A6->A7->A8->A9->A10->A11->A12->A13->A14->Prop):Prop
 |mk (x0:A0) (x1:A1) (x2:A2) (x3:A3) (x4:A4) (x5:A5) (x6:A6) (x7:A7) (x8:A8) (x9:A9) (x10:A10) (x11:A11) (x12:A12) (x13:A13) (x14:A14) (h:p x0 x1 x2 x3 x4 x5 x6 x7 x8 x9 x10 x11 x12 x13 x14):KS p
inductive KU{A0 A1 A2 A3 A4 A5 A6 A7 A8 A9 A10 A11 A12 A13 A14 A15 A16 A17 A18 A19:Type}(p:A0->A1->A2->A3->A4->A5->A6->A7->A8->A9->A10->A11->A12->A13->A14->A15->A16->A17->A18->A19->Prop):Prop
 |mk (x0:A0) (x1:A1) (x2:A2) (x3:A3) (x4:A4) (x5:A5) (x6:A6) (x7:A7) (x8:A8) (x9:A9) (x10:A10) (x11:A11) (x12:A12) (x13:A13) (x14:A14) (x15:A15) (x16:A16) (x17:A17) (x18:A18) (x19:A19) (h:p x0 x1 x2 x3 x4 x5 x6 x7 x8 x9 x10 x11 x12 x13 x14 x15 x16 x17 x18 x19):KU p
inductive KW{A0 A1 A2 A3 A4 A5 A6 A7 A8 A9 A10 A11 A12 A13 A14 A15 A16 A17 A18 A19 A20 A21:Type}(p:A0->A1->A2->A3->A4->A5->A6->A7->A8->A9->A10->A11->A12->A13->A14->A15->A16->A17->A18->A19->A20->A21->Prop):Prop
 |mk (x0:A0) (x1:A1) (x2:A2) (x3:A3) (x4:A4) (x5:A5) (x6:A6) (x7:A7) (x8:A8) (x9:A9) (x10:A10) (x11:A11) (x12:A12) (x13:A13) (x14:A14) (x15:A15) (x16:A16) (x17:A17) (x18:A18) (x19:A19) (x20:A20) (x21:A21) (h:p x0 x1 x2 x3 x4 x5 x6 x7 x8 x9 x10 x11 x12 x13 x14 x15 x16 x17 x18 x19 x20 x21):KW p
end L2
namespace L2
open PySem
def TrX(h base:bH)(e:aa)(cls j q:ag):Prop:=∃(g:dX) (vs:Array ag) (T:aa) (p:dX) (ts:Array ag),
 h.get? e=some g/\g.cls=cls/\g.data= .fields vs/\vs[2]? =some j/\vs[1]? =some (.ref T)/\base.get? T=none/\T≠e/\h.get? T=some p/\p.data= .fields ts/\ts[3]? =some q
structure FlX(base:bH)(l:List m4)(e:aa)(cls ctx fl:ag)(h:bH):Prop where
 stay:base.StaysIn h
 new:base.get? e=none
 fr:h.FunFrames base l
 tr:TrX h base e cls ctx fl
theorem FlX.inner{base h:bH}{v:m4}{l:List m4}{e:aa}{cls g j:ag}(x:FlX base (v::l) e cls g j h):FlX base l e cls g j h:=
 ⟨x.stay,x.new,x.fr.2.2,x.tr⟩
section
variable {M:tY}{A:cC}{E:ag->ap->Prop}{s:ap}{base:bH}{env:m4}{outer:List m4}{L e:aa}{cls ctx:ag}{Q:Unit->ap->Prop}
theorem KY{p:dX}{vs:Array ag}{head:ag}{b:Bool}(F:A.frames=some (env::outer))(fr:s.heap.FunFrames base (env::outer))(f:env.frame=some L)
  (y:s.heap.get? e=some p) (st:base.StaysIn s.heap) (nw:base.get? e=none) (hd:p.data= .fields vs) (sz:1 < vs.size) (S:vs[2]? =some ctx)
  (k:∀h',FlX base (env::outer) e p.cls ctx (rH L) h'->s.heap.UpToSlots h'->Q () { s with heap:=h' }):
  wpAny M A (do let a <-frameOf env;let pl <-entryPlaceOf L b;let x <-vJ head a .none (rH L) .none pl;setField (.ref e) 1 x) Q E s:=by
 have out:∀ {c:aa} {o:dX} {u:Array ag},s.heap.get? c=some o->o.data= .fields u->c∉(env::outer).filterMap (·.frame):=fun q z m=>by
  obtain⟨_,W,C,n⟩:=fr.mem m;rw[q]at C;cases C;exact n _ z
 refine bc (wpAny_frameOf_fun F fr f fun g r=>bc (wpAny_entryPlaceOf fun pl v=>?_));unfold vJ newFields;refine bc (JH ?_ (v.sizeOk5 _ _ _ _ _));generalize D: ({ cls:= .type "traceback",dict:=none,data:= .fields ([head, .ref L, .none,rH L, .none]++(if pl.isEmpty then m7 6 gq else pl)).toArray } :dX)=O;have I:g.get? e=some p:=(r.2.1 e (out y hd)).trans y;have G: (g.push O).get? e=some p:=bn O I;refine pk G hd sz ?_;have ne:g.objs.size≠e:=JY (bv I);have J:=pp hd (·.setIfInBounds 1 (bU g.objs.size));have U:=fm (eo (·.setIfInBounds 1 (bU g.objs.size))) G (z7 J);have R: ((g.push O).update e (eo (·.setIfInBounds 1 (bU g.objs.size)))).get? g.objs.size=some O:=
  (ei _ _ (Ne.symm ne)).trans (cm g (by rw[<-D];rfl))
 have keep:∀c o,c≠e->g.get? c=some o->((g.push O).update e (eo (·.setIfInBounds 1 (bU g.objs.size)))).get? c=some o:=fun c o n q=>
  (ei _ _ (Ne.symm n)).trans (bn O q)
 have h:∀c o,s.heap.get? c=some o->(∀u,o.data≠ .fields u)->c≠e:=fun c o q n z=>by
  rw[z,y]at q;cases q;exact n vs hd
 have j:base.StaysIn g:=fun c o q=>(r.2.1 c fun m=>by rw[(fr.mem m).1]at q;cases q).trans (st c o q);refine k _ ⟨fun c o q=>keep c o (fun z=>by rw[z,nw]at q;cases q) (j c o q),nw,fr.of_keeps fun c o q n=>?_,?_⟩ fun c o q n=>?_
 ·obtain⟨B,z⟩:=r.2.2 c o q;exact⟨_,keep c _ (h c o q n) z,rfl⟩
 ·refine⟨_,_,g.objs.size,O,([head, .ref L, .none,rH L, .none]++(if pl.isEmpty then m7 6 gq else pl)).toArray,U,Obj.cls_mapFields _ _,J,?_,?_,j.fresh,ne,R,by rw[<-D],?_⟩
  ·rw[Array.getElem?_setIfInBounds_ne (by decide)];exact S
  ·simp[sz]
  ·simp
 ·obtain⟨B,z⟩:=r.2.2 c o q;exact⟨B,keep c _ (h c o q n) z⟩
theorem sfX{l:List m4}{F:ag}(x:FlX base l e cls ctx F s.heap)(k:∀h',FlX base l e cls ctx .none h'->s.heap.UpToSlots h'->Q () { s with heap:=h' }):wpAny M A (J1 (.ref e) none) Q E s:=by
 obtain⟨st,nw,fr,y,vs,T,G,ts,r,B,hd,D,u,p,ne,j,h,C⟩:=x;have sz:3 < ts.size:=(fB.mp C).1;unfold J1;refine bc (pq r hd u ?_);rw[qab (by simp)];have g:∀c,c≠T->(s.heap.update T (eo (·.setIfInBounds 3 ((none:Option aa).elim gq fun f=>rH f)))).get? c=s.heap.get? c:=fun c n=>ei _ _ (Ne.symm n);have pl:∀c o,s.heap.get? c=some o->(∀v,o.data≠ .fields v)->c≠T:=fun c o q n z=>by
  rw[z,j]at q;cases q;exact n ts h
 refine pk j h sz (k _ ⟨fun c o q=>(g c fun z=>by rw[z,p]at q;cases q).trans (st c o q),nw,fr.of_keeps fun c o q n=>⟨o,(g c (pl c o q n)).trans q,rfl⟩,?_⟩ fun c o q n=>⟨o.slots,(g c (pl c o q n)).trans q⟩);exact⟨y,vs,T,_,_,(g e (Ne.symm ne)).trans r,B,hd,D,u,p,ne,fm _ j (z7 (pp h _)),pp h _,by simp[sz]⟩
theorem IE{g:dX}{vs:Array ag}(F:A.frames=some (env::outer))(fr:s.heap.FunFrames base (env::outer))(f:env.frame=some L)
  (h:s.heap.get? e=some g) (st:base.StaysIn s.heap) (nw:base.get? e=none) (hd:g.data= .fields vs) (j:vs[1]? =some .none) (p:vs[2]? =some ctx)
  (k:∀h',FlX base (env::outer) e g.cls ctx (rH L) h'->s.heap.UpToSlots h'->Q () { s with heap:=h' }):wpAny M A (qw (.ref e) env) Q E s:=by
 unfold qw;simp only[f];refine bc (pq h hd j ?_);rw[qaa (by decide)];exact KY F fr f h st nw hd (fB.mp j).1 p k
theorem HF(F:A.frames=some (env::outer))(f:env.frame=some L)(x:FlX base (env::outer) e cls ctx .none s.heap)
  (k:∀h',FlX base (env::outer) e cls ctx (rH L) h'->s.heap.UpToSlots h'->Q () { s with heap:=h' }):wpAny M A (qw (.ref e) env) Q E s:=by
 obtain⟨st,nw,fr,G,vs,T,I,ts,p,C,hd,D,v,B,ne,h,j,r⟩:=x;subst C;unfold qw;simp only[f];refine bc (pq p hd v ?_);rw[qab (by simp)];refine bc (pq h j r ?_);rw[qaa (by simp[rH])];refine bc (pk h j (fB.mp r).1 ?_);have g:∀c,c≠T->(s.heap.update T (eo (·.setIfInBounds 3 gq))).get? c=s.heap.get? c:=fun c n=>ei _ _ (Ne.symm n);have pl:∀c o,s.heap.get? c=some o->(∀y,o.data≠ .fields y)->c≠T:=fun c o q n z=>by
  rw[z,h]at q;cases q;exact n ts j
 refine KY F (fr.of_keeps fun c o q n=>⟨o,(g c (pl c o q n)).trans q,rfl⟩) f ((g e (Ne.symm ne)).trans p) (fun c o q=>(g c fun z=>by rw[z,B]at q;cases q).trans (st c o q)) nw hd (fB.mp v).1 D fun h' a u=>k h' a ?_;exact fun c o q n=>u c o ((g c (pl c o q n)).trans q) n
theorem FW{g:dX}{vs:Array ag}(F:A.frames=some (env::outer))(fr:s.heap.FunFrames base (env::outer))(f:env.frame=some L)
  (v:s.heap.get? e=some g) (st:base.StaysIn s.heap) (nw:base.get? e=none) (hd:g.data= .fields vs) (j:vs[1]? =some .none) (h:vs[2]? =some ctx)
  (k:∀h',FlX base outer e g.cls ctx .none h'->s.heap.UpToSlots h'->Q () { s with heap:=h' }):wpAny M A (qv env (.ref e)) Q E s:=by
 unfold qv;exact bc (IE F fr f v st nw hd j h fun j q u=>sfX q fun h p r=>k h p.inner (u.trans r))
theorem IF(F:A.frames=some (env::outer))(f:env.frame=some L)(x:FlX base (env::outer) e cls ctx .none s.heap)
  (k:∀h',FlX base outer e cls ctx .none h'->s.heap.UpToSlots h'->Q () { s with heap:=h' }):wpAny M A (qv env (.ref e)) Q E s:=by
 unfold qv;exact bc (HF F f x fun r h p=>sfX h fun q g j=>k q g.inner (p.trans j))
end
end L2
namespace L2
open PySem
section
variable {prog:aZ}{w:bB}{A:cC}{E:ag->ap->Prop}{s:ap}{env:m4}
theorem uh:entryFor table "proto.unchain"=some Builtin.«proto.unchain»:=entryFor_of_tree (by kernel_rfl)
theorem BS{g:Type}{a e:aa}{p j:dX}{ws vs:Array ag}{Q:g->ap->Prop}(q:A.handled=some (.ref a))(ne:a≠e)(u:s.heap.get? a=some p)(y:p.data= .fields ws)(v:ws[2]? =some .none)
  (r:s.heap.get? e=some j) (x:j.data= .fields vs) (sz:2 < vs.size) (h:E (.ref e) { s with heap:=s.heap.update e (eo (·.setIfInBounds 2 (bU a))) }):wpAny (bj prog w) A (raiseNew (.ref e):CQ g) Q E s:=by
 unfold raiseNew;refine bc (wpAny_handled ?_);rw[q];dsimp only;rw[qab (by simpa using ne)];refine bc ?_;refine lN (wpAny_runValue (codeAny_builtin uh ?_));unfold Builtin.«proto.unchain»;dsimp only;refine bc (pq u y v ?_);rw[qab (by rfl)];refine cH (bc ?_);show wpAny _ _ (setField (.ref e) 2 (.ref a)) _ _ _;exact pk r x sz (wpAny_throw h)
variable {nm q:aQ}{C N:aa}{bs bm:List ag}{hdct:Bool}{sn:List aQ}{sub:List ag}{ab:Bool}{col:Option Bool}{dd:Option aa}{k0 k1 k2 k3 k5:Option ag}{newId:String}
theorem zn{x c:CQ ag}{a:aa}{Q:Flow->ap->Prop}(r:bm.contains (.type "BaseException")=true)(S:A.handled=some (.ref a))
  (h:wpAny (bj prog w) A x (fun v j=>∃(e t:aa) (G:dX) (F:Array ag),v= .ref e/\a≠e/\j.heap.get? C=some (pu nm q C N bs bm hdct sn sub ab col dd k0 k1 k2 k3 k5 newId)/\
   j.heap.get? e=some { cls:= .ref C,data:= .fields #[.ref t, .none, .none, .none, .bool false, .none] } /\j.heap.get? a=some G/\G.data= .fields F/\F[2]? =some .none/\
   wpAny (bj prog w) A c (fun v p=>v= .none/\p=j) E j/\∀h',(∀b,b≠e->h'.get? b=j.heap.get? b)->h'.get? e=some { cls:= .ref C,data:= .fields #[.ref t, .none, .ref a, .none, .bool true, .none] } ->E (.ref e) { j with heap:=h' }) E s):
  wpAny (bj prog w) A (raiseStmt env (some x) (some c)) Q E s:=by
 have J: (bU C::bm).contains (.type "BaseException")=true:=by rw[pf,r,JI]
 unfold raiseStmt;refine bc (cu h (fun v j B=>?_) fun _ _ x=>x);obtain⟨e,t,G,F,rfl,ne,D,I,W,da,Y,U,X⟩:=B;refine bc (lN (cu U (fun v p y=>?_) fun _ _ x=>x));obtain⟨rfl,rfl⟩:=y;obtain⟨O,g,d,tk,os⟩:=p;refine bc (cH ?_);have nC:C≠e:=fun z=>by rw[z,I]at D;cases D
 refine bc (lN ?_);unfold excFromValue isExcClass
 repeat (first|with_reducible refine lH I ?_ |with_reducible refine lH D ?_ | (with_reducible refine qW D ?_;rw[J]) |wp_step)
 have u:∀(M:bH) (f:dX->dX) (b:aa),b≠e->(M.update e f).get? b=M.get? b:=fun M f b z=>ei _ _ (Ne.symm z);have e1: (O.update e (eo fun x=>x.setIfInBounds 3 gq)).get? e=_:=fm _ I rfl;have R: ((O.update e (eo fun x=>x.setIfInBounds 3 gq)).update e (eo fun x=>x.setIfInBounds 4 (jm true))).get? e=_:=fm _ e1 rfl;have Z:=fm (eo fun x=>x.setIfInBounds 2 (bU a)) R rfl;refine BS S ne ((u _ _ a ne).trans ((u _ _ a ne).trans W)) da Y R rfl (by show 2 < 6;decide) (X _ (fun b z=>(u _ _ b z).trans ((u _ _ b z).trans (u _ _ b z))) Z)
variable {bmB:List ag}{B initId:String}
theorem IG{a:aa}(F:gr B newId initId bmB){mN:aQ->Option ag}{x:aQ}{X p G M:lK}{nk:Nat}{args:List c7}{Q:Flow->ap->Prop}
  (D:bm.contains (.type "BaseException")=true) (hh:A.handled=some (.ref a)) (O: (eB p (bu args env)).any (·.1)=false) (R:mN "__init__"=none)
  (h:wpAny (bj prog w) A (dr (.Name x X) env) (fun f r=>f= .ref C/\wpAny (bj prog w) A (evalArgs (.ref C) true (eB p (bu args env)) [])
   (fun v j=>v.kw= []/\v.pos.length<=aO/\j.heap.get? C=some (pu nm q C N bs bm hdct sn sub ab col dd k0 k1 k2 k3 k5 newId)/\j.heap.Ns N mN/\OwnTail j.heap bmB bm/\(∃(J:dX) (I:Array ag),j.heap.get? a=some J/\J.data= .fields I/\I[2]? =some .none)/\
    ∀(h':bH) (e t:aa),(∀b o,j.heap.get? b=some o->h'.get? b=some o)->j.heap.get? e=none->h'.get? e=some { cls:= .ref C,data:= .fields #[.ref t, .none, .ref a, .none, .bool true, .none] } ->E (.ref e) { j with heap:=h' }) E r) E s):
  wpAny (bj prog w) A (exec (.Raise (some (.Call (.Name x X) args [] p)) (some (.Constant .none nk G)) M) env) Q E s:=by
 rw[arm_exec_Raise];refine bc (lM ?_);refine zn (C:=C) (nm:=nm) (q:=q) (N:=N) (bs:=bs) (bm:=bm) (hdct:=hdct) (sn:=sn) (sub:=sub) (ab:=ab) (col:=col) (dd:=dd) (k0:=k0) (k1:=k1) (k2:=k2) (k3:=k3) (k5:=k5) (newId:=newId) D hh ?_;refine bc (cu (wpAny_Call_ofName (cu h (fun f r y=>?_) fun _ _ z=>z)) (fun v W y=>bc (lM (cH y))) fun _ _ z=>z);obtain⟨rfl,y⟩:=y;unfold pi;refine bc (lN (cu y (fun v j z=>bc (lM ?_)) fun _ _ z=>z));obtain⟨vp,Z⟩:=v;obtain⟨kw,len,S,hn,T,⟨J,I,Y,da,U⟩,hE⟩:=z;obtain rfl:Z= []:=kw;obtain⟨hp,g,d,tk,os⟩:=j;simp only[O];refine bc (wpAny_keeperOf_exc S ?_);refine bc (wpAny_call_exc_subT (hrest:=len) F T S hn R fun h' e u=>bc (lN (wpAny_point (cH ?_))));obtain⟨t,ht,_,_⟩:=u.there;refine⟨e,t,J,I,rfl,fun z=>?_,u.keeps _ _ S,ht,u.keeps _ _ Y,da,U,?_,fun U k z=>hE U e t (fun b o q=>?_) u.new z⟩
 ·have n:=u.new;rw[<-z]at n;cases Y.symm.trans n
 ·exact bc (wpAny_Constant_none (bc (lM (cH ⟨rfl,rfl⟩))))
 ·exact(k b fun z=>by rw[z,show hp.get? e=none from u.new]at q;cases q).trans (u.keeps b o q)
variable {nm' q':aQ}{D N':aa}{bs' bm':List ag}{hdct':Bool}{sn':List aQ}{sub':List ag}{ab':Bool}{col':Option Bool}{dd':Option aa}{l0 l1 l2 l3 l5:Option ag}{newId':String}
theorem IH{h:bH}{g:Array GenState}{d:Drawn}{t:Nat}{os:OsState}{e:aa}{p:dX}{M:tY}{Q:Bool->ap->Prop}
  (z:h.get? C=some (pu nm q C N bs bm hdct sn sub ab col dd k0 k1 k2 k3 k5 newId)) (r:h.get? D=some (pu nm' q' D N' bs' bm' hdct' sn' sub' ab' col' dd' l0 l1 l2 l3 l5 newId'))
  (v:h.get? e=some p) (x:p.cls= .ref C) (y:bm'.contains (.type "BaseException")=true) (u: (bU C::bm).contains (.ref D)=false)
  (k:Q false ⟨h,g,d,t,os⟩):wpAny M A (excMatches (.ref e) (.ref D)) Q E ⟨h,g,d,t,os⟩:=by
 have j: (bU D::bm').contains (.type "BaseException")=true:=by rw[pf,y,JI]
 have f:=tc_notTuple;unfold excMatches
 repeat (first| (with_reducible refine lH v ?_;rw[x]) |with_reducible refine lH r ?_ | (with_reducible refine qW r ?_;rw[j]) | (with_reducible refine qW z ?_;rw[u]) |wp_step)
 exact k
end
end L2
namespace L2
open PySem PySem.Spec PyProof.Rows
theorem ObjOk.there{P:aZ}{w:bB}{H:Hp}{h:bH}{a:aa}{o:HO}(x:ObjOk P w H h a o):∃g,h.get? a=some g:=by
 cases o with
 |lst xs=>obtain⟨_,_,_,_,e⟩:=x;exact⟨_,e⟩
 |tup xs=>obtain⟨_,_,_,g,e,_⟩:=x;exact⟨_,e⟩
 |dK kvs=>obtain⟨_,_,_,_,o,_,_,e,_⟩:=x;exact⟨_,e⟩
 |dT kvs=>obtain⟨_,_,_,_,o,_,_,e,_⟩:=x;exact⟨_,e⟩
 |set S n=>obtain⟨o,_,_,_,e,_⟩:=x;exact⟨_,e⟩
 |ins C dx fs=>obtain⟨_,_,_,e,_⟩:=x;exact⟨_,e⟩
 |own y=>obtain⟨_,e⟩:=x;exact⟨_,e⟩
 |xd fs=>obtain⟨_,⟨_,_,_,e,_⟩,_⟩:=x;exact⟨_,e⟩
 |rng lo hi=>obtain⟨_,_,_,e⟩:=x;exact⟨_,e⟩
 |frz g u=>obtain⟨e,_⟩:=x;exact⟨_,e⟩
 |tbl ps=>exact⟨_,(show h.get? a=some _ from x)⟩
 |met f y=>exact⟨_,(show h.get? a=some _ from x)⟩
 |ext φ=>obtain⟨_,⟨_,e⟩,_⟩:=x;exact⟨_,e⟩
theorem zo{fs:List aa}{H H':Hp}{h y z B:bH}(u:Un fs [] H H' h y)(k1:B.StaysIn y)(k2:B.StaysIn z)(C:y.UpToSlots z)
  (x:∀b o,h.get? b=some o->b∉fs->∃j,B.get? b=some j) (D:∀b∈fs,∀o,y.get? b=some o->∀vs,o.data≠ .fields vs):Un fs [] H H' h z where
 keep b o e n g hx:=by
  obtain⟨j,q⟩:=x b o e g;have p:=u.keep b o e n g hx;have v:j=o:=aB ((k1 b j q).symm.trans p);subst v;exact k2 b _ q
 slot b o e n g hx:=by
  obtain⟨E,p⟩:=u.slot b o e n g hx;obtain⟨r,v⟩:=C b _ p (D b g _ p);exact⟨r,v⟩
 free:=u.free
 there b o e hx:=by
  by_cases g:b∈fs
  ·obtain⟨F,p⟩:=u.there b o e hx;obtain⟨r,v⟩:=C b _ p (D b g _ p);exact⟨_,v⟩
  ·obtain⟨j,q⟩:=x b o e g;exact⟨j,k2 b j q⟩
 tups:=u.tups
 frzs:=u.frzs
 tbls:=u.tbls
theorem DF{fs:List aa}{L:aa}{B H H':Hp}{p y r:bH}(u:Un fs [] B H p y)(v:Un (L::fs) [] H H' y r)(E:∀b o,p.get? b=some o->b≠L):Un fs [] B H' p r where
 keep b o e n hb hx:=v.keep b o (u.keep b o e n hb hx) (u.free b o e n hx) (by intro z;rcases am.mp z with z|z;exact E b o e z;exact hb z) hx
 slot b o e n hb hx:=by
  obtain⟨F,g⟩:=u.slot b o e n hb hx;obtain⟨h,q⟩:=v.slot b _ g (u.free b o e n hx) (ak _ hb) hx;exact⟨h,q⟩
 free b o e n hx:=by
  obtain⟨j,g⟩:=u.there b o e hx;exact v.free b j g (u.free b o e n hx) hx
 there b o e hx:=by
  obtain⟨j,g⟩:=u.there b o e hx;exact v.there b j g hx
 tups b xs e:=v.tups b xs (u.tups b xs e)
 frzs b o x e:=v.frzs b o x (u.frzs b o x e)
 tbls b ps e:=by
  obtain⟨D,g⟩:=u.tbls b ps e;obtain⟨C,q⟩:=v.tbls b _ g;exact⟨D++C,by rw[q,Bj]⟩
theorem vY{P:aZ}{w:bB}{H:Hp}{v r B:bH}(x:HOk P w H v)(k1:B.StaysIn v)(k2:B.StaysIn r)(j:∀b o,H b=some o->∃g,B.get? b=some g):HOk P w H r:=fun a o e=>
 (x a o e).stay (fun b u hb q=>by
  obtain⟨h,z⟩:∃h,H b=some h:=by
   rcases hb with rfl|hb
   ·exact⟨_,e⟩
   ·exact⟨_,hb⟩
  obtain⟨g,p⟩:=j b h z;have y:g=u:=aB ((k1 b g p).symm.trans q);subst y;exact k2 b _ p) (fun _ q=>q) fun _ _ q=>q
def FX:Option aa->ag
 |none=> .none
 |some a=> .ref a
def cE(P:aZ)(w:bB):CXT:=fun outer H s E e g=>
 ∃(j:aa) (cls:ag) (od:Option aa) (B:bH) (H':Hp),e= .ref j/\g.os=s.os/\qr g.gens/\Un (iS outer) [] H H' s.heap g.heap/\HOk P w H' g.heap/\
  FlX B outer j cls (FX od) .none g.heap/\(∀b o,H' b=some o->∃h,B.get? b=some h)/\(∀b o,s.heap.get? b=some o->b∉iS outer->∃h,B.get? b=some h)/\E cls od H'
structure FnCx(X:Cx):Prop where
 stk:X.stack=X.env::X.outer
 fr:X.env.frame=some X.env.locals
 ex:X.ex= []
theorem FnCx.frs{X:Cx}(F:FnCx X):iS X.stack=X.env.locals::X.fs:=by
 rw[F.stk];show List.filterMap _ _=_;rw[iX,F.fr];rfl
section
variable {X:Cx}{pins:List (aa×dX)}{σ:St}{H:Hp}{s:ap}
theorem Inv.above(I:Inv X pins σ H s):∀b o,X.s₀.heap.get? b=some o->b≠X.env.locals:=fun b o e z=>by
 have g:=bv e;have h:=I.ok.above;rw[z]at g;exact absurd (bC g h) (dA _)
theorem Inv.nofields(I:Inv X pins σ H s):∀b∈L2.iS X.stack,∀o,s.heap.get? b=some o->∀vs,o.data≠ .fields vs:=fun b j o e vs q=>by
 obtain⟨_,p,g,h⟩:=I.stack.mem j;rw[e]at g;cases g;exact h vs q
theorem Inv.flown{M:tY}{E':ag->ap->Prop}(F:FnCx X)(I:Inv X pins σ H s){h':bH}{e:aa}{r:dX}{vs:Array ag}{od:Option aa}(kp:∀b o,s.heap.get? b=some o->h'.get? b=some o)(nw:s.heap.get? e=none)(U:h'.get? e=some r)(hd:r.data= .fields vs)(h1:vs[1]? =some .none)(u:vs[2]? =some (FX od)){E:XK}(Z:E r.cls od H):
  wpAny M X.A (qv X.env (.ref e)) (fun _ v=>cE X.prog X.w X.outer X.H₀ X.s₀ E (.ref e) v) E' { s with heap:=h' } :=by
 have p:=F.frs;have k0: (PySem.W.hideAll s.heap (L2.iS X.stack)).StaysIn s.heap:=fun b o q=>PySem.W.of_hideAll _ q;have x:X.A.frames=some (X.env::X.outer):=by rw[I.ok.frames,F.stk]
 have S:s.heap.FunFrames (PySem.W.hideAll s.heap (L2.iS X.stack)) (X.env::X.outer):=by
  have q:=PySem.W.funFrames_hide (as:=L2.iS X.stack) I.stack (fun env R a Y=>o9.mpr ⟨env,R,Y⟩);rw[F.stk]at q ⊢;exact q
 have Q: (PySem.W.hideAll s.heap (L2.iS X.stack)).get? e=none:=by
  cases q: (PySem.W.hideAll s.heap (L2.iS X.stack)).get? e with
  |none=>rfl
  |some o=>have:=k0 e o q;rw[nw]at this;cases this
 refine FW (base:=PySem.W.hideAll s.heap (L2.iS X.stack)) x (S.of_keeps fun b o q _=>⟨o,kp b o q,rfl⟩) F.fr U (fun b o q=>kp b o (k0 b o q)) Q hd h1 u fun u B f4=>?_;have J:s.heap.UpToSlots u:=(JJ kp).trans f4;have h:∀b o,s.heap.get? b=some o->b∉L2.iS X.stack->∃j,(PySem.W.hideAll s.heap (L2.iS X.stack)).get? b=some j:=fun b o q y=>⟨o,PySem.W.hideAll_get _ q y⟩;have D:Un (L2.iS X.stack) [] H H s.heap u:=zo Un.refl k0 B.stay J h I.nofields;have G:Un X.fs [] X.H₀ H X.s₀.heap s.heap:=by have q:=I.base;rw[F.ex]at q;exact q
 rw[p]at D;have g:∀b o,H b=some o->∃j,(PySem.W.hideAll s.heap (L2.iS X.stack)).get? b=some j:=fun b o q=>by
  obtain⟨j,C⟩:=(I.hok b o q).there;exact h b j C fun z=>by rw[I.stkFree b z]at q;cases q
 refine⟨e,r.cls,od,_,H,rfl,I.os,I.bare,DF G D I.above,vY I.hok k0 B.stay g,B,g,fun b o q y=>?_,Z⟩;obtain⟨O,C⟩:=G.there b o q (by simp);refine h b O C fun z=>?_;rw[p]at z;rcases am.mp z with z|z
 ·exact I.above b o q z
 ·exact y z
theorem Inv.raised{M:tY}{q:ag->ap->Prop}(F:FnCx X)(I:Inv X pins σ H s){h':bH}{e:aa}{cls:ag}{vs:List ag}(h:Hi s.heap h' e cls vs){E:XK}(p:E cls none H):
  wpAny M X.A (qv X.env (.ref e)) (fun _ g=>cE X.prog X.w X.outer X.H₀ X.s₀ E (.ref e) g) q { s with heap:=h' } :=by
 obtain⟨t,j,_,_⟩:=h.there;exact I.flown F h.keeps h.new j rfl rfl (od:=none) rfl p
theorem Inv.passed{M:tY}{E':ag->ap->Prop}(F:FnCx X)(I:Inv X pins σ H s){e:ag}{x:ap}{E:XK}(h:cE X.prog X.w X.stack H s E e x):
  wpAny M X.A (qv X.env e) (fun _ v=>cE X.prog X.w X.outer X.H₀ X.s₀ E e v) E' x:=by
 have p:=F.frs;obtain⟨Y,cls,od,B,H',rfl,os,bare,un,hok,u,j,g,U⟩:=h;have y:X.A.frames=some (X.env::X.outer):=by rw[I.ok.frames,F.stk]
 have r:=u;rw[F.stk]at r;refine IF y F.fr r fun W D R=>?_;have S:∀b∈L2.iS X.stack,∀o,x.heap.get? b=some o->∀vs,o.data≠ .fields vs:=fun b C o q vs z=>by
  obtain⟨_,O,Q,n⟩:=u.fr.mem C;rw[q]at Q;cases Q;exact n vs z
 have G:Un (L2.iS X.stack) [] H H' s.heap W:=zo un u.stay D.stay R g S;have J:Un X.fs [] X.H₀ H X.s₀.heap s.heap:=by have q:=I.base;rw[F.ex]at q;exact q
 rw[p]at G;refine⟨Y,cls,od,B,H',rfl,os.trans I.os,bare,DF J G I.above,vY hok u.stay D.stay j,D,j,fun b o q C=>?_,U⟩;obtain⟨O,Z⟩:=J.there b o q (by simp);refine g b O Z fun z=>?_;rw[p]at z;rcases am.mp z with z|z
 ·exact I.above b o q z
 ·exact C z
end
def Rz(X:Cx)(C:aa)(E:XK):Prop:=∀(pins:List (aa×dX)) (σ:St) (H:Hp) (s:ap) (h':bH) (e:aa) (vs:List ag),Inv X pins σ H s->Hi s.heap h' e (.ref C) vs->E (.ref C) none H->X.xe (.ref e) { s with heap:=h' }
section
variable {P:aZ}{w:bB}{K:PySem.W.Frag}{mg:aQ->Option ag}{base:bH}{N:List aQ}{qual:aQ}{scope:gv}{f:aa}{cd:ag}{A:cC}{outer:List m4}{s:ap}{H:Hp}{E:XK}
theorem BU:FnCx (ir (cE P w) P w K mg base N qual scope f cd A outer s H E):=⟨rfl,rfl,rfl⟩
theorem aP:fO (cE P w) (ir (cE P w) P w K mg base N qual scope f cd A outer s H E) E:=fun _ _ _ _ _ _ I h=>I.passed BU h
theorem ft{C:aa} :Rz (ir (cE P w) P w K mg base N qual scope f cd A outer s H E) C E:=fun _ _ _ _ _ _ _ I e g=>I.raised BU e g
theorem ma:qu (bj P w) (ir (cE P w) P w K mg base N qual scope f cd A outer s H E).A (ir (cE P w) P w K mg base N qual scope f cd A outer s H E).env (ir (cE P w) P w K mg base N qual scope f cd A outer s H E).xe:=PassesOwn.leaving
end
theorem Fun.okX{P:aZ}{w:bB}{K:PySem.W.Frag}{mg:aQ->Option ag}{base:bH}{x e:aQ}{st:ck}{f:aa}{fd:gc}{N p:List aQ}{k:Nat}{sp:Sp}(F:Fun K x e st f fd)(S:bf N p (aA st))
  (j:∀(g:ag) (A:cC) (outer:List m4) (s:ap) (H:Hp) (vs:List V) (Q:VK) (E:XK),Room k (A.deeper (im e (aA st) s.heap.objs.size f g))->sp vs H Q E->
   ∃t,PSs (ir (cE P w) P w K mg base N e (aA st) f g A outer s H E) (ew st) t/\t { nx:=fun _ H'=>Q .non H',rt:=Q } (i0 N vs) H) (len:∀vs H Q E,sp vs H Q E->vs.length=p.length:=by intro vs H Q E h;first| (cases h;rename_i h;rw[h.1];rfl) | (rw[h.1];rfl)):lZ P w K mg base (cE P w) (k+1) f fd p sp:=by
 obtain⟨C,od,kV,z,B,D,g,ct,u,rfl,v,r⟩:=F.ex;exact Hy v r S len fun A outer s H vs Q E y q=>j g A outer s H vs Q E y q
theorem j0{K:PySem.W.Frag}{h:bH}{C:aa}{j:List ag}{newId:String}(X:K.In h)(q:PySem.W.excIn K C j newId=true):
  ∃bm N nm q bs hdct sn sub ab col dd k0 k1 k2 k3 k5 u,h.get? C=some (pu nm q C N bs bm hdct sn sub ab col dd k0 k1 k2 k3 k5 newId)/\h.Ns N u/\u "__init__"=none/\OwnTail h j bm:=by
 unfold PySem.W.excIn at q;split at q
 ·rename_i dd cd r D;split at q
  ·rename_i F bm k0 k1 k2 k3 n k5 x v;simp only[bY,beq_iff_eq,Bool.not_eq_true']at q;obtain⟨⟨⟨⟨⟨rfl,rfl⟩,e⟩,B⟩,hok⟩,g⟩:=q;obtain⟨nm,bs,z,ns,y,hd,sn,sub,ab,col,E⟩:=cd;dsimp only at x e hok g;subst x e;have p:r= #[k0,k1,k2,k3,some (.builtin n),k5]:=by
    obtain⟨l⟩:=r;simp only at v;rw[v]
   subst p;exact⟨bm,ns,nm,y,bs,hd,sn,sub,ab,col,dd,k0,k1,k2,k3,k5,_,X _ _ D, .of_isNs (PySem.W.isNs_of_in X hok),PySem.W.nsMap_none_of_in X hok g,PySem.W.tail_of_in X B⟩
  ·cases q
 ·cases q
def II(t:TA)(C:aa)(E:XK):TS:=fun _ σ H=>t σ H fun vs H1=>vs.length<=aO/\E (.ref C) none H1
theorem cX{X:Cx}{B newId p:String}{v:List ag}{C:aa}{x:aQ}{U j z:lK}{arg:c7}{g:List c7}{M:TA}{E:XK}(S:gr B newId p v)(Z:PySem.W.excIn X.K C v newId=true)(hc:X.calm=true)
  (hg:Gl X x) (hm:X.mg x=some (.ref C)) (ha:PA X (arg::g) M) (R:Rz X C E) (hd: (x ==("__debug__":aQ))=false:=by decide)
  (O:bu (arg::g) X.env= (false,dr arg X.env)::bu g X.env:=by rfl) (F: (eB j (bu g X.env)).any (·.1)=false:=by rfl):
  PS X (.Raise (some (.Call (.Name x U) (arg::g) [] j)) none z) (II M C E):=by
 intro pins s σ H D I h;obtain⟨tl,N,nm,q,bs,hdct,sn,sub,ab,col,dd,k0,k1,k2,k3,k5,mN,hC,hN,G,T⟩:=j0 I.mod.kin Z;refine wpAny_Raise_call_subT (C:=C) (nm:=nm) (q:=q) (N:=N) (bs:=bs) (bm:=tl) (hdct:=hdct) (sn:=sn) (sub:=sub) (ab:=ab) (col:=col) (dd:=dd) (k0:=k0) (k1:=k1) (k2:=k2) (k3:=k3) (k5:=k5)
  S (mN:=mN) (T.hasType S.hasBase) (I.ok.hd hc) (by rw[O];show(false ||(eB j (bu g X.env)).any (·.1))=false;rw[F];rfl) G (ky I hg hm ⟨rfl,?_⟩ hd)
 have Q:=ha j pins s σ H (fun vs H1=>vs.length<=aO/\E (.ref C) none H1) I h;rw[O]at Q ⊢;exact io (cu Q (fun us r u=>by
  obtain⟨vs,H',J,rv,hl,hE⟩:=u;exact⟨rfl,by rw[<-rv.length];exact hl,J.bk _ _ hC,hN.keeps J.bk,T.keeps J.bk,fun h' e Y=>R pins σ H' r h' e us J Y hE⟩) fun _ _ y=>y)
abbrev Cx.tryB(X:Cx)(pn:List (aa×dX))(xe:ag->ap->Prop):Cx:= { X with pn:=pn,xe:=xe }
abbrev Cx.exR(X:Cx)(e:aa)(g:dX):Cx:= { X with A:=X.A.mark (some (.ref e)),calm:=false,pn:=X.pn++ [(e,g)] }
theorem Inv.tryB{X:Cx}{pins:List (aa×dX)}{σ:St}{H:Hp}{s:ap}(I:Inv X pins σ H s)(xe:ag->ap->Prop):Inv (X.tryB (X.pn++pins) xe) [] σ H s:=
 ⟨⟨I.ok.mod,I.ok.kind,I.ok.glob,I.ok.blt,I.ok.above,I.ok.inj,I.ok.has,I.ok.cab,I.ok.hd,I.ok.frames,I.ok.stk,I.ok.exf,I.ok.bs,I.ok.bsz,I.ok.noex,I.ok.exfs,I.ok.funs,I.ok.frf⟩,
  I.os,I.bare,I.base,I.loc,I.cell,I.free,I.freeC,fun p e=>I.pin p (by simpa using e),I.hok,I.len⟩
theorem Inv.untryB{X:Cx}{pins e:List (aa×dX)}{σ:St}{H:Hp}{s:ap}{xe:ag->ap->Prop}(I:Inv (X.tryB (X.pn++pins) xe) e σ H s):Inv X pins σ H s:=
 ⟨⟨I.ok.mod,I.ok.kind,I.ok.glob,I.ok.blt,I.ok.above,I.ok.inj,I.ok.has,I.ok.cab,I.ok.hd,I.ok.frames,I.ok.stk,I.ok.exf,I.ok.bs,I.ok.bsz,I.ok.noex,I.ok.exfs,I.ok.funs,I.ok.frf⟩,
  I.os,I.bare,I.base,I.loc,I.cell,I.free,I.freeC,fun p g=>I.pin p (aH _ g),I.hok,I.len⟩
theorem Inv.exR{X:Cx}{pins:List (aa×dX)}{σ:St}{H:Hp}{s:ap}(I:Inv X pins σ H s){e:aa}{g:dX}(h:s.heap.get? e=some g/\H e=none/\e≠X.env.locals/\e∉X.fs/\∀v,g.data≠ .cell v):Inv (X.exR e g) pins σ H s:=
 ⟨⟨I.ok.mod,I.ok.kind,I.ok.glob,I.ok.blt,I.ok.above,I.ok.inj,I.ok.has,I.ok.cab,(fun h=>nomatch h),I.ok.frames,I.ok.stk,I.ok.exf,I.ok.bs,I.ok.bsz,I.ok.noex,I.ok.exfs,I.ok.funs,I.ok.frf⟩,
  I.os,I.bare,I.base,I.loc,I.cell,I.free,I.freeC,fun p j=>by
   rcases aT.mp j with q|q
   ·rcases aT.mp q with q|q
    ·exact I.pin p (aH _ q)
    ·rw[aw.mp q];exact h
   ·exact I.pin p (aM _ q),I.hok,I.len⟩
theorem Inv.unexR{X:Cx}{pins:List (aa×dX)}{σ:St}{H:Hp}{s:ap}{e:aa}{g:dX}(ok:X.Ok)(I:Inv (X.exR e g) pins σ H s):Inv X pins σ H s:=
 ⟨ok,I.os,I.bare,I.base,I.loc,I.cell,I.free,I.freeC,fun p h=>I.pin p (by
  rcases aT.mp h with q|q
  ·exact aH _ (aH _ q)
  ·exact aM _ q),I.hok,I.len⟩
def RzX(X:Cx)(C a:aa)(E:XK):Prop:=∀(pins:List (aa×dX)) (σ:St) (H:Hp) (s:ap) (h':bH) (e t:aa),Inv X pins σ H s->(∀b o,s.heap.get? b=some o->h'.get? b=some o)->s.heap.get? e=none->
 h'.get? e=some { cls:= .ref C,data:= .fields #[.ref t, .none, .ref a, .none, .bool true, .none] } ->E (.ref C) (some a) H->X.xe (.ref e) { s with heap:=h' }
section
variable {P:aZ}{w:bB}{K:PySem.W.Frag}{mg:aQ->Option ag}{base:bH}{N:List aQ}{qual:aQ}{scope:gv}{f:aa}{cd:ag}{A:cC}{outer:List m4}{s:ap}{H:Hp}{E:XK}
theorem DG{C a:aa}{e:dX}(ok: (ir (cE P w) P w K mg base N qual scope f cd A outer s H E).Ok):RzX ((ir (cE P w) P w K mg base N qual scope f cd A outer s H E).exR a e) C a E:=
 fun _ _ _ _ _ _ _ I kp nw g h=>(I.unexR ok).flown BU kp nw g rfl rfl (od:=some a) rfl h
theorem vZ(hd:Option ag):wX (bj P w) ((ir (cE P w) P w K mg base N qual scope f cd A outer s H E).A.mark hd) (ir (cE P w) P w K mg base N qual scope f cd A outer s H E).A (ir (cE P w) P w K mg base N qual scope f cd A outer s H E).env (ir (cE P w) P w K mg base N qual scope f cd A outer s H E).xe:=PassesOwnAt.leaving
end
def FY(t:TA)(C a:aa)(E:XK):TS:=fun _ σ H=>t σ H fun vs H1=>vs.length<=aO/\E (.ref C) (some a) H1
theorem u9{X:Cx}{B newId p:String}{G:List ag}{C a:aa}{r:dX}{ws:Array ag}{x:aQ}{np j v M:lK}{nk:Nat}{arg:c7}{g:List c7}{Y:TA}{E:XK}(FB:gr B newId p G)(hq:PySem.W.excIn X.K C G newId=true)
  (U:r.data= .fields ws) (S:ws[2]? =some .none) (hg:Gl X x) (hm:X.mg x=some (.ref C)) (ha:PA (X.exR a r) (arg::g) Y) (R:RzX (X.exR a r) C a E) (hd: (x ==("__debug__":aQ))=false:=by decide)
  (Z:bu (arg::g) X.env= (false,dr arg X.env)::bu g X.env:=by rfl) (O: (eB j (bu g X.env)).any (·.1)=false:=by rfl):
  PS (X.exR a r) (.Raise (some (.Call (.Name x np) (arg::g) [] j)) (some (.Constant .none nk v)) M) (FY Y C a E):=by
 intro pins s σ H D I h;obtain⟨tl,N,nm,q,bs,hdct,sn,sub,ab,col,dd,k0,k1,k2,k3,k5,mN,hC,hN,Q,T⟩:=j0 I.mod.kin hq;refine IG (a:=a) (C:=C) (nm:=nm) (q:=q) (N:=N) (bs:=bs) (bm:=tl) (hdct:=hdct) (sn:=sn) (sub:=sub) (ab:=ab) (col:=col) (dd:=dd) (k0:=k0) (k1:=k1) (k2:=k2) (k3:=k3) (k5:=k5)
  FB (mN:=mN) (T.hasType FB.hasBase) rfl (by show(eB j (bu (arg::g) X.env)).any (·.1)=false;rw[Z];show(false ||(eB j (bu g X.env)).any (·.1))=false;rw[O];rfl) Q (ky I hg hm ⟨rfl,?_⟩ hd)
 have h2:=ha j pins s σ H (fun vs H1=>vs.length<=aO/\E (.ref C) (some a) H1) I h;rw[show bu (arg::g) (X.exR a r).env=bu (arg::g) X.env from rfl,Z]at h2 ⊢;exact io (cu h2 (fun us u F=>by
  obtain⟨vs,H',J,rv,hl,hE⟩:=F;have hp:=J.pin (a,r) (aH _ (aM _ af));exact⟨rfl,by rw[<-rv.length];exact hl,J.bk _ _ hC,hN.keeps J.bk,T.keeps J.bk,⟨r,ws,hp.1,U,S⟩,fun h' e t kp nw z=>R pins σ H' u h' e t J kp nw z hE⟩) fun _ _ y=>y)
def va(σ:St):St:=m7 σ.length none
theorem Inv.blank{X:Cx}{pins:List (aa×dX)}{σ:St}{H:Hp}{s:ap}(I:Inv X pins σ H s):Inv X pins (L2.va σ) H s:=
 I.weak (by unfold L2.va;rw[yZ]) (fun i v z=>by unfold L2.va at z;rw[w9]at z;split at z<;>cases z)
section
variable {X:Cx}{B:bH}{bs:String}{newId initId:String}{bmB:List ag}{C ea:aa}{ctx:ag}{x:aQ}{np hpos:lK}{b₀:ck}{suite:List ck}{rest:List Bn}{pins:List (aa×dX)}{σ:St}{H:Hp}{s:ap}{D:nH}
theorem IJ{cls D:ag}{g:bH}{e:dX}{ws:Array ag}(F:FnCx X)(u:FlX B (X.env::X.outer) ea cls ctx D g)(h:∀b o,H b=some o->∃p,B.get? b=some p)(r:g.get? ea=some e)(C:e.data= .fields ws):g.get? ea=some e/\H ea=none/\ea≠X.env.locals/\ea∉X.fs/\∀v,e.data≠ .cell v:=by
 have nofr:ea∉L2.iS (X.env::X.outer):=fun m=>by
  obtain⟨_,E,y,n⟩:=u.fr.mem m;rw[r]at y;cases y;exact n _ C
 have x:=F.frs;rw[F.stk]at x;rw[x]at nofr;refine⟨r,?_,fun z=>nofr (by rw[z];exact af),fun z=>nofr (ak _ z),fun v z=>by rw[C]at z;cases z⟩;cases q:H ea with
 |none=>rfl
 |some o=>obtain⟨p,j⟩:=h ea o q;rw[u.new]at j;cases j
theorem ss{ts:TS}(FB:gr bs newId initId bmB)(hq:PySem.W.excIn X.K C bmB newId=true)(hg:Gl X x)(hm:X.mg x=some (.ref C))(y:wX (bj X.prog X.w) (X.A.mark (some (.ref ea))) X.A X.env X.xe)
  (I:Inv X pins σ H s) (G:FlX B (X.env::X.outer) ea (.ref C) ctx .none s.heap) (inv:∀U:bH,B.StaysIn U->s.heap.UpToSlots U->Inv X pins σ H { s with heap:=U })
  (J:∀b o,H b=some o->∃ob,B.get? b=some ob) (F:FnCx X)
  (hs:∀(r:dX) (M:Array ag),r.data= .fields M->M[2]? =some ctx->PSs (X.exR ea r) (b₀::suite) ts) (ht:ts D (va σ) H) (hd: (x ==("__debug__":aQ))=false:=by decide):
  wpAny (bj X.prog X.w) X.A (y4 (.ref ea) X.env (.ExceptHandler (some (.Name x np)) none (b₀::suite) hpos::rest)) (SP X pins D) X.xe s:=by
 obtain⟨p,ws0,T0,oT0,ts0,E,R,Y,_⟩:=G.tr;have I0:Inv (X.exR ea p) pins σ H s:=I.exR (IJ F G J E Y);obtain⟨tl,N,nm,q,bs,hdct,sn,sub,ab,col,dd,k0,k1,k2,k3,k5,mN,S,hN,hni,T⟩:=j0 I.kIn hq;refine Hj (EM ?_) (by intro q;cases q);refine ky (X:=X.exR ea p) I0 hg hm ?_ hd;refine wpAny_excMatches_sub_self S E R (T.hasType FB.hasBase) (codeAny_handlers_suite ?_);refine sfX G fun Z g Q=>?_;obtain⟨r,M,T6,oT,ts6,he,hc,de,d2,_⟩:=g.tr;have I6:Inv (X.exR ea r) pins (va σ) H { s with heap:=Z } :=(inv Z g.stay Q).blank.exR (IJ F g J he de);refine wpAny_passesOwnAt y ?_;refine cu (hs r M de d2 pins _ (va σ) H D I6 ht) (fun G sx O=>?_) fun _ _ z=>z;cases G with
 |next=>obtain⟨e,j,h,z⟩:=O;exact⟨e,j,h.unexR I.ok,z⟩
 |brk=>obtain⟨e,j,h,z⟩:=O;exact⟨e,j,h.unexR I.ok,z⟩
 |cont=>obtain⟨e,j,h,z⟩:=O;exact⟨e,j,h.unexR I.ok,z⟩
 |ret u=>obtain⟨v,e,j,h,rv,z⟩:=O;exact⟨v,e,j,h.unexR I.ok,rv,z⟩
theorem BV{Dc:aa}{u e g:String}{h:List ag}{Q:Flow->ap->Prop}(FB:gr bs newId initId bmB)(hq:PySem.W.excIn X.K C bmB newId=true)(O:gr u e g h)(v:PySem.W.excIn X.K Dc h e=true)
  (y:∃o cd,X.K.lookup C=some o/\o.data= .cls cd/\cd.mro.contains (.ref Dc)=false) (hg:Gl X x) (hm:X.mg x=some (.ref Dc)) (I:Inv X pins σ H s) (Z:FlX B (X.env::X.outer) ea (.ref C) ctx .none s.heap) (M:∀b o,H b=some o->∃ob,B.get? b=some ob) (F:FnCx X)
  (k:wpAny (bj X.prog X.w) X.A (y4 (.ref ea) X.env rest) Q X.xe s) (hd: (x ==("__debug__":aQ))=false:=by decide):
  wpAny (bj X.prog X.w) X.A (y4 (.ref ea) X.env (.ExceptHandler (some (.Name x np)) none (b₀::suite) hpos::rest)) Q X.xe s:=by
 obtain⟨j,ws0,T0,oT0,ts0,p,D,J,_⟩:=Z.tr;have I0:Inv (X.exR ea j) pins σ H s:=I.exR (IJ F Z M p J);obtain⟨tl,N,nm,q,bs,hdct,sn,sub,ab,col,dd,k0,k1,k2,k3,k5,mN,r,hN,hni,T⟩:=j0 I.kIn hq;obtain⟨tl2,N2,nm2,q2,u,z,sn2,R,ab2,a0,dd2,l0,l1,l2,l3,l5,mN2,E,hN2,U,T2⟩:=j0 I.kIn v;obtain⟨o,cd,lk,dk,Y⟩:=y;have S:=I.kIn _ _ lk;rw[r]at S;obtain rfl:=aB S;have G:=Data.cls.inj dk;rw[<-G]at Y;refine Hj (EM ?_) (by intro q;cases q);refine ky (X:=X.exR ea j) I0 hg hm ?_ hd;exact IH r E p D (T2.hasType O.hasBase) Y k
end
section
variable {X:Cx}
theorem FlX.nofields{B:bH}{l:List m4}{r:aa}{cls e p:ag}{h:bH}(x:FlX B l r cls e p h):∀b∈L2.iS l,∀o,h.get? b=some o->∀vs,o.data≠ .fields vs:=fun b j o q vs z=>by
 obtain⟨_,u,g,n⟩:=x.fr.mem j;rw[q]at g;cases g;exact n vs z
theorem DH{r:List ck}{h₀:Bn}{hs:List Bn}{pos:lK}{tb:XK->TS}{Z:XK}{pins:List (aa×dX)}{s:ap}{σ:St}{H:Hp}{D:nH}(F:FnCx X)(I:Inv X pins σ H s)
  (hb:∀(pn:List (aa×dX)) (xe:ag->ap->Prop),fO (cE X.prog X.w) (X.tryB pn xe) Z->qu (bj X.prog X.w) X.A X.env xe->PSs (X.tryB pn xe) r (tb Z)) (htb:tb Z D σ H)
  (hh:∀(h:St) (H':Hp) (S:ap) (W:aa) (cls:ag) (od:Option aa) (B:bH),h.length=σ.length->Z cls od H'->Inv X pins h H' S->FlX B (X.env::X.outer) W cls (FX od) .none S.heap->(∀j:bH,B.StaysIn j->S.heap.UpToSlots j->Inv X pins h H' { S with heap:=j })->(∀b o,H' b=some o->∃ob,B.get? b=some ob)->
   wpAny (bj X.prog X.w) X.A (y4 (.ref W) X.env (h₀::hs)) (SP X pins D) X.xe S):
  wpAny (bj X.prog X.w) X.A (exec (.Try r (h₀::hs) [] [] pos) X.env) (SP X pins D) X.xe s:=by
 refine wpAny_Try_except ?_
 let XE:ag->ap->Prop:=fun e R=>wpAny (bj X.prog X.w) X.A (qw e X.env) (fun _ Q=>wpAny (bj X.prog X.w) X.A (J1 e none) (fun _ O=>wpAny (bj X.prog X.w) X.A (y4 e X.env (h₀::hs)) (SP X pins D) X.xe O) X.xe Q) X.xe R
 have hps:fO (cE X.prog X.w) (X.tryB (X.pn++pins) XE) Z:=by
  intro a0 h H1 s1 e s' J hcx;have J':Inv X pins h H1 s1:=J.untryB;obtain⟨W,cls,od,B,H',rfl,os,bare,un,hok,E,p,Y,hE⟩:=hcx;have hfr:X.A.frames=some (X.env::X.outer):=by rw[J'.ok.frames,F.stk]
  have fl':FlX B (X.env::X.outer) W cls (FX od) .none s'.heap:=by have q:=E;rw[show(X.tryB (X.pn++pins) XE).stack=X.stack from rfl,F.stk]at q;exact q
  have inv:∀j:bH,B.StaysIn j->s'.heap.UpToSlots j->Inv X pins h H' { s' with heap:=j } :=fun j k2 up=>
   J'.call' (ch:= []) os (zo un E.stay k2 up Y E.nofields) (vY hok E.stay k2 p) bare (fun b hb=>nomatch hb)
  show wpAny _ _ _ _ _ _;refine HF hfr F.fr fl' fun h4 f4 M=>?_;refine sfX f4 fun h5 U G=>?_;exact hh h H' { s' with heap:=h5 } W cls od B (by rw[J'.len,I.len]) hE (inv h5 U.stay (M.trans G)) U (fun j k2 up2=>inv j k2 ((M.trans G).trans up2)) p
 refine cu (hb (X.pn++pins) XE hps PassesOwn.looking [] s σ H D (I.tryB XE) htb) (fun E sx C=>?_) fun e sx C=>C;cases E with
 |next=>
  obtain⟨g,y,x,z⟩:=C;exact(bh (X:=X)) pins sx g y D x.untryB z
 |brk=>obtain⟨g,y,x,z⟩:=C;exact⟨g,y,x.untryB,z⟩
 |cont=>obtain⟨g,y,x,z⟩:=C;exact⟨g,y,x.untryB,z⟩
 |ret u=>obtain⟨v,g,y,x,rv,z⟩:=C;exact⟨v,g,y,x.untryB,rv,z⟩
variable {bs newId initId:String}{bmB:List ag}{C Dc:aa}{x x2:aQ}{np hpos np2 hpos2 pos:lK}{body:List ck}{b₀ b2:ck}{suite suite2:List ck}{tb:XK->TS}
def KZ(C:aa)(tb:XK->TS)(ts:aa->TS):TS:=fun D σ H=>∃g:XK,(∀cls od H',g cls od H'->cls= .ref C/\od=none)/\(∀(a:aa) (e:St) H',e.length=σ.length->g (.ref C) none H'->ts a D (va e) H')/\tb g D σ H
theorem Av{ts:aa->TS}(F:FnCx X)(FB:gr bs newId initId bmB)(J:PySem.W.excIn X.K C bmB newId=true)(Q:Gl X x)(M:X.mg x=some (.ref C))(e:∀hd,wX (bj X.prog X.w) (X.A.mark hd) X.A X.env X.xe)
  (R:∀(p:XK) (pn:List (aa×dX)) (xe:ag->ap->Prop),fO (cE X.prog X.w) (X.tryB pn xe) p->qu (bj X.prog X.w) X.A X.env xe->PSs (X.tryB pn xe) body (tb p))
  (G:∀(a:aa) (j:dX) (g:Array ag),X.Ok->j.data= .fields g->g[2]? =some .none->PSs (X.exR a j) (b₀::suite) (ts a)) (hd: (x ==("__debug__":aQ))=false:=by decide):
  PS X (.Try body [.ExceptHandler (some (.Name x np)) none (b₀::suite) hpos] [] [] pos) (KZ C tb ts):=by
 intro pins s σ H D I h;obtain⟨p,S,r,u⟩:=h;refine DH F I (R p) u fun q H' s5 E cls od B O z Z v inv y=>?_;obtain⟨rfl,rfl⟩:=S _ _ _ z;exact ss FB J Q M (e _) Z v inv y F (fun j g U Y=>G E j g I.ok U Y) (r E q H' O z) hd
def K0(C Dc:aa)(tb:XK->TS)(ts h:TS):TS:=fun D σ H=>∃g:XK,(∀cls od H',g cls od H'->cls= .ref C\/cls= .ref Dc)/\(∀(e:St) od H',e.length=σ.length->g (.ref C) od H'->ts D (va e) H')/\(∀(e:St) od H',e.length=σ.length->g (.ref Dc) od H'->h D (va e) H')/\tb g D σ H
theorem FZ{ts r:TS}(F:FnCx X)(y:gr bs newId initId bmB)(Y:PySem.W.excIn X.K C bmB newId=true)(v:PySem.W.excIn X.K Dc bmB newId=true)(M:∃o cd,X.K.lookup Dc=some o/\o.data= .cls cd/\cd.mro.contains (.ref C)=false)
  (hg:Gl X x) (Z:X.mg x=some (.ref C)) (Q:Gl X x2) (O:X.mg x2=some (.ref Dc)) (e:∀hd,wX (bj X.prog X.w) (X.A.mark hd) X.A X.env X.xe)
  (hb:∀(z:XK) (pn:List (aa×dX)) (xe:ag->ap->Prop),fO (cE X.prog X.w) (X.tryB pn xe) z->qu (bj X.prog X.w) X.A X.env xe->PSs (X.tryB pn xe) body (tb z))
  (hs:∀(a:aa) (g:dX),PSs (X.exR a g) (b₀::suite) ts) (J:∀(a:aa) (g:dX),PSs (X.exR a g) (b2::suite2) r) (hd: (x ==("__debug__":aQ))=false:=by decide) (R: (x2 ==("__debug__":aQ))=false:=by decide):
  PS X (.Try body [.ExceptHandler (some (.Name x np)) none (b₀::suite) hpos, .ExceptHandler (some (.Name x2 np2)) none (b2::suite2) hpos2] [] [] pos) (K0 C Dc tb ts r):=by
 intro pins s σ H D I h;obtain⟨z,hC,E,u,G⟩:=h;refine DH F I (hb z) G fun q H' s5 ea cls od B hl S U j inv p=>?_;rcases hC _ _ _ S with rfl|rfl
 ·exact ss y Y hg Z (e _) U j inv p F (fun g ws _ _=>hs ea g) (E q od H' hl S) hd
 ·exact BV y v y Y M hg Z U j p F (ss y v Q O (e _) U j inv p F (fun g ws _ _=>J ea g) (u q od H' hl S) R) hd
end
end L2
namespace L2
open PySem PySem.Spec PyProof.Rows
structure IK(s₁:ap)(L:List (aa×List ag×List Int)):Prop where
 obj:∀p∈L,s₁.heap.get? p.1=some { cls:= .type "list",data:= .seq p.2.1.toArray }
 nums:∀p∈L,ua p.2.1 p.2.2
 len:∀p∈L,p.2.2.length<=aO
theorem BW{P:aZ}{w:bB}{K:PySem.W.Frag}{mg mb:aQ->Option ag}{CX:CXT}{k:Nat}{fa:aa}{fd:gc}{ps:List aQ}{sp:Sp}{g:ap}{L:List (aa×List ag×List Int)}{us:List ag}{vs:List V}{Q:VK}
  (KX:K.In g.heap) (O:g.heap.Ns cf mg) (hb:g.heap.Ns HR mb) (hbb:∀x:aQ,x≠"__name__"->mb x=fq x) (R:g.heap.NoLimit) (hg:g.gens= #[])
  (B:IK g L) (hr:Room k JK)
  (F:∀base:bH,K.In base->base.Ns cf mg->lZ P w K mg base CX k fa fd ps sp) (J:CT g fd ⟨us, []⟩ (ps.zip us)) (hv:Vals vs us)
  (hsp:∀H:Hp,KR H->(∀p∈L,SqL K H p.1 (p.2.2.map V.int))->sp vs H Q fun _ _ _=>False)
  (hCX:∀H e E,CX [] H g (fun _ _ _=>False) e E->False):
  codeAny (bj P w) JK (.call (.ref fa) ⟨us, []⟩) (fun r E=>∃u v H',r= .ok (.ret u)/\RelV v u/\HOk P w H' E.heap/\Q v H'/\OldK g.heap E.heap/\E.os=g.os/\qr E.gens) g:=by
 let H:Hp:=fun b=>match K.lookup b with
  |some _=>none
  |none=>(L.find? fun p=>p.1 == b).map fun p=>HO.frz { cls:= .type "list",data:= .seq p.2.1.toArray } (.lst (p.2.2.map V.int))
 have Z:∀b u,H b=some u->K.lookup b=none/\∃p∈L,p.1=b/\u=HO.frz { cls:= .type "list",data:= .seq p.2.1.toArray } (.lst (p.2.2.map V.int)):=by
  intro b u e;show _/\_;have M: (match K.lookup b with
   |some _=>none
   |none=>(L.find? fun p=>p.1 == b).map fun p=>HO.frz { cls:= .type "list",data:= .seq p.2.1.toArray } (.lst (p.2.2.map V.int)))=some u:=e
  cases I:K.lookup b with
  |some o=>rw[I]at M;cases M
  |none=>
   rw[I]at M;cases D:L.find? (fun p=>p.1 == b)with
   |none=>rw[D]at M;cases M
   |some p=>
    rw[D]at M;have Y:HO.frz { cls:= .type "list",data:= .seq p.2.1.toArray } (.lst (p.2.2.map V.int))=u:=aB M;exact⟨rfl,p,jO D,by have:=lO D;simpa using this,Y.symm⟩
 have hO:KR H:=fun b=>by
  cases q:H b with
  |none=>exact .inl rfl
  |some u=>
   obtain⟨_,p,_,_,rfl⟩:=Z b u q;exact .inr ⟨_,_,rfl⟩
 have hok:HOk P w H g.heap:=fun b u e=>by
  obtain⟨_,p,y,rfl,rfl⟩:=Z b u e;exact⟨B.obj p y,by rw[ah];exact B.len p y,p.2.1,_,jZ (B.nums p y),B.obj p y⟩
 have hS:∀p∈L,SqL K H p.1 (p.2.2.map V.int):=fun p y=>by
  cases I:K.lookup p.1 with
  |some o=>
   have e:=KX p.1 o I;rw[B.obj p y]at e;cases e;exact .inr ⟨_,p.2.1.toArray,_,I,rfl,rfl,rfl,by rw[bX,(B.nums p y).length];exact B.len p y,by simpa using jZ (B.nums p y)⟩
  |none=>
   cases D:L.find? (fun q=>q.1 == p.1)with
   |none=>
    have:=CD.mp D p y;simp at this
   |some q=>
    have hq:=jO D;have e1:q.1=p.1:=by have:=lO D;simpa using this
    have o1:=B.obj q hq;rw[e1,B.obj p y]at o1;have o2:p.2.1.toArray=q.2.1.toArray:=by
     have:=aB o1;injection this with _ _ z _
     injection z
    have o3:p.2.1=q.2.1:=by simpa using o2
    have v1:=jZ (B.nums p y);have v2:=jZ (B.nums q hq);rw[<-o3]at v2;have Y:p.2.2.map V.int=q.2.2.map V.int:=Vals.inj v1 v2;refine .inl (.inr ⟨{ cls:= .type "list",data:= .seq q.2.1.toArray },?_⟩);show(match K.lookup p.1 with
     |some _=>none
     |none=>(L.find? fun(q:aa×List ag×List Int)=>q.1 == p.1).map fun(p:aa×List ag×List Int)=>HO.frz { cls:= .type "list",data:= .seq p.2.1.toArray } (.lst (p.2.2.map V.int)))=_
    rw[I,D,Y];rfl
 have j:∀ {b:aa} {o:dX},g.heap.get? b=some o->H b=none->(vN g.heap H).get? b=some o:=fun e n=>Dd e n;have noA:∀ {b:aa} {o:dX} {U:Array DictEntry} {X:Nat},g.heap.get? b=some o->o.data= .dict U X->H b=none:=fun {b o U X} e d=>by
  cases q:H b with
  |none=>rfl
  |some u=>
   obtain⟨_,p,y,rfl,rfl⟩:=Z b u q;rw[B.obj p y]at e;cases e;have d':Data.seq p.2.1.toArray _=Data.dict U X:=d;cases d'
 have C:∀ {b:aa} {m:aQ->Option ag},g.heap.Ns b m->(vN g.heap H).Ns b m:=fun {b m} ⟨o,U,X,e,d,r⟩=>⟨o,U,X,j e (noA e d),d,r⟩;have S:K.In (vN g.heap H):=fun b o e=>j (KX b o e) (by
  cases q:H b with
  |none=>rfl
  |some u=>
   obtain⟨I,_⟩:=Z b u q;rw[I]at e;cases e)
 have hM:Mod K mg (vN g.heap H):=⟨S,C O,⟨mb,C hb,hbb⟩,let⟨mc,h1,h2⟩:=R;⟨mc,C h1,h2⟩⟩;have e0:Env0 P w K mg (vN g.heap H) JK [] g H:=⟨rfl,hM,fun b o e=>Fu e,jn (BD _ _),trivial,fun b hb=>absurd (show b∈([]:List aa)from hb) (by simp),hok, .of_eq hg⟩;refine t9 ((F _ S (C O)).run JK [] g H ⟨us, []⟩ us vs _ _ hr e0 J hv (hsp H hO hS)) fun r E h=>?_;cases r with
 |error e=>exact(hCX H e E h).elim
 |ok fl=>
  cases fl with
  |next=>exact False.elim h
  |brk=>exact False.elim h
  |cont=>exact False.elim h
  |ret u=>
   obtain⟨v,H',os,bare,un,G,r',q⟩:=h;refine⟨u,v,H',rfl,r',G,q,OldK.of_keep fun b o e=>?_,os,bare⟩;cases q:H b with
   |none=>exact un.keep b o e q (by intro z;exact absurd (show b∈([]:List aa)from z) (by simp)) (by simp)
   |some u=>
    rcases hO b with z| ⟨ob,xs,z⟩
    ·rw[q]at z;cases z
    ·have z2:=un.frzs b ob _ z;obtain⟨e1,_⟩:=hok b _ z;obtain⟨Y,_⟩:=G b _ z2;rw[e]at e1;cases e1;exact Y
theorem nl{R:PySem.W.WRecords}{cl:aQ->Option aa}{h:bH} :∀ {ns:List Int} {us:List ag},Vals (ns.map V.int) us->PySem.W.ReadsAllW R cl h us (ns.map PySem.W.WData.int) []
 | [],us,r=>by cases r;exact .nil
 |n::ns,us,r=>by
  cases r with
  |cons a b=>
   obtain⟨t,rfl⟩:=a;exact .cons (as:= []) (bs:= []) (.int n t) (nl b)
theorem zp{P:aZ}{w:bB}{H:Hp}{h:bH}{p:aa}{ns:List Int}{R:PySem.W.WRecords}{cl:aQ->Option aa}(hok:HOk P w H h)(e:H p=some (.lst (ns.map V.int))):PySem.W.ReadsW R cl h (.ref p) (.list (ns.map .int)) [p]:=by
 obtain⟨_,g,n,rv,j⟩:=hok p _ e;exact .list j rfl rfl (by simpa using nl rv)
end L2
namespace L2
open PySem PySem.Spec PyProof.Rows PySem.StrLaws PySem.Builtin.Str
abbrev sv(l:List Nat):V:= .str ⟨l.toArray⟩
theorem cK(l:List Nat): (⟨l.toArray⟩:aQ).length=l.length:=by show l.toArray.size=_;simp
theorem fL(l:List Nat): (⟨l.toArray⟩:aQ).cps.toList=l:=by simp
theorem sv_inj{l m:List Nat}(h:sv l=sv m):l=m:=by injection h with h;injection h with h;simpa using h
theorem jG(n p:Nat):J2 n (p:Int)=p:=by
 unfold J2;rw[qaa (by lia)]
 lia
theorem zq(t:List Nat)(c i:Nat):At ⟨t.toArray⟩ ⟨#[c]⟩ t.length i↔t[i]? =some c:=by
 unfold At;rw[subAt_eq];show(i+1<=t.length/\(List.take 1 (List.drop i t) == [c])=true)↔_;constructor
 ·intro h;have e:=eq_of_beq h.2;have g:i < t.length:=by lia
  have q:=qaf (fun l=>l[0]?) e;simp only[List.getElem?_take,dA,cO,lP]at q;rw[qab (by lia)]at q;exact q
 ·intro h;obtain⟨g,e⟩:=aD.mp h;refine⟨by lia,?_⟩;rw[dL g];simp[e]
theorem vb{c:Nat} :∀ {l:List Nat} {n:Nat},(∀j,j < n->l[j]? ≠some c)->l[n]? =some c->(l.takeWhile (·!= c)).length=n
 | [],n,_,h=>by simp at h
 |x::r,0,_,h=>by
  have e:x=c:=by simpa using h
  subst e;simp
 |x::r,n+1,hn,h=>by
  have p:x≠c:=fun e=>hn 0 (by lia) (by rw[e];rfl);have g:=vb (c:=c) (l:=r) (n:=n) (fun j q e=>hn (j+1) (by lia) e) h;rw[dB (by simp[p]),ae,g]
theorem BX(t:List Nat)(c p:Nat)(I:p<=t.length):Txt.find3 ⟨t.toArray⟩ ⟨#[c]⟩ (p:Int)=if c∈t.drop p then((p+ ((t.drop p).takeWhile (·!= c)).length:Nat):Int)else -1:=by
 unfold Txt.find3;rw[cK,jG,occ_eq];rcases occ_first (⟨t.toArray⟩:aQ) (⟨#[c]⟩:aQ) t.length 1 (by lia) (J3 p (t.length+1 - p)) p (fun i E=>(CV.mp E).1)with⟨e,y⟩ | ⟨pr,a,post,e,h0,hA,y⟩
 ·rw[e];have F:c∉t.drop p:=fun B=>by
   obtain⟨j,g,G⟩:=z8.mp B;rw[aF]at g;refine y (p+j) (CV.mpr ⟨by lia,by lia⟩) ((zq t c (p+j)).mpr ?_);rw[<-cO,bF (by rw[aF];exact g),G]
  rw[qaa F]
 ·have v:pr.length < t.length+1 - p:=by
   have q:=qaf cI e;rw[List.length_range',au,ae]at q
   lia
  have C:a=p+pr.length:=by
   have q:=qaf (fun l=>l[pr.length]?) e;simp only[dz (aC _),Nat.sub_self,List.getElem?_cons_zero]at q;rw[z9 v]at q;have:=aB q;lia
  have h:t[a]? =some c:=(zq t c a).mp hA;have u:∀j,j < pr.length->t[p+j]? ≠some c:=fun j g z=>by
   refine y (p+j) ?_ ((zq t c (p+j)).mpr z);have q:=qaf (fun l=>l[j]?) e;simp only[eH g]at q;rw[z9 (by lia:j < t.length+1 - p)]at q;have D:=aB ((bF g).symm.trans q.symm);have:pr[j]=p+j:=by rw[D];lia
   rw[<-this];exact rn g
  have B:c∈t.drop p:=by
   refine bd (i:=pr.length) ?_;rw[cO,<-C,h]
  rw[qab B,vb (n:=pr.length) (fun j g=>by rw[cO];exact u j g) (by rw[cO,<-C];exact h)];rw[<-C];generalize(forIn (J3 p (t.length+1 - p)) (#[],p) (occBody { cps:=t.toArray } { cps:= #[c] } t.length 1)).run.fst=arr at h0 ⊢;obtain⟨l⟩:=arr;cases l with
  |nil=>simp at h0
  |cons x r=>simp at h0;simp[h0]
theorem Aw(t y:List Nat)(p:Nat)(g:y≠ []):Txt.startswith3 ⟨t.toArray⟩ ⟨y.toArray⟩ (p:Int)=TL.pre y (t.drop p):=by
 unfold Txt.startswith3 TL.pre;rw[cK,cK,jG,subAt_eq,fL,fL,cK];have j:0 < y.length:=ot.mpr g;by_cases e: (t.drop p).take y.length=y
 ·have h:=qaf cI e;rw[cg,aF]at h;rw[e,qag,qad (by lia:p+y.length<=t.length)];rfl
 ·rw[qae.mpr e,Hk]
theorem IL(t y:List Nat)(e:y≠ []):Txt.startswith ⟨t.toArray⟩ ⟨y.toArray⟩=TL.pre y t:=by
 have h:=Aw t y 0 e;unfold Txt.startswith3 at h;rw[show((0:Nat):Int)=0 from rfl,show J2 (⟨t.toArray⟩:aQ).length 0=0 from jG _ 0,eU]at h;exact h
theorem IM(t y:List Nat)(g:y≠ []):Txt.endswith ⟨t.toArray⟩ ⟨y.toArray⟩=decide (t.drop (t.length - y.length)=y):=by
 unfold Txt.endswith;rw[subAt_eq,fL,fL,cK,cK];have p:0 < y.length:=ot.mpr g;have j: (t.drop (t.length - y.length)).take y.length=t.drop (t.length - y.length):=ej (by rw[aF];lia);rw[j];by_cases e:t.drop (t.length - y.length)=y
 ·have h:=qaf cI e;rw[aF]at h;rw[e,qag,qad (by lia:0+y.length<=t.length),qad rfl];rfl
 ·rw[qae.mpr e,Hk,decide_eq_false e]
section
variable {X:Cx}
theorem xK:yU X "str.find" (fun x xs H Q=>∃(t:List Nat) (c p:Nat),x=sv t/\xs= [sv [c], .int (p:Int)]/\p<=t.length/\Q (.int (if c∈t.drop p then((p+ ((t.drop p).takeWhile (·!= c)).length:Nat):Int)else -1)) H):=by
 intro pins s σ H x xs v us Q I e g h;obtain⟨t,c,p,rfl,rfl,r,h⟩:=h;obtain⟨t1,rfl⟩:=e;obtain⟨y,u,rfl,q,j⟩:=Vals.two g;obtain⟨B,rfl⟩:=q;obtain⟨z,rfl⟩:=j;refine SC.find3 ?_;rw[BX t c p r];exact⟨.int _,H,I.tok _,⟨_,rfl⟩,h⟩
theorem DI:yU X "str.startswith" (fun x xs H Q=>∃(t y:List Nat) (p:Nat),x=sv t/\xs= [sv y, .int (p:Int)]/\y≠ []/\Q (.bl (TL.pre y (t.drop p))) H):=by
 intro pins s σ H x xs v us Q I e g h;obtain⟨t,y,p,rfl,rfl,r,h⟩:=h;obtain⟨t1,rfl⟩:=e;obtain⟨z,u,rfl,q,j⟩:=Vals.two g;obtain⟨C,rfl⟩:=q;obtain⟨B,rfl⟩:=j;refine SC.startswith3 ?_;rw[Aw t y p r];exact⟨.bl _,H,I,rfl,h⟩
theorem HG:yU X "str.startswith" (fun x xs H Q=>∃(t y:List Nat),x=sv t/\xs= [sv y]/\y≠ []/\Q (.bl (TL.pre y t)) H):=by
 intro pins s σ H x xs v us Q I e g h;obtain⟨t,y,rfl,rfl,j,h⟩:=h;exact ug pins s σ H _ _ v us Q I e g ⟨_,_,rfl,rfl,by rw[IL t y j];exact h⟩
theorem DJ:yU X "str.endswith" (fun x xs H Q=>∃(t y:List Nat),x=sv t/\xs= [sv y]/\y≠ []/\Q (.bl (decide (t.drop (t.length - y.length)=y))) H):=by
 intro pins s σ H x xs v us Q I e g h;obtain⟨t,y,rfl,rfl,j,h⟩:=h;exact xG pins s σ H _ _ v us Q I e g ⟨_,_,rfl,rfl,by rw[IM t y j];exact h⟩
theorem zr:yU X "str.islower" (fun x xs H Q=>∃a,x= .str a/\xs= []/\True/\Q (.bl (Txt.islower a)) H):=
 mt0 (C:=fun _=>True) (g:=fun a=> .bl (Txt.islower a)) fun _ _ s _ _ h=>SC.islower (h _ s.toks rfl)
theorem zt:yU X "str.isupper" (fun x xs H Q=>∃a,x= .str a/\xs= []/\True/\Q (.bl (Txt.isupper a)) H):=
 mt0 (C:=fun _=>True) (g:=fun a=> .bl (Txt.isupper a)) fun _ _ s _ _ h=>SC.isupper (h _ s.toks rfl)
end
def v0(c:Nat):Bool:=decide (97<=c/\c<=122)
def upC(c:Nat):Bool:=decide (65<=c/\c<=90)
theorem F0:∀c,c < 128->Txt.islower ⟨#[c]⟩=v0 c:=by decide+kernel
theorem IN:∀c,c < 128->Txt.isupper ⟨#[c]⟩=upC c:=by decide+kernel
theorem vc:∀c,c < 128->Txt.isalpha ⟨#[c]⟩= (v0 c || upC c):=by decide+kernel
end L2
namespace L2
open PySem PySem.Spec PyProof.Rows
theorem fP{N P:List aQ}{h:gv}(a:h.kind= .function:=by rfl)(b:h.isCoroutine=false:=by rfl)(c:h.isGenerator=false:=by rfl)(d:N.Nodup:=by decide+kernel)(e:N.take P.length=P:=by rfl)
  (f:∀x∈P,h.names.lookup x=some .local\/h.names.lookup x=some .cell:=by decide+kernel) (g:∀y∈h.names,y.2≠ .free:=by decide+kernel):bf N P h:=⟨a,b,c,d,e,f,g⟩
structure Df(K:PySem.W.Frag)(mg:aQ->Option ag)(x:aQ)(st:ck)(ps:List aQ):Prop where
 ex:∃f fd,Fun K x x st f fd/\mg x=some (.ref f)/\Binds K fd ps []
structure Ok(P:aZ)(w:bB)(K:PySem.W.Frag)(mg:aQ->Option ag)(base:bH)(CX:CXT)(k:Nat)(x:aQ)(ps:List aQ)(sp:Sp):Prop where
 ex:∃f fd,lZ P w K mg base CX k f fd ps sp/\mg x=some (.ref f)/\PySem.W.keepIn K (.ref f)=true/\Binds K fd ps []
structure DfA(K:PySem.W.Frag)(mg:aQ->Option ag)(y x:aQ)(st:ck)(ps:List aQ):Prop where
 ex:∃f fd,Fun K x x st f fd/\mg y=some (.ref f)/\Binds K fd ps []
section
variable {P:aZ}{w:bB}{K:PySem.W.Frag}{mg:aQ->Option ag}{base:bH}
theorem Df.ok{x:aQ}{st:ck}{N j:List aQ}{k:Nat}{sp:Sp}(D:Df K mg x st j)(S:bf N j (aA st))
  (e:∀(f:aa) (g:ag) (A:cC) (outer:List m4) (s:ap) (H:Hp) (vs:List V) (Q:VK) (E:XK),Room k (A.deeper (im x (aA st) s.heap.objs.size f g))->sp vs H Q E->
   ∃t,PSs (ir fh P w K mg base N x (aA st) f g A outer s H E).nox (ew st) t/\t { nx:=fun _ H'=>Q .non H',rt:=Q } (i0 N vs) H) (len:∀vs H Q E,sp vs H Q E->vs.length=j.length:=by intro vs H Q E h;first| (cases h;rename_i h;rw[h.1];rfl) | (rw[h.1];rfl)):Ok P w K mg base fh (k+1) x j sp:=by
 obtain⟨f,fd,F,p,q⟩:=D.ex;exact⟨f,fd,F.ok S len (e f),p,F.kp,q⟩
theorem Df.okX{x:aQ}{st:ck}{N j:List aQ}{k:Nat}{sp:Sp}(D:Df K mg x st j)(S:bf N j (aA st))
  (e:∀(f:aa) (g:ag) (A:cC) (outer:List m4) (s:ap) (H:Hp) (vs:List V) (Q:VK) (E:XK),Room k (A.deeper (im x (aA st) s.heap.objs.size f g))->sp vs H Q E->
   ∃t,PSs (ir (cE P w) P w K mg base N x (aA st) f g A outer s H E) (ew st) t/\t { nx:=fun _ H'=>Q .non H',rt:=Q } (i0 N vs) H) (len:∀vs H Q E,sp vs H Q E->vs.length=j.length:=by intro vs H Q E h;first| (cases h;rename_i h;rw[h.1];rfl) | (rw[h.1];rfl)):Ok P w K mg base (cE P w) (k+1) x j sp:=by
 obtain⟨f,fd,F,p,q⟩:=D.ex;exact⟨f,fd,F.okX S (e f) len,p,F.kp,q⟩
theorem DfA.okX{y x:aQ}{st:ck}{N j:List aQ}{k:Nat}{sp:Sp}(D:DfA K mg y x st j)(S:bf N j (aA st))
  (e:∀(f:aa) (g:ag) (A:cC) (outer:List m4) (s:ap) (H:Hp) (vs:List V) (Q:VK) (E:XK),Room k (A.deeper (im x (aA st) s.heap.objs.size f g))->sp vs H Q E->
   ∃t,PSs (ir (cE P w) P w K mg base N x (aA st) f g A outer s H E) (ew st) t/\t { nx:=fun _ H'=>Q .non H',rt:=Q } (i0 N vs) H) (len:∀vs H Q E,sp vs H Q E->vs.length=j.length:=by intro vs H Q E h;first| (cases h;rename_i h;rw[h.1];rfl) | (rw[h.1];rfl)):Ok P w K mg base (cE P w) (k+1) y j sp:=by
 obtain⟨f,fd,F,p,q⟩:=D.ex;exact⟨f,fd,F.okX S (e f) len,p,F.kp,q⟩
end
theorem cy{X:Cx}{CX:CXT}{k:Nat}{x:aQ}{r:List aQ}{sp:Sp}{E:XK}{e:c7}{h:List c7}{t:TA}{p g:lK}(G:Ok X.prog X.w X.K X.mg X.base CX k x r sp)(v:Room k X.A)(u:fO CX X E)(I:PA X (e::h) t)(B:Gl X x:=by rfl)
  (q: (x ==("__debug__":aQ))=false:=by decide) (C:bu (e::h) X.env= (false,dr e X.env)::bu h X.env:=by rfl) (j: (eB g (bu h X.env)).any (·.1)=false:=by rfl):
  PE X (.Call (.Name x p) (e::h) [] g) (sf sp [] E t):=by
 obtain⟨f,fd,F,y,z,D⟩:=G.ex;exact FG F v B y z D .nil u I q C j
def ou(mg:aQ->Option ag)(x:aQ)(v:V):Prop:=∃u,mg x=some u/\RelV v u
theorem ek{X:Cx}{x:aQ}{v:V}{e:lK}(h:ou X.mg x v)(j:Gl X x:=by rfl)(hd: (x ==("__debug__":aQ))=false:=by decide):PE X (.Name x e) (tC v):=by
 obtain⟨u,g,r⟩:=h;exact vO j g r hd
end L2
namespace Th
open PySem L2
def top(i:Nat):ck:=PySem.Challenge.pw_thinbits_s03_tell.main.body.getD i (.Pass ⟨0,0,0,0⟩)
abbrev pJ:ck:=top 19
abbrev rx:ck:=top 20
abbrev nM:ck:=top 21
abbrev md:ck:=top 22
abbrev wa:ck:=top 23
abbrev nN:ck:=top 24
abbrev kE:ck:=top 25
abbrev ry:ck:=top 26
abbrev nO:ck:=top 27
abbrev kF:ck:=top 28
abbrev su:ck:=top 29
abbrev jH:ck:=top 30
abbrev pK:ck:=top 31
abbrev sw:ck:=top 32
abbrev pL:ck:=top 33
abbrev me:ck:=hH (top 35) 0
abbrev kG:ck:=hH (top 35) 1
abbrev kH:ck:=hH (top 35) 2
abbrev gP:ck:=hH (top 35) 3
abbrev gQ:ck:=hH (top 35) 4
abbrev gR:ck:=hH (top 35) 5
abbrev gS:ck:=hH (top 35) 6
abbrev kI:ck:=hH (top 35) 7
abbrev gg:ck:=hH (top 35) 8
abbrev pM:ck:=hH (top 44) 0
abbrev gT:ck:=top 45
abbrev pN:ck:=top 46
abbrev kJ:ck:=top 47
abbrev pO:ck:=top 49
abbrev mf:ck:=top 50
abbrev sy:ck:=top 51
abbrev pP:ck:=top 52
abbrev iw:ck:=top 53
abbrev kK:ck:=top 54
abbrev gU:ck:=top 55
abbrev jb:ck:=top 56
abbrev nP:ck:=top 57
abbrev nQ:ck:=top 58
abbrev nR:ck:=top 59
abbrev pQ:ck:=top 60
abbrev nS:ck:=top 61
abbrev mh:ck:=top 62
abbrev mi:ck:=top 64
abbrev fW:ck:=top 65
abbrev fc:ck:=top 66
abbrev jx:ck:=top 67
abbrev mK:ck:=top 68
abbrev nT:ck:=top 69
abbrev kL:ck:=top 70
abbrev wb:ck:=top 74
abbrev kM:ck:=top 75
abbrev kN:ck:=top 76
abbrev pR:ck:=top 77
abbrev jI:ck:=top 78
abbrev pS:ck:=top 80
abbrev pT:ck:=top 81
abbrev mj:ck:=top 82
abbrev pU:ck:=top 83
abbrev jJ:ck:=top 84
abbrev hL:ck:=top 85
abbrev f9:ck:=top 86
abbrev jy:ck:=top 87
abbrev nU:ck:=top 88
abbrev jc:ck:=top 89
abbrev ml:ck:=top 96
abbrev sA:ck:=top 97
abbrev vd:ck:=top 98
def LET:List Nat:= [63,63,63,63,63,63,63,63,63,32,10,63,63,32,63,63,63,63,63,63,63,63,63,63,63,63,63,63,63,63,63,63,32,63,63,63,63,63,63,39,40,41,63,63,44,45,46,63,48,49,50,51,52,53,54,55,56,57,58,63,63,61,63,63,63,65,66,67,68,69,70,71,72,73,74,75,76,77,78,79,80,81,82,83,84,85,86,87,88,89,90,63,63,63,63,63,63,97,98,99,100,101,102,103,104,105,106,107,108,109,110,111,112,113,114,115,116,117,118,119,120,121,122,123,63,125,63,63]
def lc(n:Nat):Nat:=LET.getD n 63
def qY:List Nat:= [48,49]
def DIG:List Nat:= [48,49,50,51,52,53,54,55,56,57]
def mX:List Nat:= [48,49,50,51,52,53,54,55,56,57,65,66,67,68,69,70]
def WLET:List Nat:= [45,48,49,50,51,52,53,54,55,56,57,65,66,67,68,69,70,71,72,73,74,75,76,77,78,79,80,81,82,83,84,85,86,87,88,89,90,97,98,99,100,101,102,103,104,105,106,107,108,109,110,111,112,113,114,115,116,117,118,119,120,121,122]
def SGN:List (List Nat):= [[58,58,61], [46,46,46], [46,46], [123], [125], [40], [41], [44], [58]]
abbrev VE:List ag:= [.type "ValueError", .type "Exception", .type "BaseException", .type "object"]
structure Txt(K:PySem.W.Frag)(mg:aQ->Option ag)(WT:aa):Prop where
 len:mg "len"=none
 exc:PySem.W.excIn K WT VE "ValueError.__new__"=true
 wt:mg "WrongText"=some (.ref WT)
 letters:ou mg "LETTERS" (sv LET)
 blanks:ou mg "BLANKS" (sv [32,10])
 bitd:ou mg "BIT_DIGITS" (sv qY)
 dig:ou mg "DIGITS" (sv DIG)
 octd:ou mg "OCTET_DIGITS" (sv mX)
 wlet:ou mg "WORD_LETTERS" (sv WLET)
 word:ou mg "WORD" (.str "word")
 number:ou mg "NUMBER" (.str "number")
 bits:ou mg "BITS" (.str "bits")
 octets:ou mg "OCTETS" (.str "octets")
 sign:ou mg "SIGN" (.str "sign")
 lword:ou mg "LONGEST_WORD" (.int 64)
 mdig:ou mg "MOST_DIGITS" (.int 20)
 signs:∃a,mg "SIGNS"=some (.ref a)/\∀H,SqT K H a (SGN.map sv)
 int_:mg "int"=none
 all_:mg "all"=none
theorem gl{t:List Nat}(h:t.length<=65536): (⟨t.toArray⟩:aQ).length<=aO:=by rw[cK];exact cn h (by decide)
theorem sB{t:List Nat}{p c:Nat}(h:t[p]? =some c):BL (⟨t.toArray⟩:aQ).cps.toList (p:Int)=some c:=by rw[fL];exact f8 h
def DK(c:Nat):Bool:=decide (c∈([32,10]:List Nat))
def lB(l:List Nat):Nat:=if 10∈l then(l.takeWhile (·!= 10)).length+1 else l.length
theorem Ax(l:List Nat):lB l<=l.length:=by
 unfold lB;split
 ·rename_i h;have j:l.takeWhile (·!= 10)≠l:=fun e=>by
   have g:=bw.mp (ez (p:=(·!= 10)) (l:=l)) 10 (by rw[e];exact h);simp at g
  have r:=(gI (p:=(·!= 10)) (l:=l)).length_le;have q: (l.takeWhile (·!= 10)).length≠l.length:=fun e=>j ((gI _).eq_of_length e)
  lia
 ·lia
theorem oG{l:List Nat}(h:l≠ []):0 < lB l:=by
 unfold lB;split
 ·lia
 ·exact ot.mpr h
def d8(l:List Nat):Nat:=match l with
 | []=>0
 |c::r=>if DK c=true then 1+d8 r
  else if TL.pre [45,45] (c::r)=true then lB (c::r)+d8 ((c::r).drop (lB (c::r)))else 0
termination_by l.length
decreasing_by
 ·simp
 ·have:=oG (l:=c::r) (by simp);rw[aF];simp at*;lia
theorem xL(l:List Nat):d8 l<=l.length:=by
 induction e:l.length using fj generalizing l with
 |ind n ih=>
  match l with
  | []=>unfold d8;lia
  |c::r=>
   unfold d8;split
   ·have:=ih r.length (by rw[<-e];simp) r rfl;rw[<-e,ae];lia
   ·split
    ·have h:=Ax (c::r);have g:=oG (l:=c::r) (by simp);have:=ih ((c::r).drop (lB (c::r))).length (by rw[aF,<-e];simp at*;lia) _ rfl;rw[aF]at this
     lia
    ·lia
section
variable {P:aZ}{w:bB}{K:PySem.W.Frag}{mg:aQ->Option ag}{base:bH}{WT:aa}
def spLetterOf:Sp:=fun vs H Q _=>∃n:Nat,vs= [.int (n:Int)]/\Q (sv [lc n]) H
theorem zu:bf ["code"] ["code"] (aA pJ):=fP
theorem wc(D:Df K mg "letter_of" pJ ["code"])(T:Txt K mg WT):Ok P w K mg base fh 1 "letter_of" ["code"] spLetterOf:=by
 refine D.ok zu (fun f p A outer s H vs Q E q h=>?_)
 ·obtain⟨n,rfl,k⟩:=h;refine⟨_,aq (bb (jX (bo lu (pv 0) (cJ c8 (by rfl) T.len PySem.boot_len (ac (ek T.letters) ao)) (bE _)) (fb nK (ek T.letters) (pv 0) (fun _ _=>rfl)) aX)),?_⟩;refine⟨_,rfl,_,rfl,by decide,?_⟩;refine⟨_,_,rfl,rfl,_,rfl,?_⟩;refine du (fun j=>?_) (fun j=>?_)
  ·have g:n < LET.length:=by have:=qac j;rw[cK]at this;lia
   refine⟨_,rfl,_,_,LET[n],rfl,rfl,by decide,sB (bF g),?_⟩;have e:lc n=LET[n]:=by unfold lc;rw[fJ,bF g];rfl
   rw[e]at k;exact k
  ·have g:¬n < LET.length:=fun z=>j (by rw[cK];exact qad (by lia));have e:lc n=63:=by unfold lc;rw[fJ,y0 (by lia)];rfl
   rw[e]at k;exact k
def spRemarkEnd:Sp:=fun vs H Q _=>CL fun(t:List Nat) (p:Nat)=>vs= [sv t, .int (p:Int)]/\t.length<=65536/\p<=t.length/\Q (.int ((p+lB (t.drop p):Nat):Int)) H
theorem scRemarkEnd:bf ["text","start","end"] ["text","start"] (aA nM):=fP
theorem ui(D:Df K mg "remark_end" nM ["text","start"])(T:Txt K mg WT):Ok P w K mg base fh 1 "remark_end" ["text","start"] spRemarkEnd:=by
 refine D.ok scRemarkEnd (fun f u A outer s H vs Q E v h=>?_)
 ·obtain⟨t,p,rfl,q,r,k⟩:=h;refine⟨_,aj (bR (i:=2) scRemarkEnd.nd rfl (Or.inl rfl) (lv PySem.F.plainAttrs_str PySem.F.slot_str_find PySem.F.type_str_find xK (pv 0) (ac aX (ac (pv 1) ao))))
   (aq (bb (jX (bo lu (pv 2) cw (bE _)) (cJ c8 (by rfl) T.len PySem.boot_len (ac (pv 0) ao)) (fU lX (pv 2) cw)))),?_⟩
  refine⟨_,rfl,rfl,_,rfl,t,10,p,rfl,rfl,r,?_⟩;refine⟨_,rfl,_,_,rfl,rfl,_,rfl,?_⟩;refine du (fun j=>?_) (fun j=>?_)
  ·have j:=qac j;by_cases g:10∈t.drop p
   ·rw[qab g]at j;lia
   ·refine⟨_,rfl,_,rfl,gl q,?_⟩;rw[cK];have e:p+lB (t.drop p)=t.length:=by unfold lB;rw[qaa g,aF];lia
    rw[e]at k;exact k
  ·by_cases g:10∈t.drop p
   ·refine⟨_,rfl,_,_,rfl,rfl,?_⟩;rw[qab g];have e:p+lB (t.drop p)=p+ ((t.drop p).takeWhile (·!= 10)).length+1:=by unfold lB;rw[qab g];lia
    rw[e]at k;exact k
   ·rw[qaa g]at j;exact absurd (by decide) j
end
section
variable {P:aZ}{w:bB}{K:PySem.W.Frag}{mg:aQ->Option ag}{base:bH}{WT:aa}
def spSkip:Sp:=fun vs H Q _=>CL fun(t:List Nat) (p:Nat)=>vs= [sv t, .int (p:Int)]/\t.length<=65536/\p<=t.length/\Q (.int ((p+d8 (t.drop p):Nat):Int)) H
theorem scSkip:bf ["text","start","place"] ["text","start"] (aA md):=fP
theorem fv(c:Nat)(r:List Nat):d8 (c::r)=if DK c=true then 1+d8 r
  else if TL.pre [45,45] (c::r)=true then lB (c::r)+d8 ((c::r).drop (lB (c::r)))else 0:=by rw[d8]
theorem mL:d8 []=0:=by rw[d8]
theorem mH{t:List Nat}{p:Nat}(h:p < t.length):t.drop p=t[p]::t.drop (p+1):=dL h
theorem F1(D:Df K mg "skip_blanks" md ["text","start"])(T:Txt K mg WT)(R:Ok P w K mg base fh 1 "remark_end" ["text","start"] spRemarkEnd):Ok P w K mg base fh 2 "skip_blanks" ["text","start"] spSkip:=by
 refine D.ok scSkip (fun f M A outer s H vs Q E C h=>?_)
 ·obtain⟨t,p,rfl,u,G,k⟩:=h;refine⟨_,aj (bR (i:=2) scSkip.nd rfl (Or.inl rfl) (pv 1))
   (aj (ic Aa (bo lu (pv 2) (cJ c8 (by rfl) T.len PySem.boot_len (ac (pv 0) ao)) (bE _))
    (aq (bN (bo kC (fb nK (pv 0) (pv 2) (fun _ _=>rfl)) (ek T.blanks) (by with_unfolding_all rfl))
     (aq (Dg (i:=2) scSkip.nd rfl (Or.inl rfl) cw Dh))
     (aq (bN (cB (lv PySem.F.plainAttrs_str PySem.F.slot_str_startswith PySem.F.type_str_startswith DI (pv 0) (ac aX (ac (pv 2) ao))))
      (aq (bR (i:=2) scSkip.nd rfl (Or.inl rfl) (cy R C cD (ac (pv 0) (ac (pv 2) ao)))))
      (aq (bb (pv 2))))))))
   (aq (bb (pv 2)))),?_⟩
  refine⟨_,rfl,fun m r H'=>∃e:Nat,r= [some (sv t),some (.int (p:Int)),some (.int (e:Int))]/\H'=H/\e<=t.length/\e+d8 (t.drop e)=p+d8 (t.drop p)/\m=t.length - e,⟨_,p,rfl,rfl,G,rfl,rfl⟩,?_⟩;rintro m r H' ⟨e,rfl,rfl,I,q,rfl⟩;refine⟨_,rfl,_,rfl,_,rfl,gl u,_,_,rfl,rfl,_,rfl,?_⟩;rw[cK];refine du (fun x=>?_) (fun x=>?_)
  ·have g:e < t.length:=by have:=qac x;lia
   have hd:=mH g;refine⟨_,fun B O z=>z,?_⟩;refine⟨_,rfl,_,rfl,_,_,t[e],rfl,rfl,gl u,sB (bF g),_,_,rfl,rfl,_,rfl,?_⟩;rw[fL];refine du (fun y=>?_) (fun y=>?_)
   ·have j:DK t[e]=true:=y;refine⟨_,rfl,_,_,rfl,rfl,_,?_,e+1,rfl,rfl,g,?_,rfl⟩
    ·lia
    ·rw[<-q,hd,fv,qab j];lia
   ·have j:¬DK t[e]=true:=y;refine⟨_,rfl,rfl,_,rfl,t, [45,45],e,rfl,rfl,by simp,_,rfl,?_⟩;refine du (fun v=>?_) (fun v=>?_)
    ·refine⟨_,rfl,_,rfl,t,e,rfl,u,I,?_⟩;have J:=Ax (t.drop e);have S:=oG (l:=t.drop e) (by rw[hd];exact List.cons_ne_nil _ _);rw[aF]at J;refine⟨_,?_,e+lB (t.drop e),rfl,rfl,by lia,?_,rfl⟩
     ·lia
     ·rw[<-q];conv=>rhs;rw[hd,fv,qaa j,qab (by rw[<-hd];exact v)]
      rw[<-hd,dn];lia
    ·have:d8 (t.drop e)=0:=by rw[hd,fv,qaa j,qaa (by rw[<-hd];exact v)]
     rw[this,lP]at q;rw[<-q]at k;exact⟨_,rfl,k⟩
  ·have g:¬e < t.length:=fun z=>x (qad (by lia));have:d8 (t.drop e)=0:=by rw[cP (by lia),mL]
   rw[this,lP]at q;rw[<-q]at k;exact⟨_,rfl,k⟩
def spRunEnd:Sp:=fun vs H Q _=>ES fun(t e:List Nat) (p:Nat)=>vs= [sv t, .int (p:Int),sv e]/\t.length<=65536/\p<=t.length/\Q (.int ((p+ ((t.drop p).takeWhile fun c=>decide (c∈e)).length:Nat):Int)) H
theorem scRunEnd:bf ["text","start","letters","end"] ["text","start","letters"] (aA wa):=fP
theorem zw(D:Df K mg "run_end" wa ["text","start","letters"])(T:Txt K mg WT):Ok P w K mg base fh 1 "run_end" ["text","start","letters"] spRunEnd:=by
 refine D.ok scRunEnd (fun f C A outer s H vs Q E G h=>?_)
 ·obtain⟨t,j,p,rfl,y,B,k⟩:=h;refine⟨_,aj (bR (i:=3) scRunEnd.nd rfl (Or.inl rfl) (pv 1))
   (aj (ic Aa (PW.pt (kz (bo lu (pv 3) (cJ c8 (by rfl) T.len PySem.boot_len (ac (pv 0) ao)) (bE _))
     (ju (bo kC (fb nK (pv 0) (pv 3) (fun _ _=>rfl)) (pv 2) (by with_unfolding_all rfl)))))
    (aq (Dg (i:=3) scRunEnd.nd rfl (Or.inl rfl) cw Dh)))
   (aq (bb (pv 3)))),?_⟩
  refine⟨_,rfl,fun m q H'=>∃e:Nat,q= [some (sv t),some (.int (p:Int)),some (sv j),some (.int (e:Int))]/\H'=H/\e<=t.length/\e+ ((t.drop e).takeWhile fun c=>decide (c∈j)).length=p+ ((t.drop p).takeWhile fun c=>decide (c∈j)).length/\m=t.length - e,⟨_,p,rfl,rfl,B,rfl,rfl⟩,?_⟩;rintro m q H' ⟨e,rfl,rfl,I,r,rfl⟩;refine⟨_,rfl,_,rfl,_,rfl,gl y,_,_,rfl,rfl,_,rfl,?_⟩;rw[cK];refine du (fun u=>?_) (fun u=>?_)
  ·have g:e < t.length:=by have:=qac u;lia
   have hd:=mH g;refine⟨_,rfl,_,rfl,_,_,t[e],rfl,rfl,gl y,sB (bF g),_,rfl,_,_,rfl,rfl,_,rfl,?_⟩;rw[fL];refine du (fun v=>?_) (fun v=>?_)
   ·refine⟨_,fun x F z=>z,_,rfl,_,_,rfl,rfl,_,?_,e+1,rfl,rfl,g,?_,rfl⟩
    ·lia
    ·rw[<-r,hd,dB (p:=fun c=>decide (c∈j)) v,ae];lia
   ·have: ((t.drop e).takeWhile fun c=>decide (c∈j)).length=0:=by rw[hd,uE (p:=fun c=>decide (c∈j)) v];rfl
    rw[this,lP]at r;rw[<-r]at k;exact⟨_,rfl,k⟩
  ·have g:¬e < t.length:=fun z=>u (qad (by lia));have: ((t.drop e).takeWhile fun c=>decide (c∈j)).length=0:=by rw[cP (by lia)];rfl
   rw[this,lP]at r;rw[<-r]at k;exact eC ⟨_,rfl,k⟩
end
end Th
namespace L2
open PySem
theorem BY:fq "int"=some (.type "int"):=by decide+kernel
theorem BZ:fq "all"=some (.builtin "all"):=by decide+kernel
theorem IP{c:Prop}[Decidable c]{e tb:TE}{σ:St}{H:Hp}{Q:VK}(v:V)(p:c->∀Q:VK,Q v H->e σ H Q)(j:¬c->∀Q:VK,Q v H->tb σ H Q)(g:Q v H):if c then e σ H Q else tb σ H Q:=by
 by_cases h:c
 ·rw[qab h];exact p h Q g
 ·rw[qaa h];exact j h Q g
end L2
namespace Th
open PySem L2
inductive Tk where
 |word (l:List Nat) |num (z:Int) |bits (l:List Nat) |octs (l:List Nat) |sign (l:List Nat)
 deriving DecidableEq
def Tk.vs:Tk->List V
 | .word l=> [.str "word",sv l]
 | .num z=> [.str "number", .int z]
 | .bits l=> [.str "bits",sv l]
 | .octs l=> [.str "octets",sv l]
 | .sign l=> [.str "sign",sv l]
def jd(l:List Nat):Option Tk:=if 64 < l.length\/l.drop (l.length - 1)= [45]then none else some (.word l)
def fQ(l:List Nat):List Nat:=if TL.pre [45] l=true then l.drop 1 else l
def j4(l:List Nat):Option Tk:=
 if(fQ l).length < 1\/20 < (fQ l).length then none
 else if TL.pre [48] (fQ l)=true/\l≠ [48]then none
 else some (.num (if TL.pre [45] l=true then -((jr (fQ l):Nat):Int)else((jr (fQ l):Nat):Int)))
def gH(l:List Nat):List Nat:=(l.drop 1).take (l.length - 3)
def iD(l:List Nat):Option Tk:=
 if l.drop (l.length - 2)= [39,66]/\(gH l).all (fun c=>decide (c∈qY))=true then some (.bits (gH l))
 else if l.drop (l.length - 2)= [39,72]/\(gH l).length % 2=0/\(gH l).all (fun c=>decide (c∈mX))=true then some (.octs (gH l))
 else none
def fg(c:Nat):Bool:=v0 c || upC c
def sC(c:Nat):Bool:=decide (c=45) || decide (c∈DIG)
def ga(l:List Nat):Option Nat:=(SGN.find? fun s=>TL.pre s l).map cI
def dM(l:List Nat):Option Nat:=match l with
 | []=>none
 |c::r=>
  if fg c=true then some ((c::r).takeWhile fun c=>decide (c∈WLET)).length
  else if sC c=true then some (1+ (r.takeWhile fun c=>decide (c∈DIG)).length)
  else if c=39 then(if 39∈r then some ((r.takeWhile (·!= 39)).length+3)else none)
  else ga (c::r)
def eL(l:List Nat):Option Tk:=match l with
 | []=>none
 |c::r=>if fg c=true then jd (c::r)else if sC c=true then j4 (c::r)else if c=39 then iD (c::r)else some (.sign (c::r))
def we(e:aa)(o:Option Tk)(H:Hp)(Q:VK)(E:XK):Prop:=match o with
 |some k=>∀p,H p=none->Q (.ref p) (dJ H p (.tup k.vs))
 |none=>∀H',E (.ref e) none H'
def DL(e:aa)(o:Option Nat)(p:Nat)(H:Hp)(Q:VK)(E:XK):Prop:=match o with
 |some n=>Q (.int ((p+n:Nat):Int)) H
 |none=>∀H',E (.ref e) none H'
theorem DM(l:List Nat)(a:Nat):sr ⟨l.toArray⟩ (some (a:Int)) none= ⟨(l.drop a).toArray⟩:=by
 unfold sr;rw[fL,cK,HT.sIx_nat,HT.KD];by_cases h:a<=l.length
 ·rw[mB h,ej (by rw[aF];lia)]
 ·rw[EW (by lia),cP (by lia:l.length<=a),cP (aC _),List.take_nil]
theorem F2(l:List Nat)(a b:Nat)(h:a<=l.length):sr ⟨l.toArray⟩ (some (a:Int)) (some (b:Int))= ⟨((l.drop a).take (b - a)).toArray⟩:=by
 unfold sr;rw[fL,cK,HT.sIx_nat,HT.sIx_nat,mB h];by_cases e:b<=l.length
 ·rw[mB e]
 ·rw[EW (by lia),ej (by rw[aF];lia),ej (by rw[aF];lia)]
theorem IQ(l:List Nat):sr ⟨l.toArray⟩ (some 1) (some (-2))= ⟨(gH l).toArray⟩:=by
 unfold sr gH;rw[fL,cK,show HT.sIx l.length 0 (some 1)=min 1 l.length from HT.sIx_nat l.length 0 1];show Str.mk ((List.take ((if(-2:Int) < 0 then((-2:Int)+ (l.length:Int)).toNat else min (-2:Int).toNat l.length) - min 1 l.length) (List.drop (min 1 l.length) l)).toArray)=_;rw[qab (by decide)];by_cases h:1<=l.length
 ·rw[mB h];rw[show((-2:Int)+ (l.length:Int)).toNat - 1=l.length - 3 by lia]
 ·rw[show l= []from lp.mp (by lia)];rfl
section
variable {P:aZ}{w:bB}{K:PySem.W.Frag}{mg:aQ->Option ag}{base:bH}{WT:aa}
def qD(e:aa):Sp:=fun vs H Q E=>∃l:List Nat,vs= [sv l]/\l.length<=65536/\we e (jd l) H Q E
theorem xM:bf ["piece"] ["piece"] (aA nN):=fP
theorem uj(D:Df K mg "word_token" nN ["piece"])(T:Txt K mg WT):Ok P w K mg base (cE P w) 1 "word_token" ["piece"] (qD WT):=by
 refine D.okX xM (fun f r A outer s H vs Q E u h=>?_)
 ·obtain⟨l,rfl,q,k⟩:=h;refine⟨_,aj (bN (PW.pt (lr (bo lY (cJ c8 (by rfl) T.len PySem.boot_len (ac (pv 0) ao)) (ek T.lword) (bE _))
    (ip (cB (u8 PySem.F.slot_str_endswith PySem.F.type_str_endswith DJ (pv 0) aX)))))
    (aq (cX PySem.F.excBase_ValueError T.exc rfl (by rfl) T.wt (ac aX ao) ft)) bh)
   (aq (bb (kA (ac (ek T.word) (ac (pv 0) ao))))),?_⟩
  refine⟨_,rfl,_,rfl,gl q,_,_,rfl,rfl,_,rfl,?_⟩;rw[cK];refine du (fun e=>?_) (fun e=>?_)
  ·have g:64 < l.length:=by have:=qac e;lia
   rw[jd,qab (.inl g)]at k;exact d9 ⟨by decide,k _⟩
  ·have g:¬64 < l.length:=fun z=>e (qad (by lia));refine⟨_,rfl,⟨_,rfl⟩,l, [45],rfl,rfl,by simp,_,rfl,?_⟩;refine du (fun hd=>?_) (fun hd=>?_)
   ·rw[jd,qab (.inr (qac hd))]at k;exact⟨by decide,k _⟩
   ·rw[jd,qaa (fun z=>z.elim g fun z=>hd (qad z))]at k;exact⟨_,rfl,by show 2<=aO;decide,fun p j=>k p j⟩
def numForm(l:List Nat):Prop:=∃d,js d/\(l=d\/l=45::d)
theorem numForm.cases{l:List Nat}(h:numForm l): (TL.pre [45] l=false/\js l)\/(∃d,l=45::d/\TL.pre [45] l=true/\js d):=by
 obtain⟨d,hd,rfl|rfl⟩:=h
 ·refine .inl ⟨?_,hd⟩;cases l with
  |nil=>rfl
  |cons c r=>exact TL.HE [] r (fun e=>by have:=hd.head;lia)
 ·exact .inr ⟨d,rfl,TL.KQ [45] d,hd⟩
theorem numForm.int{l:List Nat}(h:numForm l)(g:¬((fQ l).length < 1\/20 < (fQ l).length)):intText? (⟨l.toArray⟩:aQ)=some (if TL.pre [45] l=true then -((jr (fQ l):Nat):Int)else((jr (fQ l):Nat):Int))/\l.length<=21:=by
 rcases h.cases with⟨e,hd⟩ | ⟨d,rfl,e,hd⟩
 ·have j:fQ l=l:=by unfold fQ;rw[e];rfl
  rw[j]at g ⊢;rw[e];refine⟨?_,by lia⟩;have q:=PySem.intText_digits (x:=(⟨l.toArray⟩:aQ)) (by rw[fL];exact hd) (by rw[fL];intro z;rw[z]at g;simp at g) (by rw[cK];lia);rw[fL]at q;rw[q];rfl
 ·have j:fQ (45::d)=d:=by unfold fQ;rw[e];rfl
  rw[j]at g ⊢;rw[e];refine⟨?_,by rw[ae];lia⟩;have q:=PySem.intText_neg (x:=(⟨(45::d).toArray⟩:aQ)) (cs:=d) (fL _) hd (by intro z;rw[z]at g;simp at g) (by rw[cK,ae];lia);rw[q];rfl
def nn(e:aa):Sp:=fun vs H Q E=>∃l:List Nat,vs= [sv l]/\l.length<=65536/\numForm l/\we e (j4 l) H Q E
theorem scNumberToken:bf ["piece","digits"] ["piece"] (aA kE):=fP
theorem qZ(D:Df K mg "number_token" kE ["piece"])(T:Txt K mg WT):Ok P w K mg base (cE P w) 1 "number_token" ["piece"] (nn WT):=by
 refine D.okX scNumberToken (fun f J A outer s H vs Q E O h=>?_)
 ·obtain⟨l,rfl,B,G,k⟩:=h;refine⟨_,aj (bR (i:=1) scNumberToken.nd rfl (Or.inl rfl) (jX (cB (u8 PySem.F.slot_str_startswith PySem.F.type_str_startswith HG (pv 0) aX)) (sh zl (pv 0) (oB cw) FJ) (pv 0)))
   (aj (bN (PW.pt (lr (bo lu (cJ c8 (by rfl) T.len PySem.boot_len (ac (pv 1) ao)) cw (bE _))
     (ip (bo lY (cJ c8 (by rfl) T.len PySem.boot_len (ac (pv 1) ao)) (ek T.mdig) (bE _)))))
    (aq (cX PySem.F.excBase_ValueError T.exc rfl (by rfl) T.wt (ac aX ao) ft)) bh)
   (aj (bN (PW.pt (kz (cB (u8 PySem.F.slot_str_startswith PySem.F.type_str_startswith HG (pv 1) aX))
     (ju (bo Hv (pv 0) aX (bE _)))))
    (aq (cX PySem.F.excBase_ValueError T.exc rfl (by rfl) T.wt (ac aX ao) ft)) bh)
   (aq (bb (kA (ac (ek T.number) (ac (uV vX (by rfl) T.int_ BY (ac (pv 0) ao)) ao))))))),?_⟩
  refine⟨_,rfl,⟨_,rfl⟩,l, [45],rfl,rfl,by simp,_,rfl,?_⟩;have x: (fQ l).length<=65536:=by unfold fQ;split;rw[aF];lia;lia
  refine IP (sv (fQ l)) (fun j Q g=>?_) (fun j Q g=>?_) ?_
  ·refine⟨_,rfl,_,rfl,_,rfl,gl B,?_⟩;rw[show sr ⟨l.toArray⟩ (some 1) none= ⟨(fQ l).toArray⟩ by rw[show(1:Int)= ((1:Nat):Int)from rfl,DM,fQ,qab j]];exact g
  ·refine⟨_,rfl,?_⟩;have e:fQ l=l:=by rw[fQ,qaa j]
   rw[e]at g;exact g
  ·refine⟨_,rfl,_,rfl,gl x,_,_,rfl,rfl,_,rfl,?_⟩;rw[cK];refine du (fun j=>?_) (fun j=>?_)
   ·have v: (fQ l).length < 1:=by have:=qac j;lia
    rw[j4,qab (.inl v)]at k;exact d9 ⟨by decide,k _⟩
   ·have v:¬(fQ l).length < 1:=fun z=>j (qad (by lia));refine⟨_,rfl,_,rfl,gl x,_,_,rfl,rfl,_,rfl,?_⟩;rw[cK];refine du (fun j=>?_) (fun j=>?_)
    ·have u:20 < (fQ l).length:=by have:=qac j;lia
     rw[j4,qab (.inr u)]at k;exact⟨by decide,k _⟩
    ·have u:¬20 < (fQ l).length:=fun z=>j (qad (by lia));have r:¬((fQ l).length < 1\/20 < (fQ l).length):=fun z=>z.elim v u;rw[j4,qaa r]at k;obtain⟨C,M⟩:=G.int r;refine⟨_,rfl,⟨_,rfl⟩,fQ l, [48],rfl,rfl,by simp,_,rfl,?_⟩;have fin:¬(TL.pre [48] (fQ l)=true/\l≠ [48])->Fv (KB (ie (tC (V.str "number")) (ie (tCB (fun xs H Q=>∃a n,xs= [V.str a]/\intText? a=some n/\a.length<=640/\Q (V.int n) H) (ie (lz 0) tNil)) tNil))) { nx:=fun _ H'=>Q .non H',rt:=Q } [some (sv l),some (sv (fQ l))] H:=fun I=>by
      rw[qaa I]at k;exact⟨_,rfl,_,_,rfl,C,by rw[cK];lia,by show 2<=aO;decide,fun p y=>k p y⟩
     refine du (fun j=>?_) (fun j=>?_)
     ·refine⟨_,rfl,rfl,_,rfl,?_⟩;refine du (fun hd=>?_) (fun hd=>?_)
      ·have q:¬(V.str ⟨l.toArray⟩=V.str (ai "0")):=by simpa using hd
       rw[qab ⟨j,fun z=>q (by rw[z];rfl)⟩]at k;exact⟨by decide,k _⟩
      ·have q:V.str ⟨l.toArray⟩=V.str (ai "0"):=by simpa using hd
       exact fin fun z=>z.2 (sv_inj (m:= [48]) (q.trans rfl))
     ·exact eC (fin fun z=>j z.1)
end
end Th
namespace L2
open PySem PySem.Spec PyProof.Rows
theorem sD{σ:St}{H:Hp}{A B:Hp->Prop}(h:A H):tYes σ H (fun b e=>if b=true then A e else B e):=by
 show ite (true=true) (A H) (B H);rw[qab rfl];exact h
theorem DN{x:aQ}{g:TG}{v:TT}{B:TE}{vs:List Nat}{σ:St}{H1:Hp}{D:aa}{Qd:Hp->Prop}(j:Nat->Hp->Prop)(M:j 0 (dJ H1 D (.lst [])))
  (G:∀i c H,x.cps.toList[i]? =some c->j i H->g (sv [c]) (iu σ vs) H fun e u=>iu e vs=iu σ vs/\v e u fun b q=>
   if b=true then B e q fun y p=>∃acc,p D=some (.lst acc)/\acc.length < aO/\j (i+1) (dJ p D (.lst (acc++ [y])))else j (i+1) q) (hd:∀H,j x.cps.toList.length H->Qd H):
  ∃W:Nat->Nat->Hp->Prop,(∃m,W 0 m (dJ H1 D (.lst [])))/\∀i m H,W i m H->
   ((KP x).stop i H/\Qd H)\/((KP x).go i H/\∃r:Hp->Prop,(∀H',r H'->∃C,C < m/\W (i+1) C H')/\∀z H',(KP x).yld i H z H'->g z (iu σ vs) H' fun e u=>iu e vs=iu σ vs/\v e u fun b q=>
    if b=true then B e q fun y p=>∃acc,p D=some (.lst acc)/\acc.length < aO/\r (dJ p D (.lst (acc++ [y])))else r q):=by
 refine⟨fun i m H=>j i H/\i+m=x.cps.size,⟨x.cps.size,M,by lia⟩,fun i m H h=>?_⟩;obtain⟨E,O⟩:=h;by_cases I:i < x.cps.size
 ·refine .inr ⟨I,fun H'=>j (i+1) H',fun H' h=>⟨m - 1,by lia,h,by lia⟩,fun z H' F=>?_⟩;obtain⟨rfl,c,J,rfl⟩:=F;exact G i c _ (by rw[yR];exact J) E
 ·refine .inl ⟨by show x.cps.size<=i;lia,hd H ?_⟩;rw[iM,show x.cps.size=i by lia];exact E
end L2
namespace Th
open PySem L2
section
variable {P:aZ}{w:bB}{K:PySem.W.Frag}{mg:aQ->Option ag}{base:bH}{WT:aa}
def spOnlyOf:Sp:=fun vs H Q _=>CL fun(l e:List Nat)=>vs= [sv l,sv e]/\l.length<=65536/\∀H',(∀b o,H b=some o->H' b=some o)->Q (.bl (l.all fun c=>decide (c∈e))) H'
theorem scOnlyOf:bf ["digits","allowed","digit"] ["digits","allowed"] (aA ry):=fP
theorem zx(D:Df K mg "only_of" ry ["digits","allowed"])(T:Txt K mg WT):Ok P w K mg base fh 1 "only_of" ["digits","allowed"] spOnlyOf:=by
 refine D.ok scOnlyOf (fun f y A outer s H vs Q E z h=>?_)
 ·obtain⟨l,u,rfl,v,k⟩:=h;refine⟨_,aq (bb (cJ (Iz rfl) (by rfl) T.all_ BZ (ac (xz (own:= [("digit",2)]) rfl scOnlyOf.nd (DD (pv 0)) (l9 (by show zk ["digits","allowed","digit"] (aA ry) _ _=true;decide+kernel)) (fun _ _ _ _ _=>jv (i:=2) scOnlyOf.nd rfl (Or.inl rfl)) (fun _ _ _ _ _=>oE)
   (fun _ _ _ _ _=>rs kC (pv 2) (pv 1) (by with_unfolding_all rfl))) ao))),?_⟩
  refine⟨_,rfl,_,rfl,fun d hd=>?_⟩;refine DN (Qd:=fun H'=>_) (fun i H'=>(∀b o,H b=some o->H' b=some o)/\H' d=some (.lst (((l.take i).map fun c=>decide (c∈u)).map V.bl))) ⟨fun b o e=>by rw[aY (br e hd)];exact e,by rw[aU];rfl⟩ (fun i c H' p q=>?_) (fun H' q=>?_)
  ·rw[fL]at p;obtain⟨j,g⟩:=q;have x:i < l.length:=(aD.mp p).1;refine⟨rfl,?_⟩;refine sD ?_;refine⟨_,rfl,_,rfl,c,_,rfl,rfl,_,g,by simp;exact bK (cn (rJ _ _) v) (by decide),fun b o e=>?_,?_⟩
   ·by_cases r:b=d
    ·subst r;rw[hd]at e;cases e
    ·rw[aY r];exact j b o e
   ·rw[aU,fL];simp only[bV,<-ay];rw[gJ,p];simp
  ·obtain⟨j,g⟩:=q;rw[fL,eV]at g;refine⟨d,_,rfl,SqL.of g,?_⟩;have:=k H' j;rw[lG];exact this
end
end Th
namespace L2
open PySem
theorem je{t u:TS}{D:nH}{σ:St}{H:Hp}(h:∀R:St->Hp->Prop,R=u D->t { D with nx:=R } σ H):xq t u D σ H:=h _ rfl
theorem whl{c:TT}{tb:TS}{D:nH}{σ:St}{H:Hp}(W:Nat->St->Hp->Prop)(j:Nat)(p:W j σ H)
  (k:∀m σ H,W m σ H->∀(Y X:Hp->Prop),(∀H1,(∀(N:St->Hp->Prop) (R:VK) (B:St->Hp->Prop),(∀g e H',g < m->W g e H'->N e H')->R=D.rt->tb { nx:=N,rt:=R,bk:=B,ct:=N } σ H1)->Y H1)->(∀H1,D.nx σ H1->X H1)->c σ H fun b H1=>if b=true then Y H1 else X H1):zc c tb D σ H:=
 ⟨W,⟨j,p⟩,fun m σ H h=>k m σ H h (fun H1=>∃N:St->Hp->Prop,(∀e H',N e H'->∃g,g < m/\W g e H')/\tb { D with nx:=N,ct:=N,bk:=D.nx } σ H1) (fun H1=>D.nx σ H1)
  (fun H1 z=>⟨fun e H'=>∃g,g < m/\W g e H',fun _ _ x=>x,z _ D.rt D.nx (fun g _ _ a b=>⟨g,a,b⟩) rfl⟩) (fun H1 z=>z)⟩
end L2
namespace Th
open PySem L2
section
variable {P:aZ}{w:bB}{K:PySem.W.Frag}{mg:aQ->Option ag}{base:bH}{WT:aa}
def qE(e:aa):Sp:=fun vs H Q E=>CL fun(t:List Nat) (p:Nat)=>vs= [sv t, .int (p:Int)]/\t.length<=65536/\p < t.length/\
 DL e (if 39∈t.drop (p+1)then some (((t.drop (p+1)).takeWhile (·!= 39)).length+3)else none) p H Q E
theorem scStringEnd:bf ["text","start","closing"] ["text","start"] (aA nO):=fP
theorem uk(D:Df K mg "string_end" nO ["text","start"])(T:Txt K mg WT):Ok P w K mg base (cE P w) 1 "string_end" ["text","start"] (qE WT):=by
 refine D.okX scStringEnd (fun f r A outer s H vs Q E v h=>?_)
 ·obtain⟨t,p,rfl,u,q,k⟩:=h;refine⟨_,aj (bR (i:=2) scStringEnd.nd rfl (Or.inl rfl) (lv PySem.F.plainAttrs_str PySem.F.slot_str_find PySem.F.type_str_find xK (pv 0) (ac aX (ac (fU lX (pv 1) cw) ao))))
   (aj (bN (bo lu (pv 2) cw (bE _)) (aq (cX PySem.F.excBase_ValueError T.exc rfl (by rfl) T.wt (ac aX ao) ft)) bh)
   (aq (bb (fU lX (pv 2) (cJ c8 (by rfl) T.len PySem.boot_len (ac aX ao)))))),?_⟩
  refine⟨_,rfl,rfl,_,rfl,_,_,rfl,rfl,t,39,p+1,rfl,rfl,q,?_⟩;refine⟨_,rfl,_,_,rfl,rfl,_,rfl,?_⟩;refine du (fun g=>?_) (fun g=>?_)
  ·have g:=qac g;by_cases j:39∈t.drop (p+1)
   ·rw[qab j]at g;lia
   ·rw[qaa j]at k;exact⟨by decide,k _⟩
  ·by_cases j:39∈t.drop (p+1)
   ·refine⟨_,rfl,_,rfl,by decide,_,_,rfl,rfl,?_⟩;rw[qab j]at k ⊢;have e: ((p+1+ ((t.drop (p+1)).takeWhile (·!= 39)).length:Nat):Int)+ ((ai "'B").length:Int)= ((p+ (((t.drop (p+1)).takeWhile (·!= 39)).length+3):Nat):Int):=by
     have: ((ai "'B").length:Int)=2:=by decide+kernel
     rw[this];lia
    show Q (V.int (_+_)) H;rw[e];exact k
   ·rw[qaa j]at g;exact absurd (by decide) g
def nq(g:aa):Sp:=fun vs H Q E=>∃l:List Nat,vs= [sv l]/\l.length<=65536/\(∀e,(∀b o,H b=some o->e b=some o)->we g (iD l) e Q E)
theorem scStringToken:bf ["piece","digits"] ["piece"] (aA kF):=fP
theorem q0(D:Df K mg "string_token" kF ["piece"])(T:Txt K mg WT)(J:Ok P w K mg base fh 1 "only_of" ["digits","allowed"] spOnlyOf):Ok P w K mg base (cE P w) 2 "string_token" ["piece"] (nq WT):=by
 refine D.okX scStringToken (fun f U A outer s H vs Q E G h=>?_)
 ·obtain⟨l,rfl,M,k⟩:=h;refine⟨_,aj (bR (i:=1) scStringToken.nd rfl (Or.inl rfl) (sh zl (pv 0) (oB cw) (oB (Hu Dm cw))))
   (aj (bN (PW.pt (kz (cB (u8 PySem.F.slot_str_endswith PySem.F.type_str_endswith DJ (pv 0) aX))
     (ju (cB (cy J G cD (ac (pv 1) (ac (ek T.bitd) ao)))))))
    (aq (bb (kA (ac (ek T.bits) (ac (pv 1) ao))))) bh)
   (aj (bN (PW.pt (kz (cB (u8 PySem.F.slot_str_endswith PySem.F.type_str_endswith DJ (pv 0) aX))
     (kz (bo dR (fU Is (cJ c8 (by rfl) T.len PySem.boot_len (ac (pv 1) ao)) cw) cw (bE _))
     (ju (cB (cy J G cD (ac (pv 1) (ac (ek T.octd) ao))))))))
    (aq (bb (kA (ac (ek T.octets) (ac (pv 1) ao))))) bh)
   (aq (cX PySem.F.excBase_ValueError T.exc rfl (by rfl) T.wt (ac aX ao) ft)))),?_⟩
  have C: (gH l).length<=65536:=by unfold gH;rw[cg,aF];lia
  refine⟨_,rfl,_,rfl,_,rfl,_,rfl,_,rfl,gl M,?_⟩;rw[show sr ⟨l.toArray⟩ (some 1) (some (-2))=_ from IQ l];dsimp only[ni];refine je fun R O=>?_;have two:¬(l.drop (l.length - 2)= [39,66]/\(gH l).all (fun c=>decide (c∈qY))=true)->∀r:Hp,(∀b o,H b=some o->r b=some o)->R [some (sv l),some (sv (gH l))] r:=by
   intro I r u;rw[O];refine je fun R2 B=>?_;have g:¬(l.drop (l.length - 2)= [39,72]/\(gH l).length % 2=0/\(gH l).all (fun c=>decide (c∈mX))=true)->∀H1:Hp,R2 [some (sv l),some (sv (gH l))] H1:=by
    intro S H1;rw[B];have q:=k r u;rw[iD,qaa I,qaa S]at q;exact⟨by decide,q _⟩
   refine⟨_,rfl,⟨_,rfl⟩,l, [39,72],rfl,rfl,by simp,_,rfl,?_⟩;refine du (fun j=>?_) (fun j=>?_)
   ·have j:=qac j;refine⟨_,rfl,_,rfl,gl C,_,_,rfl,rfl,(by show(0:Int) < 2;decide),rfl,_,rfl,?_⟩;rw[cK];refine du (fun hd=>?_) (fun hd=>?_)
    ·have hd: (gH l).length % 2=0:=by
      have:=qac hd;injection this with this
      lia
     refine⟨_,rfl,gH l,mX,rfl,C,fun W v=>⟨_,rfl,?_⟩⟩;refine du (fun y=>?_) (fun y=>?_)
     ·have q:=k W fun b o e=>v b o (u b o e);rw[iD,qaa I,qab ⟨j,hd,y⟩]at q;exact⟨_,rfl,by show 2<=aO;decide,fun p x=>q p x⟩
     ·exact g (fun z=>y z.2.2) _
    ·refine eC (g (fun z=>hd (qad ?_)) _);show V.int (_ % _)=V.int 0;rw[show((gH l).length:Int) % 2=0 by lia]
   ·exact eC (g (fun z=>j (qad z.1)) _)
  refine⟨_,rfl,⟨_,rfl⟩,l, [39,66],rfl,rfl,by simp,_,rfl,?_⟩;refine du (fun j=>?_) (fun j=>?_)
  ·have j:=qac j;refine⟨_,rfl,gH l,qY,rfl,C,fun r v=>⟨_,rfl,?_⟩⟩;refine du (fun hd=>?_) (fun hd=>?_)
   ·have q:=k r v;rw[iD,qab ⟨j,hd⟩]at q;exact⟨_,rfl,by show 2<=aO;decide,fun p x=>q p x⟩
   ·exact two (fun z=>hd z.2) r v
  ·exact eC (two (fun z=>j (qad z.1)) H fun b o e=>e)
end
section
variable {P:aZ}{w:bB}{K:PySem.W.Frag}{mg:aQ->Option ag}{base:bH}{WT:aa}
theorem Ay{g:Type}{p:g->Bool} :∀ {l:List g} {i:Nat} {x:g},l[i]? =some x->p x=true->(∀j y,j < i->l[j]? =some y->p y=false)->l.find? p=some x
 | [],i,x,h,_,_=>by simp at h
 |a::r,0,x,h,hp,_=>by
  have e:a=x:=by simpa using h
  subst e;rw[dH,hp]
 |a::r,i+1,x,h,hp,hn=>by
  rw[dH,hn 0 a (by lia) rfl];exact Ay (l:=r) (i:=i) h hp fun j y q e=>hn (j+1) y (by lia) e
theorem F3{g:Type}{p:g->Bool}{l:List g}(q:∀(j:Nat) y,l[j]? =some y->p y=false):l.find? p=none:=by
 refine CD.mpr fun x h=>?_;obtain⟨j,r,e⟩:=z8.mp h;rw[q j x (by rw[bF r,e])];simp
def ve(e:aa):Sp:=fun vs H Q E=>CL fun(t:List Nat) (p:Nat)=>vs= [sv t, .int (p:Int)]/\t.length<=65536/\DL e (ga (t.drop p)) p H Q E
theorem scSignEnd:bf ["text","start","sign"] ["text","start"] (aA su):=fP
theorem xN(D:Df K mg "sign_end" su ["text","start"])(T:Txt K mg WT):Ok P w K mg base (cE P w) 1 "sign_end" ["text","start"] (ve WT):=by
 refine D.okX scSignEnd (fun f S A outer s H vs Q E W h=>?_)
 ·obtain⟨t,p,rfl,U,k⟩:=h;obtain⟨a,R,M⟩:=T.signs;refine⟨_,aj (Dk ma rfl (Iq (vO (v:= .ref a) (by rfl) R rfl)) (jv (i:=2) scSignEnd.nd rfl (Or.inl rfl))
    (aq (bN (cB (lv PySem.F.plainAttrs_str PySem.F.slot_str_startswith PySem.F.type_str_startswith DI (pv 0) (ac (pv 2) (ac (pv 1) ao))))
     (aq (bb (fU lX (pv 1) (cJ c8 (by rfl) T.len PySem.boot_len (ac (pv 2) ao))))) bh)))
   (aq (cX PySem.F.excBase_ValueError T.exc rfl (by rfl) T.wt (ac aX ao) ft)),?_⟩
  refine⟨a,rfl,⟨_,M H⟩,?_⟩;refine Fz (xs:=SGN.map sv) (fun i g H'=>H'=H/\(∃o,g= [some (sv t),some (.int (p:Int)),o])/\∀(j:Nat) y,j < i->SGN[j]? =some y->TL.pre y (t.drop p)=false) ⟨rfl,⟨none,rfl⟩,fun j y B=>absurd B (mC _)⟩ (fun i g H' _ h=>M H') (fun i x g H' r h=>?_) (fun g H' h=>?_)
  ·obtain⟨rfl,⟨o,rfl⟩,u⟩:=h;obtain⟨y,C,rfl⟩:∃y,SGN[i]? =some y/\sv y=x:=by
    rw[bp]at r;cases e:SGN[i]? with
    |none=>rw[e]at r;cases r
    |some y=>rw[e]at r;exact⟨y,rfl,aB r⟩
   have q:y∈SGN:=bd C;have G:y≠ []:=by
    have:∀y∈SGN,y≠ []:=by decide
    exact this y q
   have O:y.length<=3:=by
    have:∀y∈SGN,y.length<=3:=by decide
    exact this y q
   refine⟨_,rfl,rfl,_,rfl,_,rfl,t,y,p,rfl,rfl,G,_,rfl,?_⟩;refine du (fun J=>?_) (fun J=>?_)
   ·refine⟨_,rfl,_,rfl,_,rfl,gl (by lia),_,_,rfl,rfl,?_⟩;rw[cK];have e:ga (t.drop p)=some y.length:=by
     unfold ga;rw[Ay (p:=fun s=>TL.pre s (t.drop p)) C J fun j z B e=>u j z B e];rfl
    rw[e]at k;show Q (V.int (_+_)) _;rw[<-Int.natCast_add];exact k
   ·refine⟨rfl,⟨_,rfl⟩,fun j z B e=>?_⟩;by_cases I:j=i
    ·subst I;rw[C]at e;cases e;simpa using J
    ·exact u j z (by lia) e
  ·obtain⟨rfl,⟨o,rfl⟩,u⟩:=h;have e:ga (t.drop p)=none:=by
    unfold ga;rw[F3 fun j y e=>u j y (by rw[ah];exact(aD.mp e).1) e];rfl
   rw[e]at k;exact⟨by decide,k _⟩
def spBeginsNumber:Sp:=fun vs H Q _=>∃c:Nat,vs= [sv [c]]/\Q (.bl (sC c)) H
theorem sE:bf ["letter"] ["letter"] (aA jH):=fP
theorem K1(c:Nat): (V.str ⟨#[c]⟩=V.str (ai "-"))↔c=45:=by
 constructor
 ·intro h;have:=sv_inj (l:= [c]) (m:= [45]) (h.trans rfl);simpa using this
 ·rintro rfl;rfl
theorem pV(D:Df K mg "begins_number" jH ["letter"])(T:Txt K mg WT):Ok P w K mg base fh 1 "begins_number" ["letter"] spBeginsNumber:=by
 refine D.ok sE (fun f g A outer s H vs Q E j h=>?_)
 ·obtain⟨c,rfl,k⟩:=h;refine⟨_,aq (bb (Km (rs dR (pv 0) aX (bE _)) (Im (rs kC (pv 0) (ek T.dig) (by with_unfolding_all rfl))))),?_⟩;refine⟨_,rfl,rfl,_,rfl,?_⟩;refine du (fun e=>?_) (fun e=>?_)
  ·have e:=(K1 c).mp (qac e);rw[sC,qad e,qx]at k;exact k
  ·have e:¬c=45:=fun z=>e (qad ((K1 c).mpr z));rw[sC,decide_eq_false e,kr]at k;exact⟨_,rfl,c,_,rfl,rfl,by rw[fL];exact k⟩
def sF(e:aa):Sp:=fun vs H Q E=>CL fun(t:List Nat) (p:Nat)=>vs= [sv t, .int (p:Int)]/\t.length<=65536/\p < t.length/\(∀c∈t,c < 128)/\DL e (dM (t.drop p)) p H Q E
theorem scTokenEnd:bf ["text","start","first"] ["text","start"] (aA pK):=fP
theorem Az(c:Nat): (V.str ⟨#[c]⟩=V.str (ai "'"))↔c=39:=by
 constructor
 ·intro h;have:=sv_inj (l:= [c]) (m:= [39]) (h.trans rfl);simpa using this
 ·rintro rfl;rfl
theorem wf(D:Df K mg "token_end" pK ["text","start"])(T:Txt K mg WT)(y:Ok P w K mg base fh 1 "run_end" ["text","start","letters"] spRunEnd)(I:Ok P w K mg base fh 1 "begins_number" ["letter"] spBeginsNumber)
  (C:Ok P w K mg base (cE P w) 1 "string_end" ["text","start"] (qE WT)) (G:Ok P w K mg base (cE P w) 1 "sign_end" ["text","start"] (ve WT)):Ok P w K mg base (cE P w) 2 "token_end" ["text","start"] (sF WT):=by
 refine D.okX scTokenEnd (fun f B A outer s H vs Q E r h=>?_)
 ·obtain⟨t,p,rfl,q,u,v,k⟩:=h;refine⟨_,aj (bR (i:=2) scTokenEnd.nd rfl (Or.inl rfl) (fb nK (pv 0) (pv 1) (fun _ _=>rfl)))
   (aj (bN (cB (As PySem.F.slot_str_isalpha PySem.F.type_str_isalpha sq (pv 2))) (aq (bb (cy y r cD (ac (pv 0) (ac (pv 1) (ac (ek T.wlet) ao)))))) bh)
   (aj (bN (cB (cy I r cD (ac (pv 2) ao))) (aq (bb (cy y r cD (ac (pv 0) (ac (fU lX (pv 1) cw) (ac (ek T.dig) ao)))))) bh)
   (aj (bN (bo dR (pv 2) aX (bE _)) (aq (bb (cy C r aP (ac (pv 0) (ac (pv 1) ao))))) bh)
   (aq (bb (cy G r aP (ac (pv 0) (ac (pv 1) ao)))))))),?_⟩
  have hd:=mH u;have j:t[p] < 128:=v _ (rn u);rw[hd,dM]at k;refine⟨_,rfl,_,rfl,_,_,t[p],rfl,rfl,gl q,sB (bF u),?_⟩;refine⟨_,rfl,⟨_,rfl⟩,_,rfl,rfl,trivial,_,rfl,?_⟩;rw[vc _ j];refine du (fun x=>?_) (fun x=>?_)
  ·rw[qab (show fg t[p]=true from x),<-hd]at k;exact⟨_,rfl,_,rfl,t,WLET,p,rfl,q,by lia,k⟩
  ·rw[qaa (show ¬fg t[p]=true from x)]at k;refine⟨_,rfl,t[p],rfl,_,rfl,?_⟩;refine du (fun g=>?_) (fun g=>?_)
   ·rw[qab g]at k;refine⟨_,rfl,_,rfl,_,_,rfl,rfl,t,DIG,p+1,rfl,q,u,?_⟩;rw[Nat.add_assoc];exact k
   ·rw[qaa g]at k;refine⟨_,rfl,rfl,_,rfl,?_⟩;refine du (fun e=>?_) (fun e=>?_)
    ·rw[qab ((Az _).mp (qac e))]at k;exact⟨_,rfl,_,rfl,t,p,rfl,q,u,k⟩
    ·rw[qaa (fun z=>e (qad ((Az _).mpr z))),<-hd]at k;exact⟨_,rfl,_,rfl,t,p,rfl,q,k⟩
end
theorem B1{p:Nat->Bool}{c:Nat}{r:List Nat}(h:p c=true):0 < ((c::r).takeWhile p).length:=by rw[dB h];simp
theorem sG:∀c,c < 128->fg c=true->decide (c∈WLET)=true:=by decide+kernel
theorem xO{l:List Nat}{n:Nat}(h:ga l=some n):0 < n:=by
 unfold ga at h;cases e:SGN.find? (fun s=>TL.pre s l)with
 |none=>rw[e]at h;cases h
 |some y=>
  rw[e]at h;have g:=jO e;have:∀y∈SGN,0 < y.length:=by decide
  have p:=this y g;have j:y.length=n:=aB h
  lia
theorem gh{l:List Nat}{n:Nat}(g:∀c∈l,c < 128)(h:dM l=some n):0 < n:=by
 match l with
 | []=>cases h
 |c::r=>
  rw[dM]at h;split at h
  ·rename_i e;have:=aB h;have j:=B1 (p:=fun c=>decide (c∈WLET)) (c:=c) (r:=r) (sG c (g c af) e)
   lia
  ·split at h
   ·have:=aB h;lia
   ·split at h
    ·split at h
     ·have:=aB h;lia
     ·cases h
    ·exact xO h
def gx:Nat->List Nat->Option (List Tk)
 |0,_=>none
 |k+1,l=>match l.drop (d8 l)with
  | []=>some []
  |c::r=>match dM (c::r)with
   |none=>none
   |some n=>match eL ((c::r).take n)with
    |none=>none
    |some t=>(gx k ((c::r).drop n)).map (t::·)
theorem kO:∀(k:Nat) (l:List Nat),(∀c∈l,c < 128)->l.length < k->gx k l=gx (l.length+1) l:=by
 intro k;induction k using fj with
 |ind k ih=>
  intro l u B;match k with
  |0=>lia
  |k+1=>
   rw[gx,gx];split
   ·rfl
   ·rename_i c r e;split
    ·rfl
    ·rename_i n y;split
     ·rfl
     ·have g:∀x∈c::r,x∈l:=fun x h=>bM (by rw[e];exact h);have q:=gh (fun x h=>u x (g x h)) y;have j: (c::r).length<=l.length:=by rw[<-e,aF];lia
      have v: ((c::r).drop n).length < l.length:=by rw[aF];simp at j ⊢;lia
      have p:∀x∈(c::r).drop n,x < 128:=fun x h=>u x (g x (bM h));rw[ih k (by lia) _ p (by lia)];by_cases z:l.length=0
      ·lia
      ·rw[ih l.length (by lia) _ p v]
def toks(l:List Nat):Option (List Tk):=gx (l.length+1) l
def TksAt(H:Hp)(as:List aa)(ts:List Tk):Prop:=Paired (fun a t=>H a=some (.tup (Tk.vs t))) as ts
theorem TksAt.mono{H H':Hp}{as:List aa}{ts:List Tk}(h:TksAt H as ts)(k:∀b o,H b=some o->H' b=some o):TksAt H' as ts:=Paired.mapP h fun a t e=>k a _ e
theorem Paired.snoc{g e:Type}{R:g->e->Prop}{x:g}{y:e}(r:R x y):∀ {l:List g} {m:List e},Paired R l m->Paired R (l++ [x]) (m++ [y])
 |_,_, .nil=> .cons r .nil
 |_,_, .cons a b=> .cons a (Paired.snoc r b)
theorem Paired.len{g e:Type}{R:g->e->Prop} :∀ {l:List g} {m:List e},Paired R l m->l.length=m.length
 |_,_, .nil=>rfl
 |_,_, .cons _ b=>by rw[ae,ae,Paired.len b]
section
variable {P:aZ}{w:bB}{K:PySem.W.Frag}{mg:aQ->Option ag}{base:bH}{WT:aa}
def vf(g:aa):Sp:=fun vs H Q E=>CL fun(c:Nat) (r:List Nat)=>vs= [sv (c::r)]/\(c::r).length<=65536/\c < 128/\(fg c=false->sC c=true->numForm (c::r))/\(∀e,(∀b o,H b=some o->e b=some o)->we g (eL (c::r)) e Q E)
theorem scTokenOf:bf ["piece","first"] ["piece"] (aA sw):=fP
theorem xP(D:Df K mg "token_of" sw ["piece"])(T:Txt K mg WT)(U:Ok P w K mg base fh 1 "begins_number" ["letter"] spBeginsNumber)(O:Ok P w K mg base (cE P w) 1 "word_token" ["piece"] (qD WT))
  (S:Ok P w K mg base (cE P w) 1 "number_token" ["piece"] (nn WT)) (R:Ok P w K mg base (cE P w) 2 "string_token" ["piece"] (nq WT)):Ok P w K mg base (cE P w) 3 "token_of" ["piece"] (vf WT):=by
 refine D.okX scTokenOf (fun f J A outer s H vs Q E C h=>?_)
 ·obtain⟨c,r,rfl,x,B,y,k⟩:=h;have q:=C.mono (show 1<=2 by decide);refine⟨_,aj (bR (i:=1) scTokenOf.nd rfl (Or.inl rfl) (fb nK (pv 0) cw (fun _ _=>rfl)))
   (aj (bN (cB (As PySem.F.slot_str_isalpha PySem.F.type_str_isalpha sq (pv 1))) (aq (bb (cy O q aP (ac (pv 0) ao)))) bh)
   (aj (bN (cB (cy U q cD (ac (pv 1) ao))) (aq (bb (cy S q aP (ac (pv 0) ao)))) bh)
   (aj (bN (bo dR (pv 1) aX (bE _)) (aq (bb (cy R C aP (ac (pv 0) ao)))) bh)
   (aq (bb (kA (ac (ek T.sign) (ac (pv 0) ao)))))))),?_⟩
  refine⟨_,rfl,_,_,c,rfl,rfl,gl x,sB (p:=0) rfl,?_⟩;refine⟨_,rfl,⟨_,rfl⟩,_,rfl,rfl,trivial,_,rfl,?_⟩;rw[vc _ B];have j:=k H fun b o e=>e;rw[eL]at j;refine du (fun v=>?_) (fun v=>?_)
  ·rw[qab (show fg c=true from v)]at j;exact⟨_,rfl,_,rfl,x,j⟩
  ·rw[qaa (show ¬fg c=true from v)]at j;refine⟨_,rfl,c,rfl,_,rfl,?_⟩;refine du (fun g=>?_) (fun g=>?_)
   ·rw[qab g]at j;exact⟨_,rfl,_,rfl,x,y (by simpa[fg]using v) g,j⟩
   ·rw[qaa g]at j;refine⟨_,rfl,rfl,_,rfl,?_⟩;refine du (fun u=>?_) (fun u=>?_)
    ·refine⟨_,rfl,_,rfl,x,fun M I=>?_⟩;have k2:=k M I;rw[eL,qaa (show ¬fg c=true from v),qaa g,qab ((Az _).mp (qac u))]at k2;exact k2
    ·rw[qaa (fun z=>u (qad ((Az _).mpr z)))]at j;exact⟨_,rfl,by show 2<=aO;decide,fun p G=>j p G⟩
end
theorem nV(l:List Nat):d8 (l.drop (d8 l))=0:=by
 induction e:l.length using fj generalizing l with
 |ind n ih=>
  match l with
  | []=>rw[mL,eU,mL]
  |c::r=>
   rw[fv];split
   ·rename_i h;rw[show 1+d8 r=d8 r+1 by lia,dE];exact ih r.length (by rw[<-e];simp) r rfl
   ·split
    ·have g:=oG (l:=c::r) (by simp);have:=ih ((c::r).drop (lB (c::r))).length (by rw[aF,<-e];simp at*;lia) _ rfl;rw[dn]at this;rw[<-dn]at this ⊢;exact this
    ·rename_i j g;rw[eU,fv,qaa j,qaa g]
theorem sH(p:Nat->Bool)(l:List Nat): (l.takeWhile p).length<=l.length:=(gI p).length_le
theorem kP(p:Nat->Bool):∀l:List Nat,l.take (l.takeWhile p).length=l.takeWhile p
 | []=>rfl
 |c::r=>by
  by_cases h:p c=true
  ·rw[dB h,ae,cv,kP p r]
  ·rw[uE h];rfl
theorem IR{s l:List Nat}(h:TL.pre s l=true):s.length<=l.length:=by
 have e:l.take s.length=s:=eq_of_beq h;have g:=qaf cI e;rw[cg]at g
 lia
theorem DO{l:List Nat}{n:Nat}{t:Tk}(h:dM l=some n)(u:eL (l.take n)=some t):n<=l.length:=by
 match l with
 | []=>cases h
 |c::r=>
  rw[dM]at h;split at h
  ·have:=aB h;have F:=sH (fun c=>decide (c∈WLET)) (c::r)
   lia
  ·rename_i R;split at h
   ·have:=aB h;have F:=sH (fun c=>decide (c∈DIG)) r;simp;lia
   ·rename_i Q;split at h
    ·rename_i O;split at h
     ·rename_i M;have e:=aB h;refine EX fun v=>?_;have F:=sH (·!= 39) r;have J:r.length= (r.takeWhile (·!= 39)).length+1:=by
       have E: (r.takeWhile (·!= 39)).length≠r.length:=fun Z=>by
        have Y:=(gI (·!= 39)).eq_of_length Z;have W:=bw.mp (ez (p:=(·!= 39)) (l:=r)) 39 (by rw[Y];exact M);simp at W
       simp at v;lia
      have g:r.drop (r.length - 1)= [39]:=by
       rw[J,eA];have U:r.takeWhile (·!= 39)++r.dropWhile (·!= 39)=r:=cZ;have D:r.drop (r.takeWhile (·!= 39)).length=r.dropWhile (·!= 39):=by
        conv=>lhs;arg 2;rw[<-U]
        rw[jq]
       rw[D];have S: (r.dropWhile (·!= 39)).length=1:=by rw[<-D,aF];lia
       obtain⟨x,q⟩:=List.length_eq_one_iff.mp S;have C:=eT (p:=(·!= 39)) (l:=r) (by rw[q];simp);rw[q];simp[q]at C;rw[C]
      rw[ej (by lia),eL,qaa R,qaa Q,qab O]at u;have I:1<=r.length:=by lia
      have hd: (c::r).drop ((c::r).length - 2)=r.drop (r.length - 2)\/(c::r).drop ((c::r).length - 2)=c::r:=by
       by_cases X:r.length=1
       ·right;rw[ae,X];rfl
       ·left;rw[ae,show r.length+1 - 2= (r.length - 2)+1 by lia,dE]
      have j:∀y,y≠39->(c::r).drop ((c::r).length - 2)≠ [39,y]:=fun y G z=>by
       have B: ((c::r).drop ((c::r).length - 2)).drop 1= [y]:=by rw[z];rfl
       rw[dn,ae,show r.length+1 - 2+1= (r.length - 1)+1 by lia,dE,g]at B;exact G (by simpa using B.symm)
      rw[iD,qaa (fun z=>j 66 (by decide) z.1),qaa (fun z=>j 72 (by decide) z.1)]at u;cases u
     ·cases h
    ·unfold ga at h;cases e:SGN.find? (fun s=>TL.pre s (c::r))with
     |none=>rw[e]at h;cases h
     |some y=>
      rw[e]at h;have E:y.length=n:=aB h;rw[<-E];exact IR (lO (p:=fun s=>TL.pre s (c::r)) e)
theorem sI{l:List Nat}(h:∀c∈l,c∈DIG):js l:=fun c e=>by
 have:∀c∈DIG,48<=c/\c<=57:=by decide
 exact this c (h c e)
theorem B3{c:Nat}{r:List Nat}{n:Nat}(q:fg c=false)(j:sC c=true)(h:dM (c::r)=some n):numForm ((c::r).take n):=by
 rw[dM,qaa (by rw[q];simp),qab j]at h;have e:=aB h;rw[<-e,lQ,cv,kP];have hd:∀x∈r.takeWhile (fun c=>decide (c∈DIG)),x∈DIG:=fun x g=>qac (bw.mp (ez (p:=fun c=>decide (c∈DIG)) (l:=r)) x g);unfold sC at j;rcases Bool.or_eq_true_iff.mp j with h1|h1
 ·have h1:=qac h1;exact⟨_,sI hd, .inr (by rw[h1])⟩
 ·have h1:=qac h1;refine⟨_,sI (l:=c::r.takeWhile fun c=>decide (c∈DIG)) (fun x g=>?_), .inl rfl⟩;rcases am.mp g with z|z
  ·rw[z];exact h1
  ·exact hd x z
theorem pW{l:List Nat}(j:∀c∈l,c < 128)(q:d8 l=0){c:Nat}{r:List Nat}(e:l=c::r):toks l=match dM l with
  |none=>none
  |some n=>match eL (l.take n)with
   |none=>none
   |some t=>(toks (l.drop n)).map (t::·):=by
 unfold toks;rw[gx,q,eU];subst e;dsimp only;cases h:dM (c::r)with
 |none=>rfl
 |some n=>
  dsimp only;cases u:eL ((c::r).take n)with
  |none=>rfl
  |some t=>
   have g:=gh j h;dsimp only;rw[kO (c::r).length _ (fun x p=>j x (bM p)) (by rw[aF];simp;lia)]
theorem vg:∀n,lc n < 128:=fun n=>by
 unfold lc;rw[fJ];cases e:LET[n]? with
 |none=>decide
 |some x=>
  have:∀x∈LET,x < 128:=by decide
  exact this x (bd e)
theorem iT{l:List Nat}(u:∀c∈l,c < 128):toks (l.drop (d8 l))=toks l:=by
 unfold toks;rw[gx,gx,nV,eU];split
 ·rfl
 ·rename_i c r e;split
  ·rfl
  ·rename_i n v;split
   ·rfl
   ·rename_i t y;have g:∀x∈c::r,x∈l:=fun x h=>bM (by rw[e];exact h);have p:=gh (fun x h=>u x (g x h)) v;have q: (c::r).length<=l.length:=by rw[<-e,aF];lia
    have j:∀x∈(c::r).drop n,x < 128:=fun x h=>u x (g x (bM h));rw[kO l.length _ j (by rw[aF];simp at*;lia),kO (l.drop (d8 l)).length _ j (by rw[e,aF];simp;lia)]
theorem xQ:toks []=some []:=by unfold toks;rw[gx,mL];rfl
end Th
namespace Sp
open Th
def lb(c:UInt8):Nat:=lc c.toNat
def L(b:List UInt8):List Nat:=b.map lb
def TC:List Nat:= [10,39,40,41,44,45,46,48,49,50,51,52,53,54,55,56,57,58,61,65,66,67,68,69,70,71,72,73,74,75,76,77,78,79,80,81,82,83,84,85,86,87,88,89,90,97,98,99,100,101,102,103,104,105,106,107,108,109,110,111,112,113,114,115,116,117,118,119,120,121,122,123,125]
theorem DP:∀n,n < 256->∀y∈TC,decide (n=y)=decide (lc n=y):=by decide+kernel
theorem DQ{y:Nat}(g:y∈TC)(c:UInt8):c.toNat=y↔lb c=y:=by
 have h:=DP c.toNat c.toNat_lt y g;unfold lb;constructor
 ·intro e;exact qac (by rw[<-h];exact qad e)
 ·intro e;exact qac (by rw[h];exact qad e)
theorem mm(y:UInt8)(g:y.toNat∈TC)(c:UInt8):c=y↔lb c=y.toNat:=by
 rw[<-DQ g c];exact⟨fun e=>by rw[e],fun e=>EN.mp e⟩
theorem F4:∀n,n < 256->CF (bW n)=DK (lc n):=by decide+kernel
theorem F5(c:UInt8):CF c=DK (lb c):=by
 have:=F4 c.toNat c.toNat_lt;simp at this;exact this
theorem F6:∀n,n < 256->(qy (bW n) || lI (bW n))=fg (lc n):=by decide+kernel
theorem F7(c:UInt8): (qy c || lI c)=fg (lb c):=by
 have:=F6 c.toNat c.toNat_lt;simp only[gG]at this;exact this
theorem IS:∀n,n < 256->bZ (bW n)=decide (lc n∈WLET):=by decide+kernel
theorem zy(c:UInt8):bZ c=decide (lb c∈WLET):=by
 have:=IS c.toNat c.toNat_lt;simp only[gG]at this;exact this
theorem F8:∀n,n < 256->aE (bW n)=decide (lc n∈DIG):=by decide+kernel
theorem rz(c:UInt8):aE c=decide (lb c∈DIG):=by
 have:=F8 c.toNat c.toNat_lt;simp only[gG]at this;exact this
theorem K2:∀n,n < 256->(cQ (bW n)).isSome=decide (lc n∈mX):=by decide+kernel
theorem DR(c:UInt8): (cQ c).isSome=decide (lb c∈mX):=by
 have:=K2 c.toNat c.toNat_lt;simp only[gG]at this;exact this
theorem K3:∀n,n < 256->((bW n) == 48 ||(bW n) == 49)=decide (lc n∈qY):=by decide+kernel
theorem HH(c:UInt8): (c == 48 || c == 49)=decide (lb c∈qY):=by
 have:=K3 c.toNat c.toNat_lt;simp only[gG]at this;exact this
theorem oH:∀x∈WLET,x∈TC:=by decide
theorem xR:∀x∈DIG,x∈WLET:=by decide
theorem B4:∀x∈mX,x∈WLET:=by decide
theorem B5:∀x∈qY,x∈WLET:=by decide
theorem zz{c:UInt8}(h:lb c∈TC):lb c=c.toNat:=((DQ h c).mpr rfl).symm
theorem vh:∀ {b:List UInt8},(∀c∈b,lb c∈TC)->L b=b.map aL
 | [],_=>rfl
 |c::r,h=>by
  show lb c::L r=c.toNat::r.map aL;rw[zz (h c af),vh fun x e=>h x (ak _ e)]
theorem dI(b:List UInt8): (L b).length=b.length:=ah _
theorem IT(b:List UInt8)(n:Nat):L (b.drop n)= (L b).drop n:=by unfold L;rw[HY]
theorem pX{p:UInt8->Bool}{q:Nat->Bool}(h:∀c,p c=q (lb c))(b:List UInt8):L (b.takeWhile p)= (L b).takeWhile q:=by
 unfold L;rw[List.takeWhile_map];congr 1;have:p=q∘lb:=funext h;rw[this]
theorem B6{p:UInt8->Bool}{q:Nat->Bool}(h:∀c,p c=q (lb c))(b:List UInt8):L (b.dropWhile p)= (L b).dropWhile q:=by
 unfold L;rw[List.dropWhile_map];congr 1;have:p=q∘lb:=funext h;rw[this]
theorem DS{y:UInt8}(g:y.toNat∈TC)(c:UInt8): (c != y)= (lb c != y.toNat):=by
 by_cases e:c=y
 ·rw[e,zz (by rw[(mm y g y).mp rfl];exact g)];simp
 ·have h:¬lb c=y.toNat:=fun z=>e ((mm y g c).mpr z);rw[bne_iff_ne.mpr e,bne_iff_ne.mpr h]
theorem xS(b:List UInt8):∀c∈L b,c < 128:=fun c e=>by
 obtain⟨x,_,rfl⟩:=bA.mp e;exact vg _
theorem wg:∀ {s b:List UInt8},(∀y∈s,y.toNat∈TC)->s.isPrefixOf b=TL.pre (s.map aL) (L b)
 | [],b,_=>by simp[TL.pre]
 |y::s, [],_=>by
  show false=_;rw[show L []= []from rfl,TL.pre_nil (by simp)]
 |y::s,c::b,h=>by
  have j:=wg (s:=s) (b:=b) fun z p=>h z (ak _ p);have g:=h y af;show(y == c&&s.isPrefixOf b)= (((lb c::L b).take (s.map aL).length.succ) == y.toNat::s.map aL);rw[cv,j];unfold TL.pre;by_cases e:c=y
  ·subst e;rw[zz (by rw[(mm c g c).mp rfl];exact g)];simp
  ·have r:¬lb c=y.toNat:=fun z=>e ((mm y g c).mpr z);have q: (y == c)=false:=by simpa using fun z=>e z.symm
   rw[q,m6];simp[r]
def un(l:List Nat):List UInt8:=l.map bW
theorem wh(b:List UInt8):un (b.map aL)=b:=by
 unfold un;rw[bV];have: (bW∘aL)=id:=by funext c;simp
 rw[this,m8]
def fk:Tk->az
 | .word l=> .word (un l)
 | .num z=> .num z
 | .bits l=> .bits ((un l).map fun c=>c == 49)
 | .octs l=> .hex ((((un l).mapM cQ).bind dh).getD [])
 | .sign l=> .sign (un l)
theorem sJ{x:Nat}{l:List Nat}(e:∀c∈x::l,c < 128)(g:DK x=true):toks (x::l)=toks l:=by
 rw[<-iT e,fv,qab g,lQ,dE,iT fun c h=>e c (ak _ h)]
theorem vi{p:Nat->Bool} :∀ {l:List Nat},(∀x∈l,p x=true)->l.dropWhile p= []
 | [],_=>rfl
 |c::r,h=>by rw[uF (h c af),vi fun x e=>h x (ak _ e)]
theorem B7(l:List Nat)(y:∀c∈l,c < 128):toks (l.drop (lB l))=toks (l.dropWhile (·!= 10)):=by
 unfold lB;have j:l.takeWhile (·!= 10)++l.dropWhile (·!= 10)=l:=cZ;have u:l.drop (l.takeWhile (·!= 10)).length=l.dropWhile (·!= 10):=by
  conv=>lhs;arg 2;rw[<-j]
  rw[jq]
 split
 ·rename_i h;rw[<-dn,u];cases e:l.dropWhile (·!= 10)with
  |nil=>
   rw[e,aG]at j;have B:=bw.mp (ez (p:=(·!= 10)) (l:=l)) 10 (by rw[j];exact h);simp at B
  |cons x r=>
   have g:=eT (p:=(·!= 10)) (l:=l) (by rw[e];simp);simp[e]at g;subst g;rw[dE,eU,sJ (fun c q=>y c ?_) (by decide)];have: (10::r)=l.drop (l.takeWhile (·!= 10)).length:=by rw[u,e]
   rw[this]at q;exact bM q
 ·rename_i h;rw[EO];have:l.dropWhile (·!= 10)= []:=by
   exact vi fun x v=>by simp;intro z;subst z;exact h v
  rw[this]
theorem xT{l:List Nat}{x:Nat}(g:∀c∈x::l,c < 128)(j:DK x=false)(h:TL.pre [45,45] (x::l)=true):toks (x::l)=toks (l.dropWhile (·!= 10)):=by
 have e:x=45:=by
  cases l with
  |nil=>simp[TL.pre]at h
  |cons y r=>simp[TL.pre]at h;exact h.1
 subst e;rw[<-iT g,fv,qaa (by rw[j];simp),qab h,<-dn,
  iT (fun c p=>g c (bM p)),B7 _ g,uF (by decide)]
theorem AB:∀(b:List UInt8) (a:Nat),b.foldl (fun n c=>10*n+ (c.toNat - 48)) a= (b.map aL).foldl (fun acc c=>acc*10+ (c - 48)) a
 | [],_=>rfl
 |c::r,a=>by
  rw[EY,bg,EY,AB r,Nat.mul_comm]
theorem vj(b:List UInt8):m9 b=PySem.NumText.digitsVal (b.map aL):=AB b 0
theorem jW{f:UInt8->Option Nat} :∀ {b:List UInt8},(∀c∈b,(f c).isSome=true)->∃l,b.mapM f=some l/\l.length=b.length
 | [],_=>⟨[],rfl,rfl⟩
 |c::r,h=>by
  obtain⟨l,p,j⟩:=jW (b:=r) fun x g=>h x (ak _ g);obtain⟨y,e⟩:=dj.mp (h c af);exact⟨y::l,by rw[m3,e,p];rfl,by simp[j]⟩
theorem vk{f:UInt8->Option Nat} :∀ {b:List UInt8},(∃c∈b,f c=none)->b.mapM f=none
 | [],h=>by obtain⟨c,j,_⟩:=h;simp at j
 |c::r,h=>by
  rw[m3];cases e:f c with
  |none=>rfl
  |some y=>
   obtain⟨x,g,ex⟩:=h;rcases am.mp g with z|z
   ·rw[z,e]at ex;cases ex
   ·rw[vk ⟨x,z,ex⟩];rfl
theorem zA:∀(n:Nat) (l:List Nat),l.length=n->(dh l).isSome=decide (n % 2=0):=by
 intro n;induction n using fj with
 |ind n ih=>
  intro l e;match l with
  | []=>subst e;rfl
  | [a]=>subst e;rfl
  |a::b::r=>
   rw[dh,dy,ih r.length (by rw[<-e];simp;lia) r rfl];have:n=r.length+2:=by rw[<-e];rfl
   rw[this];by_cases h:r.length % 2=0
   ·rw[qad h,qad (by lia)]
   ·rw[decide_eq_false h,decide_eq_false (by lia)]
def kQ(k:Nat)(s:List UInt8)(e:List UInt8):Option (List az):=match e with
 |39::66::q=>if(s.all fun c=>c == 48 || c == 49)=true then(cq k q).map fun l=> .bits (s.map fun c=>c == 49)::l else none
 |39::72::q=>(match(s.mapM cQ).bind dh with
  |some h=>(cq k q).map fun l=> .hex h::l
  |none=>none)
 |_=>none
theorem zB(k:Nat)(s q:List UInt8):kQ k s (39::66::q)=if(s.all fun c=>c == 48 || c == 49)=true then(cq k q).map fun l=> .bits (s.map fun c=>c == 49)::l else none:=rfl
theorem zC(k:Nat)(s q:List UInt8):kQ k s (39::72::q)=match(s.mapM cQ).bind dh with
  |some h=>(cq k q).map fun l=> .hex h::l
  |none=>none:=rfl
theorem zD(k:Nat)(s q:List UInt8){y:UInt8}(g:¬y=66)(e:¬y=72):kQ k s (39::y::q)=none:=by
 unfold kQ;split
 ·rename_i z;injection z with z1 z;injection z with z2 z;exact absurd z2 g
 ·rename_i z;injection z with z1 z;injection z with z2 z;exact absurd z2 e
 ·rfl
theorem xU(k:Nat)(s:List UInt8):kQ k s [39]=none:=rfl
theorem xV(k:Nat)(s:List UInt8):kQ k s []=none:=rfl
theorem zE(k:Nat):cq (k+1) []=some []:=by rw[cq]
theorem xW(k:Nat)(c:UInt8)(r:List UInt8):cq (k+1) (c::r)=
   if CF c=true then cq k r
   else if(bi "--").isPrefixOf (c::r)=true then cq k (r.dropWhile fun c=>c != 10)
   else if qy c=true\/lI c=true then
    (if((c::r).takeWhile bZ).getLast?=some 45\/64 < ((c::r).takeWhile bZ).length then none else(cq k ((c::r).drop ((c::r).takeWhile bZ).length)).map fun l=> .word ((c::r).takeWhile bZ)::l)
   else if aE c=true\/c=45 then
    (if(if c=45 then r else(c::r)).takeWhile aE= []\/20 < ((if c=45 then r else(c::r)).takeWhile aE).length\/(1 < ((if c=45 then r else(c::r)).takeWhile aE).length/\((if c=45 then r else(c::r)).takeWhile aE).head?=some 48)\/(c=45/\(if c=45 then r else(c::r)).takeWhile aE= [48])then none
     else(cq k ((c::r).drop (((if c=45 then r else(c::r)).takeWhile aE).length+ (if c=45 then 1 else 0)))).map fun l=> .num (if c=45 then -((m9 ((if c=45 then r else(c::r)).takeWhile aE):Nat):Int)else((m9 ((if c=45 then r else(c::r)).takeWhile aE):Nat):Int))::l)
   else if c=39 then
    kQ k (r.takeWhile fun c=>c != 39) (r.drop (r.takeWhile fun c=>c != 39).length)
   else match ph.find? fun s=>s.isPrefixOf (c::r)with
    |some s=>(cq k ((c::r).drop s.length)).map fun l=> .sign s::l
    |none=>none:=by
 rw[cq];rfl
theorem zF(p:UInt8->Bool)(l:List UInt8):l.drop (l.takeWhile p).length=l.dropWhile p:=by
 have e:l.takeWhile p++l.dropWhile p=l:=cZ;conv=>lhs;arg 2;rw[<-e]
 rw[jq]
theorem K4{x:Nat}{l:List Nat}(e:DK x=false)(h:TL.pre [45,45] (x::l)=false):d8 (x::l)=0:=by
 rw[fv,qaa (by rw[e];simp),qaa (by rw[h];simp)]
theorem vl{p:UInt8->Bool}{l:List UInt8} :∀c∈l.takeWhile p,p c=true:=fun c e=>bw.mp (ez (p:=p) (l:=l)) c e
theorem zG(o:Option (List Tk))(t:Tk): (o.map (t::·)).map (iB fk)= (o.map (iB fk)).map (fk t::·):=by cases o<;>rfl
theorem xX{w:List UInt8}(e:w≠ [])(g:L w=w.map aL): (L w).drop ((L w).length - 1)= [45]↔w.getLast?=some 45:=by
 rcases List.eq_nil_or_concat w with h| ⟨xs,x,h⟩
 ·exact absurd h e
 subst h;rw[g];have p: (iB aL (xs.concat x)).drop ((iB aL (xs.concat x)).length - 1)= [x.toNat]:=by
  simp
 have j: (xs.concat x).getLast?=some x:=by simp
 rw[p,j];constructor
 ·intro h;have:x.toNat=45:=by simpa using h
  rw[show x=45 from EN.mp this]
 ·intro h;have:x=45:=by simpa using h
  rw[this];rfl
theorem mM{k:Nat}{b:List UInt8}{n:Nat}(q:∀h:List UInt8,h.length < k->cq k h= (toks (L h)).map (iB fk))(x:b.length < k+1)(u:d8 (L b)=0){c:UInt8}{r:List UInt8}(e:b=c::r)
  (p:dM (L b)=some n) {t:Tk} (v:eL ((L b).take n)=some t): (toks (L b)).map (iB fk)= (cq k (b.drop n)).map (fk t::·):=by
 have j:=gh (xS b) p;have g: (b.drop n).length < k:=by rw[aF];have:0 < b.length:=by { rw[e];simp };lia
 have:=pW (xS b) u (c:=lb c) (r:=L r) (by rw[e];rfl);rw[p]at this;dsimp only at this;rw[v]at this;dsimp only at this;rw[this,zG,q (b.drop n) g,IT]
theorem hP{b:List UInt8}{c:UInt8}{r:List UInt8}(g:d8 (L b)=0)(e:b=c::r)(h:dM (L b)=none\/∃n,dM (L b)=some n/\eL ((L b).take n)=none): (toks (L b)).map (iB fk)=none:=by
 have:=pW (xS b) g (c:=lb c) (r:=L r) (by rw[e];rfl);rcases h with h| ⟨n,h,h2⟩
 ·rw[h]at this;rw[this];rfl
 ·rw[h]at this;dsimp only at this;rw[h2]at this;rw[this];rfl
theorem sK{e:Type}{p q:e->Bool} :∀ {l:List e},(∀x∈l,p x=q x)->l.find? p=l.find? q
 | [],_=>rfl
 |a::r,h=>by rw[dH,dH,h a af,sK fun x g=>h x (ak _ g)]
theorem IU:bi "--"= [45,45]:=by decide+kernel
theorem pY:∀(k:Nat) (b:List UInt8),b.length < k->cq k b= (toks (L b)).map (iB fk):=by
 intro k;induction k with
 |zero=>intro b h;lia
 |succ k ih=>
  intro b hk;match b with
  | []=>rw[zE,show L []= []from rfl,xQ];rfl
  |c::r=>
   have hk':r.length < k:=by simp at hk;lia
   have O:L (c::r)=lb c::L r:=rfl;rw[xW,F5];by_cases hb:DK (lb c)=true
   ·rw[qab hb,ih r hk',O,sJ (by rw[<-O];exact xS _) hb]
   rw[qaa hb,IU,wg (by decide)];have hb':DK (lb c)=false:=by simpa using hb
   show(if TL.pre [45,45] (L (c::r))=true then _ else _)=_;by_cases hd:TL.pre [45,45] (L (c::r))=true
   ·rw[qab hd,O,xT (x:=lb c) (l:=L r) (fun x C=>xS (c::r) x C) hb' hd,ih _ (bK (List.dropWhile_sublist _).length_le hk'),B6 (p:=fun c=>c != 10) (q:=fun x=>x != 10) (DS (y:=10) (by decide))]
   rw[qaa hd];have hd':TL.pre [45,45] (lb c::L r)=false:=by rw[<-O];simpa using hd
   have E:d8 (L (c::r))=0:=K4 hb' hd';have ha: (qy c=true\/lI c=true)↔fg (lb c)=true:=by rw[<-F7,tX]
   by_cases u:fg (lb c)=true
   ·rw[qab (ha.mpr u)];have hwc:bZ c=true:=by rw[zy];exact sG _ (vg _) u
    have hwe: (c::r).takeWhile bZ=c::r.takeWhile bZ:=dB hwc;have hLw:L ((c::r).takeWhile bZ)= (L (c::r)).takeWhile fun c=>decide (c∈WLET):=pX zy _;have D:dM (L (c::r))=some ((c::r).takeWhile bZ).length:=by
     rw[O,dM,qab u,<-O,<-hLw,dI]
    have I: (L (c::r)).take ((c::r).takeWhile bZ).length=L ((c::r).takeWhile bZ):=by
     rw[hLw,<-kP,<-hLw,dI]
    have ho:L ((c::r).takeWhile bZ)= ((c::r).takeWhile bZ).map aL:=vh fun x C=>oH _ (qac (by rw[<-zy];exact vl x C));have J:eL (L ((c::r).takeWhile bZ))=jd (L ((c::r).takeWhile bZ)):=by
     rw[hwe];show eL (lb c::L _)=_;rw[eL,qab u];rfl
    have hne: (c::r).takeWhile bZ≠ []:=by rw[hwe];simp
    by_cases X: ((c::r).takeWhile bZ).getLast?=some 45\/64 < ((c::r).takeWhile bZ).length
    ·rw[qab X,hP E rfl (.inr ⟨_,D,by rw[I,J,jd,qab (by rw[xX hne ho,dI];exact X.symm)]⟩)]
    ·rw[qaa X,mM ih hk E rfl D (t:= .word (L ((c::r).takeWhile bZ))) (by rw[I,J,jd,qaa (by rw[xX hne ho,dI];exact fun z=>X z.symm)])];show _= (cq k _).map (fT (un _)::·);rw[ho,wh]
   rw[qaa (fun z=>u (ha.mp z))];have a9:fg (lb c)=false:=by simpa using u
   have h45:c=45↔lb c=45:=mm 45 (by decide) c;have hn: (aE c=true\/c=45)↔sC (lb c)=true:=by
    unfold sC;rw[rz,h45,tX,decide_eq_true_iff,decide_eq_true_iff,or_comm]
   by_cases j:sC (lb c)=true
   ·rw[qab (hn.mpr j)];have hLd:L (r.takeWhile aE)= (L r).takeWhile fun c=>decide (c∈DIG):=pX rz _;have D:dM (L (c::r))=some (1+ (r.takeWhile aE).length):=by
     rw[O,dM,qaa u,qab j,<-hLd,dI]
    have I: (L (c::r)).take (1+ (r.takeWhile aE).length)=lb c::L (r.takeWhile aE):=by
     rw[O,lQ,cv];congr 1;rw[hLd,<-kP,<-hLd,dI]
    have J:eL (lb c::L (r.takeWhile aE))=j4 (lb c::L (r.takeWhile aE)):=by rw[eL,qaa u,qab j]
    have hod:∀x∈r.takeWhile aE,lb x∈TC:=fun x C=>oH _ (xR _ (qac (by rw[<-rz];exact vl x C)));by_cases X:c=45
    ·have hlc:lb c=45:=h45.mp X;simp only[qab X];have F:TL.pre [45] (lb c::L (r.takeWhile aE))=true:=by rw[hlc];exact TL.KQ [45] _
     have hD:fQ (lb c::L (r.takeWhile aE))=L (r.takeWhile aE):=by unfold fQ;rw[qab F];rfl
     have Z:TL.pre [48] (L (r.takeWhile aE))=true↔(r.takeWhile aE).head?=some 48:=by
      cases hh:r.takeWhile aE with
      |nil=>simp[L,TL.pre]
      |cons y q=>
       show TL.pre [48] (lb y::L q)=true↔_;simp only[TL.pre,ae,iL,cv,Hl,List.head?_cons,Option.some.injEq,mm 48 (by decide) y];constructor
       ·intro z;have:=eq_of_beq z;simpa using this
       ·intro z;rw[z];rfl
     have G: (r.takeWhile aE= []\/20 < (r.takeWhile aE).length\/(1 < (r.takeWhile aE).length/\(r.takeWhile aE).head?=some 48)\/(c=45/\r.takeWhile aE= [48]))↔
       (((r.takeWhile aE).length < 1\/20 < (r.takeWhile aE).length)\/(r.takeWhile aE).head?=some 48):=by
      cases hh:r.takeWhile aE with
      |nil=>simp
      |cons y q=>
       cases q with
       |nil=>simp[X]
       |cons z q=>simp
     by_cases g:r.takeWhile aE= []\/20 < (r.takeWhile aE).length\/(1 < (r.takeWhile aE).length/\(r.takeWhile aE).head?=some 48)\/(c=45/\r.takeWhile aE= [48])
     ·rw[qab g,hP E rfl (.inr ⟨_,D,?_⟩)];rw[I,J,j4,hD,dI];rcases G.mp g with h1|h1
      ·rw[qab h1]
      ·by_cases h2: (r.takeWhile aE).length < 1\/20 < (r.takeWhile aE).length
       ·rw[qab h2]
       ·rw[qaa h2,qab ⟨Z.mpr h1,fun z=>by rw[hlc]at z;cases z⟩]
     ·have M:=fun z=>g (G.mpr z);rw[qaa g,mM ih hk E rfl D (t:= .num (-((m9 (r.takeWhile aE):Nat):Int))) ?_]
      ·rw[lQ];rfl
      ·rw[I,J,j4,hD,dI,qaa (fun z=>M (.inl z)),qaa (fun z=>M (.inr (Z.mp z.1))),qab F,vj,vh hod]
    ·have hlc:¬lb c=45:=fun z=>X (h45.mpr z);simp only[qaa X];have hdc:aE c=true:=(hn.mpr j).resolve_right X;have hde: (c::r).takeWhile aE=c::r.takeWhile aE:=dB hdc;rw[hde];have F:TL.pre [45] (lb c::L (r.takeWhile aE))=false:=TL.HE [] _ hlc;have hD:fQ (lb c::L (r.takeWhile aE))=L (c::r.takeWhile aE):=by unfold fQ;rw[F];rfl
     have Z:TL.pre [48] (L (c::r.takeWhile aE))=true↔c=48:=by
      show TL.pre [48] (lb c::L _)=true↔_;rw[mm 48 (by decide) c];simp only[TL.pre,ae,iL,cv,Hl];constructor
      ·intro z;have:=eq_of_beq z;simpa using this
      ·intro z;rw[z];rfl
     have hpz: (lb c::L (r.takeWhile aE)≠ [48])↔¬(c=48/\r.takeWhile aE= []):=by
      rw[mm 48 (by decide) c];constructor
      ·intro z ⟨z1,z2⟩;apply z;rw[z1,z2];rfl
      ·intro z z1;injection z1 with z1 z2
       exact z ⟨z1,iY.mp z2⟩
     have a7:∀x∈c::r.takeWhile aE,lb x∈TC:=fun x C=>by
      rcases am.mp C with z|z
      ·rw[z];exact oH _ (xR _ (qac (by rw[<-rz];exact hdc)))
      ·exact hod x z
     have G: (c::r.takeWhile aE= []\/20 < (c::r.takeWhile aE).length\/(1 < (c::r.takeWhile aE).length/\(c::r.takeWhile aE).head?=some 48)\/(c=45/\c::r.takeWhile aE= [48]))↔
       (((c::r.takeWhile aE).length < 1\/20 < (c::r.takeWhile aE).length)\/(c=48/\¬(c=48/\r.takeWhile aE= []))):=by
      cases hh:r.takeWhile aE with
      |nil=>simp[X]
      |cons z q=>simp[X]
     by_cases g:c::r.takeWhile aE= []\/20 < (c::r.takeWhile aE).length\/(1 < (c::r.takeWhile aE).length/\(c::r.takeWhile aE).head?=some 48)\/(c=45/\c::r.takeWhile aE= [48])
     ·rw[qab g,hP E rfl (.inr ⟨_,D,?_⟩)];rw[I,J,j4,hD,dI];rcases G.mp g with h1|h1
      ·rw[qab h1]
      ·by_cases h2: (c::r.takeWhile aE).length < 1\/20 < (c::r.takeWhile aE).length
       ·rw[qab h2]
       ·rw[qaa h2,qab ⟨Z.mpr h1.1,hpz.mpr h1.2⟩]
     ·have M:=fun z=>g (G.mpr z);rw[qaa g,mM ih hk E rfl D (t:= .num ((m9 (c::r.takeWhile aE):Nat):Int)) ?_]
      ·rw[show 1+ (r.takeWhile aE).length= (c::r.takeWhile aE).length+0 by simp;lia];rfl
      ·rw[I,J,j4,hD,dI,qaa (fun z=>M (.inl z)),qaa (fun z=>M (.inr ⟨Z.mp z.1,hpz.mp z.2⟩)),qaa (by rw[F];simp),vj,vh a7]
   rw[qaa (fun z=>j (hn.mp z))];have h39:c=39↔lb c=39:=mm 39 (by decide) c;by_cases hq:c=39
   ·rw[qab hq];have U:lb c=39:=h39.mp hq;have a4:∀x:UInt8,(x != 39)= (lb x != 39):=DS (y:=39) (by decide);have hLs:L (r.takeWhile fun c=>c != 39)= (L r).takeWhile (·!= 39):=pX a4 _;have hdr:r.drop (r.takeWhile fun c=>c != 39).length=r.dropWhile fun c=>c != 39:=zF _ _;have Y:r.takeWhile (fun c=>c != 39)++r.dropWhile (fun c=>c != 39)=r:=cZ;rw[hdr];generalize hS: (r.takeWhile fun c=>c != 39)=S at*;cases hR:r.dropWhile (fun c=>c != 39)with
    |nil=>
     rw[hR,aG]at Y;have M:¬39∈L r:=fun hm=>by
      rw[<-Y,hLs]at hm;have:=bw.mp (ez (p:=(·!= 39)) (l:=L r)) 39 hm;simp at this
     rw[hP E rfl (.inl (by rw[O,dM,qaa u,qaa j,qab U,qaa M])),xV]
    |cons x q=>
     have C:x=39:=by
      have h8':=eT (p:=fun c:UInt8=>c != 39) (l:=r) (by rw[hR];simp);simpa[hR]using h8'
     subst C;rw[hR]at Y;have hLr:L r=L S++39::L q:=by rw[<-Y];unfold L;rw[ay,bg];rfl
     have hm:39∈L r:=by rw[hLr];simp
     have D:dM (L (c::r))=some (S.length+3):=by
      rw[O,dM,qaa u,qaa j,qab U,qab hm,<-hLs,dI]
     have hbe:c::r=39::(S++39::q):=by rw[hq,Y]
     cases q with
     |nil=>
      have a3:eL ((L (c::r)).take (S.length+3))=none:=by
       cases et:eL ((L (c::r)).take (S.length+3))with
       |none=>rfl
       |some t=>
        have:=DO D et;rw[O,hLr]at this;simp[L]at this
        lia
      rw[hP E rfl (.inr ⟨_,D,a3⟩),xU]
     |cons y q=>
      have hLb:L (c::r)=39::(L S++(39::lb y::L q)):=by rw[O,U,hLr];rfl
      have I: (L (c::r)).take (S.length+3)=39::(L S++ [39,lb y]):=by
       rw[hLb,show S.length+3= (S.length+2)+1 by lia,cv,List.take_append,dI,ej (by rw[dI];lia),show S.length+2 - S.length=2 by lia];rfl
      have J:eL (39::(L S++ [39,lb y]))=iD (39::(L S++ [39,lb y])):=by rw[eL,qaa (by decide),qaa (by decide),qab rfl]
      have a0: (39::(L S++ [39,lb y])).length=S.length+3:=by simp[dI]
      have W: (39::(L S++ [39,lb y])).drop ((39::(L S++ [39,lb y])).length - 2)= [39,lb y]:=by
       rw[a0,show S.length+3 - 2=S.length+1 by lia,dE,<-dI S,jq]
      have Q:gH (39::(L S++ [39,lb y]))=L S:=by
       unfold gH;rw[a0,show S.length+3 - 3=S.length by lia,dE,eU,<-dI S,Hh]
      have hbd: (c::r).drop (S.length+3)=q:=by
       rw[hbe,show S.length+3= (S.length+2)+1 by lia,dE,List.drop_append,cP (by lia:S.length<=S.length+2),show S.length+2 - S.length=2 by lia];rfl
      have h66:y=66↔lb y=66:=mm 66 (by decide) y;have h72:y=72↔lb y=72:=mm 72 (by decide) y;have a2: (S.all fun c=>c == 48 || c == 49)= (L S).all fun c=>decide (c∈qY):=by
       unfold L;rw[lG];congr 1;funext x;exact HH x
      by_cases hy:y=66
      ·subst hy;rw[zB];by_cases B: (S.all fun c=>c == 48 || c == 49)=true
       ·rw[qab B,mM ih hk E rfl D (t:= .bits (L S)) (by rw[I,J,iD,W,Q,qab ⟨by rw[<-h66.mp rfl],by rw[<-a2];exact B⟩]),hbd];show _= (cq k q).map (Ql51.Tok.bits ((un (L S)).map _)::·);rw[vh (fun x C=>oH _ (B5 _ (qac (by rw[<-HH];exact bw.mp B x C)))),wh]
       ·rw[qaa B,hP E rfl (.inr ⟨_,D,?_⟩)];rw[I,J,iD,W,Q,qaa (fun z=>B (by rw[a2];exact z.2)),qaa (fun z=>?_)];have z1:=z.1;rw[h66.mp rfl]at z1;simp at z1
      ·have hy':¬lb y=66:=fun z=>hy (h66.mpr z);have no1:¬([39,lb y]= [39,66]/\(L S).all (fun c=>decide (c∈qY))=true):=fun z=>hy' (by simpa using z.1);by_cases hy2:y=72
       ·subst hy2;rw[zC];have a1: (∀x∈S,(cQ x).isSome=true)↔(L S).all (fun c=>decide (c∈mX))=true:=by
         unfold L;rw[lG,bw];constructor
         ·intro z x C;show decide (lb x∈mX)=true;rw[<-DR];exact z x C
         ·intro z x C;rw[DR];exact z x C
        by_cases hh:∀x∈S,(cQ x).isSome=true
        ·obtain⟨l,hl,hll⟩:=jW hh;rw[hl];have R:=zA l.length l rfl;rw[hll]at R;show(match dh l with|some h=>_|none=>_)=_;have ho:L S=S.map aL:=vh fun x C=>oH _ (B4 _ (qac (by rw[<-DR];exact hh x C)));cases hp:dh l with
         |none=>
          rw[hp]at R;have a6:¬S.length % 2=0:=fun z=>by rw[qad z]at R;cases R
          rw[hP E rfl (.inr ⟨_,D,?_⟩)];rw[I,J,iD,W,Q,qaa no1,qaa (fun z=>a6 (by rw[<-dI S];exact z.2.1))]
         |some h=>
          rw[hp]at R;have hev:S.length % 2=0:=qac R.symm;dsimp only;rw[mM ih hk E rfl D (t:= .octs (L S)) (by rw[I,J,iD,W,Q,qaa no1,qab ⟨by rw[<-h72.mp rfl],by rw[dI];exact hev,a1.mp hh⟩]),hbd];show _= (cq k q).map (EQ ((((un (L S)).mapM cQ).bind dh).getD [])::·);rw[ho,wh,hl];show _= (cq k q).map (EQ ((dh l).getD [])::·);rw[hp];rfl
        ·have hex:∃x∈S,cQ x=none:=by
          apply bz;intro z;apply hh;intro x C;cases e:cQ x with
          |none=>exact absurd ⟨x,C,e⟩ z
          |some v=>rfl
         rw[vk hex];show none=_;rw[hP E rfl (.inr ⟨_,D,?_⟩)];rw[I,J,iD,W,Q,qaa no1,qaa (fun z=>hh (a1.mpr z.2.2))]
       ·have a5:¬lb y=72:=fun z=>hy2 (h72.mpr z);rw[zD k S q hy hy2,hP E rfl (.inr ⟨_,D,?_⟩)];rw[I,J,iD,W,Q,qaa no1,qaa (fun z=>a5 (by simpa using z.1))]
   rw[qaa hq];have U:¬lb c=39:=fun z=>hq (h39.mpr z);have hsg:SGN.find? (fun s=>TL.pre s (L (c::r)))= (ph.find? fun s=>s.isPrefixOf (c::r)).map (iB aL):=by
    rw[show SGN=ph.map (iB aL) by decide+kernel,List.find?_map];congr 1;apply sK;intro s E;show TL.pre (s.map aL) _=_;rw[wg];have:∀s∈ph,∀y∈s,y.toNat∈TC:=by decide+kernel
    exact this s E
   have hE0:dM (L (c::r))=ga (L (c::r)):=by rw[O,dM,qaa u,qaa j,qaa U]
   cases hf:ph.find? (fun s=>s.isPrefixOf (c::r))with
   |none=>
    dsimp only;rw[hP E rfl (.inl (by rw[hE0,ga,hsg,hf];rfl))]
   |some sg=>
    dsimp only;have D:dM (L (c::r))=some sg.length:=by rw[hE0,ga,hsg,hf];simp
    have hpr:TL.pre (sg.map aL) (L (c::r))=true:=by
     have:=lO (p:=fun s=>TL.pre s (L (c::r))) (l:=SGN) (a:=sg.map aL) (by rw[hsg,hf];rfl);exact this
    have I: (L (c::r)).take sg.length=sg.map aL:=by
     have:=eq_of_beq hpr;rw[ah]at this;exact this
    have a8:=gh (xS _) D;have J:eL (sg.map aL)=some (.sign (sg.map aL)):=by
     have e:sg.map aL=lb c::(L r).take (sg.length - 1):=by
      rw[<-I,O,show sg.length= (sg.length - 1)+1 by lia,cv];rfl
     rw[e,eL,qaa u,qaa j,qaa U]
    rw[mM ih hk E rfl D (t:= .sign (sg.map aL)) (by rw[I,J])];show _= (cq k _).map (jt (un _)::·);rw[wh]
end Sp
namespace Th
open PySem L2
section
variable {P:aZ}{w:bB}{K:PySem.W.Frag}{mg:aQ->Option ag}{base:bH}{WT:aa}
def F9(e:aa)(o:Option (List Tk))(H:Hp)(Q:VK)(E:XK):Prop:=match o with
 |some ts=>∀(p:aa) (as:List aa) (H':Hp),H' p=some (.lst (as.map V.ref))->TksAt H' as ts->(∀b o,H b=some o->H' b=some o)->H p=none->Q (.ref p) H'
 |none=>∀H',E (.ref e) none H'
def nW(K:PySem.W.Frag)(e:aa):Sp:=fun vs H Q E=>CL fun(a:aa) (ns:List Nat)=>vs= [.ref a]/\SqL K H a (ns.map fun(n:Nat)=>V.int (n:Int))/\ns.length<=65536/\F9 e (toks (ns.map lc)) H Q E
theorem scTokensOf:bf ["codes","text","tokens","place","end"] ["codes"] (aA pL):=fP
theorem zH(l:List Nat):TL.DE [] (l.map fun c=> [c])=l:=by
 induction l with
 |nil=>rfl
 |cons c r ih=>
  cases r with
  |nil=>rfl
  |cons d r=>
   show [c]++([]++TL.DE [] ((d::r).map fun c=> [c]))=c::d::r;rw[ih];rfl
theorem B8(l:List Nat):Txt.join (ai "") (l.map fun c=>(⟨#[c]⟩:aQ))= ⟨l.toArray⟩:=by
 apply TL.ext_tl;rw[TL.join_eq,TL.FS,bV];show TL.DE [] (l.map fun c=> [c])=_;rw[zH]
def sL(K:PySem.W.Frag):Sp:=fun vs H Q _=>CL fun(a:aa) (ns:List Nat)=>vs= [.ref a]/\SqL K H a (ns.map fun(n:Nat)=>V.int (n:Int))/\ns.length<=65536/\∀H',(∀b o,H b=some o->H' b=some o)->Q (sv (ns.map lc)) H'
theorem scTextOf:bf ["codes","code"] ["codes"] (aA rx):=fP
theorem zI(D:Df K mg "text_of" rx ["codes"])(I:Ok P w K mg base fh 1 "letter_of" ["code"] spLetterOf):Ok P w K mg base fh 2 "text_of" ["codes"] (sL K):=by
 refine D.ok scTextOf (fun f G A outer s H vs Q E z h=>?_)
 ·obtain⟨a,ns,rfl,v,C,k⟩:=h;refine⟨_,aq (bb (Au aX (xz (own:= [("code",1)]) rfl scTextOf.nd (rp (pv 0)) (l9 (by show zk ["codes","code"] (aA rx) _ _=true;decide+kernel)) (fun _ _ _ _ _=>jv (i:=1) scTextOf.nd rfl (Or.inl rfl)) (fun _ _ _ _ _=>oE)
    (fun _ _ _ _ _=>cy I z cD (ac (pv 1) ao))))),?_⟩
  refine⟨⟨_,rfl⟩,_,rfl,a,rfl,⟨_,v⟩,fun d hd=>?_⟩;refine vW (xs:=ns.map fun(n:Nat)=>V.int (n:Int)) (Qd:=fun H'=>_) (fun i H'=>(∀b o,H b=some o->H' b=some o)/\H' d=some (.lst (((ns.take i).map fun n=>(⟨#[lc n]⟩:aQ)).map V.str))) ⟨fun b o e=>by rw[aY (br e hd)];exact e,by rw[aU];rfl⟩
   (fun i H' _ p=>Same.seq (fun b o e=>p.1 b o e) v) (fun i x H' j p=>?_) (fun H' p=>?_)
  ·obtain⟨q,g⟩:=p;rw[bp]at j;obtain⟨n,B,rfl⟩:∃n,ns[i]? =some n/\V.int (n:Int)=x:=by
    cases e:ns[i]? with
    |none=>rw[e]at j;cases j
    |some y=>rw[e]at j;exact⟨y,rfl,aB j⟩
   refine⟨rfl,sD ?_⟩;refine⟨_,rfl,n,rfl,_,g,by simp;exact bK (cn (rJ _ _) C) (by decide),fun b o e=>?_,?_⟩
   ·by_cases u:b=d
    ·subst u;rw[hd]at e;cases e
    ·rw[aY u];exact q b o e
   ·rw[aU,gJ,B];simp
  ·obtain⟨q,g⟩:=p;rw[ah,eV]at g;refine⟨_,d,ns.map fun n=>(⟨#[lc n]⟩:aQ),rfl,rfl, .inl (SqL.of g),?_,?_⟩
   ·rw[bV];have F:∀l:List Nat,(l.map ((fun x:aQ=>x.length)∘fun n=>(⟨#[lc n]⟩:aQ))).sum=l.length:=fun l=>by
     induction l with
     |nil=>rfl
     |cons c r ih=>rw[bg,eN,ih,ae];show 1+r.length=_;lia
    rw[F,ah,show(ai "").length=0 from rfl,Nat.mul_zero]
    lia
   rw[show(ns.map fun n=>(⟨#[lc n]⟩:aQ))= (ns.map lc).map (fun c=>(⟨#[c]⟩:aQ)) by rw[bV];rfl,B8];exact k H' q
theorem wj(D:Df K mg "tokens_of" pL ["codes"])(T:Txt K mg WT)(GX:Ok P w K mg base fh 2 "text_of" ["codes"] (sL K))(GS:Ok P w K mg base fh 2 "skip_blanks" ["text","start"] spSkip)
  (GE:Ok P w K mg base (cE P w) 2 "token_end" ["text","start"] (sF WT)) (GT:Ok P w K mg base (cE P w) 3 "token_of" ["piece"] (vf WT)):Ok P w K mg base (cE P w) 4 "tokens_of" ["codes"] (nW K WT):=by
 refine D.okX scTokensOf (fun f cdv A outer s H vs Q E hr h=>?_)
 ·obtain⟨a,ns,rfl,hS,hl,k⟩:=h;have x:=hr.mono (show 2<=3 by decide);refine⟨_,aj (bR (i:=1) scTokensOf.nd rfl (Or.inl rfl) (cy GX x cD (ac (pv 0) ao)))
   (aj (bR (i:=2) scTokensOf.nd rfl (Or.inl rfl) (iq ao))
   (aj (bR (i:=3) scTokensOf.nd rfl (Or.inl rfl) (cy GS x cD (ac (pv 1) (ac cw ao))))
   (aj (ic ma (bo lu (pv 3) (cJ c8 (by rfl) T.len PySem.boot_len (ac (pv 1) ao)) (bE _))
    (aj (bR (i:=4) scTokensOf.nd rfl (Or.inl rfl) (cy GE x aP (ac (pv 1) (ac (pv 3) ao))))
    (aj (cb (lv PySem.F.plainAttrs_list PySem.F.slot_list_append PySem.F.type_list_append gk (pv 2) (ac (cy GT hr aP (ac (sh zl (pv 1) (oB (pv 3)) (oB (pv 4))) ao)) ao)))
    (aq (bR (i:=3) scTokensOf.nd rfl (Or.inl rfl) (cy GS x cD (ac (pv 1) (ac (pv 4) ao))))))))
   (aq (bb (pv 2)))))),?_⟩
  refine⟨_,rfl,a,ns,rfl,hS,hl,fun H' hk=>?_⟩
  ·generalize ht:ns.map lc=t at k ⊢;have u:t.length<=65536:=by rw[<-ht,ah];exact hl
   have Y:∀c∈t,c < 128:=fun c v=>by
    rw[<-ht]at v;obtain⟨n,_,rfl⟩:=bA.mp v;exact vg n
   refine⟨by decide,fun q hq=>?_⟩;have hkq:∀b o,H b=some o->(dJ H' q (.lst [])) b=some o:=fun b o e=>by rw[aY (br (hk b o e) hq)];exact hk b o e
   have W:H q=none:=by
    cases e:H q with
    |none=>rfl
    |some o=>rw[hk q o e]at hq;cases hq
   refine⟨_,rfl,t,0,rfl,u,cr _,?_⟩;rw[eU,eM];refine⟨fun m I H1=>∃(g:Nat) (as:List aa) (done:List Tk) (oe:Option V),I= [some (.ref a),some (sv t),some (.ref q),some (.int (g:Int)),oe]/\H1 q=some (.lst (as.map V.ref))/\TksAt H1 as done/\as.length<=g/\(∀b o,H b=some o->H1 b=some o)/\
    g<=t.length/\d8 (t.drop g)=0/\toks t= (toks (t.drop g)).map (done++·)/\m=t.length - g,⟨_,d8 t, [], [],none,rfl,aU, .nil,cr _,hkq,xL t,nV t,?_,rfl⟩,?_⟩
   ·rw[iT Y];simp
   rintro m I H1 ⟨g,as,done,oe,rfl,y,hA,hal,R,O,hs1,U,rfl⟩;refine⟨_,rfl,_,rfl,_,rfl,gl u,_,_,rfl,rfl,_,rfl,?_⟩;rw[cK];refine du (fun v=>?_) (fun v=>?_)
   ·have C:g < t.length:=by have:=qac v;lia
    have G:=mH C;have X:∀c∈t.drop g,c < 128:=fun c v=>Y c (bM v);have j:=pW X hs1 G;refine⟨_,fun σ'' H'' z=>z,_,rfl,_,rfl,t,g,rfl,u,C,Y,?_⟩;cases en:dM (t.drop g)with
    |none=>
     rw[en]at j;rw[U,j]at k;exact fun H'=>k H'
    |some n=>
     rw[en]at j;dsimp only at j;have a0:=gh X en;refine⟨_,rfl, .inl ⟨rfl,_,SqL.of y⟩,_,rfl,_,rfl,_,rfl,_,rfl,_,rfl,_,rfl,gl u,?_⟩;rw[F2 t g (g+n) O,show g+n - g=n by lia];have B: (t.drop g).take n=t[g]::(t.drop (g+1)).take (n - 1):=by
      rw[G,show n= (n - 1)+1 by lia,cv];rfl
     refine⟨t[g],(t.drop (g+1)).take (n - 1),by rw[B];rfl,?_,Y _ (rn C),fun h1 h2=>?_,fun H0 S=>?_⟩
     ·rw[<-B,cg,aF];lia
     ·rw[<-B];have Z:=en;rw[G]at Z ⊢;exact B3 h1 h2 Z
     ·rw[<-B];cases et:eL ((t.drop g).take n)with
      |none=>
       rw[et]at j;rw[U,j]at k;exact fun H'=>k H'
      |some tk=>
       rw[et]at j;dsimp only at j;have hin:=DO en et;rw[aF]at hin;intro p hp;have M:=S q _ y;have J:q≠p:=br M hp;refine⟨q,as.map V.ref, .ref p,rfl,rfl,by rw[aY J];exact M,by rw[ah];exact bK (cn hal O) (bK u (by decide)),?_⟩;have k2:∀b o,b≠q->H1 b=some o->(dJ (dJ H0 p (.tup tk.vs)) q (.lst (as.map V.ref++ [.ref p]))) b=some o:=fun b o hb e=>by
        have e0:=S b o e;rw[aY hb,aY (br e0 hp)];exact e0
       refine⟨_,rfl,_,rfl,t,g+n,rfl,u,by lia,?_⟩;have hsk:=xL (t.drop (g+n));rw[aF]at hsk;refine⟨_,?_,g+n+d8 (t.drop (g+n)),as++ [p],done++ [tk],_,rfl,by rw[aU,ay];rfl,?_,?_,?_,by lia,?_,?_,rfl⟩
       ·lia
       ·refine Paired.snoc ?_ (Paired.mapP hA fun b tt e=>k2 b _ (fun z=>?_) e)
        ·rw[aY (Ne.symm J),aU]
        ·rw[z,y]at e;cases e
       ·rw[au];simp;lia
       ·intro b o e;by_cases hb:b=q
        ·subst hb;rw[W]at e;cases e
        ·exact k2 b o hb (R b o e)
       ·rw[<-dn];exact nV _
       ·rw[U,j,dn,<-iT (l:=t.drop (g+n)) (fun c v=>Y c (bM v)),dn];cases toks (t.drop (g+n+d8 (t.drop (g+n))))with
        |none=>rfl
        |some r=>simp
   ·have C:¬g < t.length:=fun z=>v (qad (by lia));rw[cP (by lia:t.length<=g),xQ]at U;rw[U]at k;refine⟨_,rfl,?_⟩;refine k q as H1 y (by show TksAt H1 as (done++ []);rw[aG];exact hA) R W
end
end Th
namespace L2
open PySem PySem.Spec PyProof.Rows
structure DfM(K:PySem.W.Frag)(C:aa)(m qual:aQ)(st:ck)(ps:List aQ):Prop where
 ex:∃f fd,Fun K m qual st f fd/\BJ K C m f/\Binds K fd ps []
structure gy(P:aZ)(w:bB)(K:PySem.W.Frag)(mg:aQ->Option ag)(base:bH)(CX:CXT)(k:Nat)(C:aa)(m:aQ)(ps:List aQ)(sp:Sp):Prop where
 ex:∃f fd,lZ P w K mg base CX k f fd ps sp/\BJ K C m f/\Binds K fd ps []
structure DfI(K:PySem.W.Frag)(mg:aQ->Option ag)(x:aQ)(C:aa)(qual:aQ)(st:ck)(ps:List aQ):Prop where
 ex:∃f fd,Fun K "__init__" qual st f fd/\Mk K C f/\Binds K fd ps []/\mg x=some (.ref C)
structure AC(P:aZ)(w:bB)(K:PySem.W.Frag)(mg:aQ->Option ag)(base:bH)(CX:CXT)(k:Nat)(x:aQ)(C:aa)(ps:List aQ)(sp:Sp):Prop where
 ex:∃f fd,lZ P w K mg base CX k f fd ps sp/\Mk K C f/\Binds K fd ps []/\mg x=some (.ref C)
section
variable {P:aZ}{w:bB}{K:PySem.W.Frag}{mg:aQ->Option ag}{base:bH}{C:aa}
theorem DfM.ok{m e:aQ}{st:ck}{N p:List aQ}{k:Nat}{sp:Sp}(D:DfM K C m e st p)(S:bf N p (aA st))
  (g:∀(f:aa) (j:ag) (A:cC) (outer:List m4) (s:ap) (H:Hp) (vs:List V) (Q:VK) (E:XK),Room k (A.deeper (im e (aA st) s.heap.objs.size f j))->sp vs H Q E->
   ∃t,PSs (ir fh P w K mg base N e (aA st) f j A outer s H E).nox (ew st) t/\t { nx:=fun _ H'=>Q .non H',rt:=Q } (i0 N vs) H) (len:∀vs H Q E,sp vs H Q E->vs.length=p.length:=by intro vs H Q E h;first| (cases h;rename_i h;rw[h.1];rfl) | (rw[h.1];rfl)):gy P w K mg base fh (k+1) C m p sp:=by
 obtain⟨f,fd,F,q,r⟩:=D.ex;exact⟨f,fd,F.ok S len (g f),q,r⟩
theorem DfM.okX{m e:aQ}{st:ck}{N p:List aQ}{k:Nat}{sp:Sp}(D:DfM K C m e st p)(S:bf N p (aA st))
  (g:∀(f:aa) (j:ag) (A:cC) (outer:List m4) (s:ap) (H:Hp) (vs:List V) (Q:VK) (E:XK),Room k (A.deeper (im e (aA st) s.heap.objs.size f j))->sp vs H Q E->
   ∃t,PSs (ir (cE P w) P w K mg base N e (aA st) f j A outer s H E) (ew st) t/\t { nx:=fun _ H'=>Q .non H',rt:=Q } (i0 N vs) H) (len:∀vs H Q E,sp vs H Q E->vs.length=p.length:=by intro vs H Q E h;first| (cases h;rename_i h;rw[h.1];rfl) | (rw[h.1];rfl)):gy P w K mg base (cE P w) (k+1) C m p sp:=by
 obtain⟨f,fd,F,q,r⟩:=D.ex;exact⟨f,fd,F.okX S (g f) len,q,r⟩
theorem DfI.ok{x e:aQ}{st:ck}{N p:List aQ}{k:Nat}{sp:Sp}(D:DfI K mg x C e st p)(S:bf N p (aA st))
  (g:∀(f:aa) (j:ag) (A:cC) (outer:List m4) (s:ap) (H:Hp) (vs:List V) (Q:VK) (E:XK),Room k (A.deeper (im e (aA st) s.heap.objs.size f j))->sp vs H Q E->
   ∃t,PSs (ir fh P w K mg base N e (aA st) f j A outer s H E).nox (ew st) t/\t { nx:=fun _ H'=>Q .non H',rt:=Q } (i0 N vs) H) (len:∀vs H Q E,sp vs H Q E->vs.length=p.length:=by intro vs H Q E h;first| (cases h;rename_i h;rw[h.1];rfl) | (rw[h.1];rfl)):AC P w K mg base fh (k+1) x C p sp:=by
 obtain⟨f,fd,F,r,u,q⟩:=D.ex;exact⟨f,fd,F.ok S len (g f),r,u,q⟩
end
section
variable {X:Cx}{CX:CXT}{k:Nat}{C:aa}{m x:aQ}{ps:List aQ}{sp:Sp}{E:XK}{e o:c7}{es:List c7}{ta:TE}{t:TA}{p apos pos:lK}
theorem cT{pl:CQ Bool}(G:gy X.prog X.w X.K X.mg X.base CX k C m ps sp)(c:Cls X.K C)(q:Room k X.A)(j:fO CX X E)(u:PE X o ta)(x:PA X (e::es) t)
  (g:bu (e::es) X.env= (false,dr e X.env)::bu es X.env:=by rfl) (h: (eB pos (bu es X.env)).any (·.1)=false:=by rfl)
  (p:dr (.Call (.Attribute o m apos) (e::es) [] pos) X.env= (do
   let ov <-dr o X.env
   yN apos.atName
   let(f,first) <-yO [ov] (mV ov m pl)
   pi pos f first (eB pos (bu (e::es) X.env)) (pj pos (jo [] X.env))):=by rfl):
  PE X (.Call (.Attribute o m apos) (e::es) [] pos) (Ao C m sp [] E ta t):=by
 obtain⟨f,fd,F,r,v⟩:=G.ex;exact FH u c r F q v .nil j x g h p
theorem wk{pl:CQ Bool}(G:gy X.prog X.w X.K X.mg X.base CX k C m ps sp)(c:Cls X.K C)(h:Room k X.A)(e:fO CX X E)(p:PE X o ta)
  (g:dr (.Call (.Attribute o m apos) [] [] pos) X.env= (do
   let ov <-dr o X.env
   yN apos.atName
   let(f,first) <-yO [ov] (mV ov m pl)
   pi pos f first (eB pos (bu [] X.env)) (pj pos (jo [] X.env))):=by rfl):
  PE X (.Call (.Attribute o m apos) [] [] pos) (Ao C m sp [] E ta tNil):=by
 obtain⟨f,fd,F,j,q⟩:=G.ex;exact Dt p c j F h q .nil e g
theorem jK(G:AC X.prog X.w X.K X.mg X.base CX k x C ps sp)(q:Room (k+1) X.A)(j:fO CX X E)(z:PA X (e::es) t)(u:Gl X x:=by rfl)(h: (x ==("__debug__":aQ))=false:=by decide)
  (v:bu (e::es) X.env= (false,dr e X.env)::bu es X.env:=by rfl) (g: (eB pos (bu es X.env)).any (·.1)=false:=by rfl):PE X (.Call (.Name x p) (e::es) [] pos) (uQ C sp [] E t):=by
 obtain⟨f,fd,F,M,y,r⟩:=G.ex;exact FI M F q u r y .nil j z h v g
end
theorem eO(x y:aQ): (x++y).length=x.length+y.length:=by
 rw[TL.len_tl,TL.u7,au,<-TL.len_tl,<-TL.len_tl]
theorem DT{X:Cx}{x y:aQ}{v:c7}{tv:TE}{j F:Nat}{R O E D:lK}(hv:PE X v tv)(hx:x.length<=aO:=by decide):PE X (.JoinedStr [.Constant (.str x) j R, .FormattedValue v (-1) none O, .Constant (.str y) F E] D)
  (fun σ H Q=>tv σ H fun z H1=>∃w:aQ,z= .str w/\x.length+w.length+y.length<=aO/\Q (.str (x++w++y)) H1):=by
 intro pins s σ H Q I h;have G:ol.length=0:=rfl;refine wpAny_JoinedStr ?_;show wpAny (bj X.prog X.w) X.A (dr (.Constant (.str x) j R) X.env) _ X.xe s;refine cu (aX pins s σ H (fun v H1=>v= .str x/\H1=H) I ⟨rfl,rfl⟩) (fun u M g=>?_) fun _ _ z=>z;obtain⟨v1,H1,I1,rv,rfl,rfl⟩:=g;obtain⟨t1,rfl⟩:=rv
 ·refine⟨x,t1,rfl,by rw[eO,G,eM];exact hx,?_⟩;show wpAny (bj X.prog X.w) X.A (dr (.FormattedValue v (-1) none O) X.env) _ X.xe M;refine wpAny_FormattedValue_plain ?_;refine cu (hv pins M σ H1 _ I1 h) (fun u p g=>?_) fun _ _ z=>z;obtain⟨z,U,I2,Z,w,rfl,hl,q⟩:=g;obtain⟨Y,rfl⟩:=Z;have fin:∀(B:Tok) (tk:Nat),∃r t,(qV w B)= .str r t/\((ol++x)++r).length<=aO/\
    Joins (bj X.prog X.w) X.A X.xe [dr (.Constant (.str y) F E) X.env] ((ol++x)++r) (fun out e=>out.length<=aO/\EP X pins σ Q (.str out e.toks) { e with toks:=e.toks+1 }) { p with toks:=tk } :=fun B tk=>by
   refine⟨w,B,rfl,by rw[eO,eO,G];lia,?_⟩;show wpAny (bj X.prog X.w) X.A (dr (.Constant (.str y) F E) X.env) _ X.xe _;refine cu (aX pins _ σ U (fun v J=>v= .str y/\J=U) (I2.tok tk) ⟨rfl,rfl⟩) (fun u s3 g=>?_) fun _ _ z=>z;obtain⟨v3,J,I3,C,rfl,rfl⟩:=g;obtain⟨W,rfl⟩:=C;have S: ((ol++x)++w++y).length<=aO:=by rw[eO,eO,eO,G];lia
   refine⟨y,W,rfl,S,S,?_⟩;have ee:ol++x=x:=TL.ext_tl (by rw[TL.u7];rfl);rw[ee];exact⟨.str _,J,I3.tok _,⟨_,rfl⟩,q⟩
  exact wpAny_formatField_str (fin Y p.toks) (fin p.toks (p.toks+1)) (by lia)
def Fx(M:List aa)(H H':Hp):Prop:=∀b o,b∉M->H b=some o->H' b=some o
theorem Fx.refl{M:List aa}{H:Hp} :Fx M H H:=fun _ _ _ e=>e
theorem Fx.trans{M:List aa}{H H1 g:Hp}(a:Fx M H H1)(b:Fx M H1 g):Fx M H g:=fun x o n e=>b x o n (a x o n e)
theorem Fx.mono{M M':List aa}{H H1:Hp}(a:Fx M H H1)(h:∀b∈M,b∈M'):Fx M' H H1:=fun x o n e=>a x o (fun z=>n (h x z)) e
theorem Fx.set{M:List aa}{H:Hp}{a:aa}{o:HO}(h:a∈M):Fx M H (L2.dJ H a o):=fun x u n e=>by rw[aY (fun z=>n (by rw[z];exact h))];exact e
theorem Fx.new{M:List aa}{H:Hp}{a:aa}{o:HO}(h:H a=none):Fx M H (L2.dJ H a o):=fun x u n e=>by rw[aY (br e h)];exact e
end L2
namespace Th
open PySem L2
def Tk.ok:Tk->Prop
 | .word l=>l≠ []/\(∀c∈l,c < 128)/\l.length<=64/\∀c∈l,c∈WLET
 | .num _=>True
 | .bits l=>(∀c∈l,c < 128)/\l.length<=65536/\∀c∈l,c∈qY
 | .octs l=>(∀c∈l,c < 128)/\l.length<=65536/\l.length % 2=0/\∀c∈l,c∈mX
 | .sign l=>∀c∈l,c < 128
instance(l:List Nat):Decidable (Tk.word l).ok:=by unfold Tk.ok;infer_instance
theorem DU{l:List Nat}{t:Tk}(C:l.length<=65536)(j:∀c∈l,c < 128)(v:∀c r,l=c::r->fg c=true->∀x∈l,x∈WLET)(h:eL l=some t):t.ok:=by
 match l with
 | []=>cases h
 |c::r=>
  rw[eL]at h;split at h
  ·rename_i B;unfold jd at h;split at h
   ·cases h
   ·rename_i y;cases h;exact⟨by simp,j,EX fun z=>y (.inl z),v c r rfl B⟩
  ·split at h
   ·unfold j4 at h;split at h
    ·cases h
    ·split at h
     ·cases h
     ·cases h;trivial
   ·split at h
    ·have u:∀x∈gH (c::r),x < 128:=fun x p=>j x (by unfold gH at p;exact bM (nc p));have e: (gH (c::r)).length<=65536:=by unfold gH;rw[cg,aF];lia
     unfold iD at h;split at h
     ·rename_i q;cases h;exact⟨u,e,fun c g=>qac (bw.mp q.2 c g)⟩
     ·split at h
      ·rename_i q;cases h;exact⟨u,e,q.2.1,fun c g=>qac (bw.mp q.2.2 c g)⟩
      ·cases h
    ·cases h;exact j
theorem AD{e:Type}(p:e->Bool):∀l:List e,l.take (l.takeWhile p).length=l.takeWhile p
 | []=>rfl
 |a::l=>by
  rw[List.takeWhile_cons];split
  ·rw[ae,cv,AD p l]
  ·rfl
theorem zJ{c:Nat}{r:List Nat}{n:Nat}(h:dM (c::r)=some n)(d:Nat)(q:List Nat)(e: (c::r).take n=d::q)(j:fg d=true):∀x∈(c::r).take n,x∈WLET:=by
 have hd:d=c:=by
  cases n with
  |zero=>cases e
  |succ n=>rw[cv]at e;injection e with e1 _;exact e1.symm
 rw[hd]at j;unfold dM at h;dsimp only at h;rw[qab j]at h;cases h;intro x g;rw[AD]at g;exact qac (bw.mp (ez (p:=fun c=>decide (c∈WLET)) (l:=c::r)) x g)
theorem j7:∀(k:Nat) {l:List Nat} {ts:List Tk},l.length<=65536->(∀c∈l,c < 128)->gx k l=some ts->(∀t∈ts,t.ok)/\ts.length<=l.length
 |0,l,ts,_,_,h=>by cases h
 |k+1,l,ts,hl,h8,h=>by
  rw[gx]at h;split at h
  ·cases h;exact⟨by simp,by simp⟩
  ·rename_i c r e;have g:∀x∈c::r,x∈l:=fun x j=>bM (by rw[e];exact j);have p: (c::r).length<=l.length:=by rw[<-e,aF];lia
   split at h
   ·cases h
   ·rename_i n B;split at h
    ·cases h
    ·rename_i t E;cases q:gx k ((c::r).drop n)with
     |none=>rw[q]at h;cases h
     |some ts'=>
      rw[q]at h;cases h;obtain⟨D,v⟩:=j7 k (by rw[aF];lia) (fun x j=>h8 x (g x (bM j))) q;have u:=gh (fun x j=>h8 x (g x j)) B;refine⟨fun x j=>?_,?_⟩
      ·rcases am.mp j with z|z
       ·rw[z];exact DU (by rw[cg];lia) (fun y C=>h8 y (g y (nc C))) (zJ B) E
       ·exact D x z
      ·rw[aF]at v;simp at p v ⊢;lia
structure mO(K:PySem.W.Frag)(RC:aa):Prop where
 cl:Cls K RC
 tokens:NoAttr K RC "tokens"
 place:NoAttr K RC "place"
def rf(l:aa)(p:Nat):List (aQ×V):= [("tokens", .ref l),("place", .int (p:Int))]
theorem mP(l:aa)(p:Nat): (rf l p).lookup ("tokens":aQ)=some (.ref l):=rfl
theorem j9(l:aa)(p:Nat): (rf l p).lookup ("place":aQ)=some (.int (p:Int)):=by rfl
theorem DV(l:aa)(p q:Nat):fV "place" (.int (q:Int)) (rf l p)=rf l q:=by rfl
theorem cN{l:aa}{p:Nat}{m:aQ}(g: (m ==("tokens":aQ))=false:=by decide+kernel)(e: (m ==("place":aQ))=false:=by decide+kernel): (rf l p).lookup m=none:=by
 unfold rf;rw[bS,g,bS,e];rfl
structure RdAt(RC:aa)(H:Hp)(r l:aa)(ts:List Tk):Prop where
 ex:∃(dx:aa) (as:List aa) (all:List Tk) (p:Nat),H r=some (.ins RC dx (rf l p))/\H l=some (.lst (as.map V.ref))/\TksAt H as all/\p<=all.length/\all.length<=65536/\(∀t∈all,t.ok)/\ts=all.drop p
theorem RdAt.keep{g:aa}{H H':Hp}{r l:aa}{ts:List Tk}{M:List aa}(h:RdAt g H r l ts)(k:Fx M H H')(j:r∉M)(q:l∉M)(u:∀b∈M,∀xs,H b≠some (.tup xs)):RdAt g H' r l ts:=by
 obtain⟨dx,as,all,p,B,y,x,v⟩:=h.ex;refine⟨dx,as,all,p,k r _ j B,k l _ q y,Paired.mapP x fun a t e=>k a _ (fun z=>u a z _ e) e,v⟩
section
variable {P:aZ}{w:bB}{K:PySem.W.Frag}{mg:aQ->Option ag}{base:bH}{WT RC:aa}
def kR(e:aa):Sp:=fun vs H Q _=>ES fun(r dx l:aa)=>vs= [.ref r, .ref l]/\H r=some (.ins e dx [])/\∀H':Hp,H' r=some (.ins e dx (rf l 0))->Fx [r] H H'->Q .non H'
theorem wl:bf ["self","tokens"] ["self","tokens"] (aA me):=fP
theorem sM(D:DfI K mg "Reader" RC "Reader.__init__" me ["self","tokens"])(T:mO K RC):AC P w K mg base fh 1 "Reader" RC ["self","tokens"] (kR RC):=by
 refine D.ok wl (fun f p A outer s H vs Q E q h=>?_)
 ·obtain⟨r,dx,l,rfl,j,k⟩:=h;refine⟨_,aj (d4 (pv 0) (pv 1) rfl) (aq (d4 (pv 0) cw rfl)),?_⟩;refine⟨_,rfl,_,rfl,r,RC,dx, [],rfl,j,T.cl,T.tokens,(by show 0 < 1000;decide),_,rfl,r,RC,dx,_,rfl,aU,T.cl,T.place,(by show 1 < 1000;decide),?_⟩;refine k _ (by rw[aU];rfl) fun b o n e=>?_;have g:b≠r:=fun z=>n (by rw[z];exact af);rw[aY g,aY g];exact e
def fX(e:aa):Sp:=fun vs H Q _=>ES fun(r l:aa) (ts:List Tk)=>vs= [.ref r]/\RdAt e H r l ts/\Q (.bl ts.isEmpty) H
theorem ul:bf ["self"] ["self"] (aA kG):=fP
theorem TksAt.len{H:Hp}{as:List aa}{ts:List Tk}(h:TksAt H as ts):as.length=ts.length:=Paired.len h
theorem q7(D:DfM K RC "ended" "Reader.ended" kG ["self"])(T:mO K RC)(g:mg "len"=none):gy P w K mg base fh 1 RC "ended" ["self"] (fX RC):=by
 refine D.ok ul (fun f y A outer s H vs Q E B h=>?_)
 ·obtain⟨r,l,ts,rfl,u,k⟩:=h;obtain⟨dx,as,all,p,q,x,v,G,F,C,rfl⟩:=u.ex;refine⟨_,aq (bb (rs dR (cp (pv 0) rfl) (cJ d5 (by rfl) g PySem.boot_len (ac (cp (pv 0) rfl) ao)) (bE _))),?_⟩;refine⟨_,rfl,r,RC,dx,_,_,rfl,q,T.cl,T.place,j9 _ _,_,rfl,r,RC,dx,_,_,rfl,q,T.cl,T.tokens,mP _ _,l,_,rfl, .inl (SqL.of x),rfl,?_⟩;rw[ah,v.len];have e:decide (V.int (p:Int)=V.int (all.length:Int))= (all.drop p).isEmpty:=by
   by_cases j:p=all.length
   ·rw[j,qad rfl,EO];rfl
   ·rw[decide_eq_false (by intro z;injection z with z;exact j (by lia))];rw[dL (by lia:p < all.length)];rfl
  rw[e];exact k
def Tk.pd:Tk->rL
 | .word l=> .tuple [.str "word", .str ⟨l.toArray⟩]
 | .num z=> .tuple [.str "number", .int z]
 | .bits l=> .tuple [.str "bits", .str ⟨l.toArray⟩]
 | .octs l=> .tuple [.str "octets", .str ⟨l.toArray⟩]
 | .sign l=> .tuple [.str "sign", .str ⟨l.toArray⟩]
theorem Tk.dp{K:PySem.W.Frag}{H:Hp}{a:aa}(t:Tk)(h:H a=some (.tup t.vs)):Dp K H (.ref a) t.pd:=by
 cases t with
 |num z=>exact .tup (SqT.of h) (.cons (.str _) (.cons (.int _) .nil))
 |_=>exact .tup (SqT.of h) (.cons (.str _) (.cons (.str _) .nil))
theorem DW(l m:List Nat): ((⟨l.toArray⟩:aQ) ==(⟨m.toArray⟩:aQ))=decide (l=m):=by
 by_cases e:l=m
 ·rw[e,qad rfl];simp
 ·rw[decide_eq_false e];exact qae.mpr fun z=>e (by injection z with z;simpa using z)
theorem Tk.eqv(t u:Tk):JL t.pd u.pd=decide (t=u):=by
 have d:∀x y:String,((ai x) ==(ai y))=false\/True:=fun _ _=> .inr trivial;have E: ((ai "word") ==(ai "number"))=false:=by decide+kernel
 have D: ((ai "word") ==(ai "bits"))=false:=by decide+kernel
 have C: ((ai "word") ==(ai "octets"))=false:=by decide+kernel
 have B: ((ai "word") ==(ai "sign"))=false:=by decide+kernel
 have v: ((ai "number") ==(ai "bits"))=false:=by decide+kernel
 have r: ((ai "number") ==(ai "octets"))=false:=by decide+kernel
 have q: ((ai "number") ==(ai "sign"))=false:=by decide+kernel
 have p: ((ai "bits") ==(ai "octets"))=false:=by decide+kernel
 have j: ((ai "bits") ==(ai "sign"))=false:=by decide+kernel
 have h: ((ai "octets") ==(ai "sign"))=false:=by decide+kernel
 have g:∀a b:aQ,(a == b)= (b == a):=fun a b=>by
  by_cases e:a=b
  ·rw[e]
  ·rw[qae.mpr e,qae.mpr (Ne.symm e)]
 cases t<;>cases u<;>simp only[Tk.pd,JL,PyData.eqvAll,qag,wY,Bool.and_true,DW,E,D,C,B,v,r,q,p,j,h,g (ai "number") (ai "word"),g (ai "bits") (ai "word"),g (ai "octets") (ai "word"),g (ai "sign") (ai "word"),g (ai "bits") (ai "number"),g (ai "octets") (ai "number"),g (ai "sign") (ai "number"),g (ai "octets") (ai "bits"),g (ai "sign") (ai "bits"),g (ai "sign") (ai "octets"),m6,Tk.word.injEq,Tk.num.injEq,Tk.bits.injEq,Tk.octs.injEq,Tk.sign.injEq]<;>first|rfl| (symm;exact decide_eq_false (by intro z;cases z)) | (rw[iN];simp)
end
theorem oI{l:List Nat}(h:∀c∈l,c < 128):cV (⟨l.toArray⟩:aQ)=true:=by
 unfold cV;rw[List.all_toArray,bw];intro c e;have:=h c e;exact qad (by lia)
theorem Tk.shaped{t:Tk}(h:t.ok):xa t.pd=true:=by
 have q:cV "word"=true:=by decide+kernel
 have p:cV "number"=true:=by decide+kernel
 have j:cV "bits"=true:=by decide+kernel
 have g:cV "octets"=true:=by decide+kernel
 have e:cV "sign"=true:=by decide+kernel
 cases t with
 |word l=>
  show(cV "word"&&(cV (⟨l.toArray⟩:aQ)&&true)&&_)=true;rw[q,oI h.2.1];rfl
 |num z=>show(cV "number"&&_&&_)=true;rw[p];rfl
 |bits l=>show(cV "bits"&&(cV (⟨l.toArray⟩:aQ)&&true)&&_)=true;rw[j,oI h.1];rfl
 |octs l=>show(cV "octets"&&(cV (⟨l.toArray⟩:aQ)&&true)&&_)=true;rw[g,oI h.1];rfl
 |sign l=>show(cV "sign"&&(cV (⟨l.toArray⟩:aQ)&&true)&&_)=true;rw[e,oI h];rfl
def aJ(t:Tk):List Tk->Option (List Tk)
 | []=>none
 |u::r=>if u=t then some r else none
def c9(e r l:aa)(t:Tk)(ts:List Tk)(H:Hp)(Q:VK):Prop:=match aJ t ts with
 |some ts'=>∀H',RdAt e H' r l ts'->Fx [r] H H'->Q (.bl true) H'
 |none=>∀H',RdAt e H' r l ts->Fx [r] H H'->Q (.bl false) H'
theorem xY{H:Hp}{as:List aa}{ts:List Tk}{t:Tk}(e:TksAt H as ts):∀ {i:Nat},ts[i]? =some t->∃a,as[i]? =some a/\H a=some (.tup t.vs):=by
 unfold TksAt at e;induction e with
 |nil=>intro i h;simp at h
 |cons a b ih=>
  intro i h;cases i with
  |zero=>
   have:=aB h;subst this;exact⟨_,rfl,a⟩
  |succ i=>exact ih h
theorem jf(t u:Tk)(r:List Tk):aJ t (u::r)=if u=t then some r else none:=rfl
theorem B9(t:Tk):aJ t []=none:=rfl
section
variable {P:aZ}{w:bB}{K:PySem.W.Frag}{mg:aQ->Option ag}{base:bH}{WT RC:aa}
theorem RdAt.next{H:Hp}{r dx l:aa}{as:List aa}{all:List Tk}{p:Nat}{t:Tk}{ts:List Tk}(h:H r=some (.ins RC dx (rf l p)))(g:H l=some (.lst (as.map V.ref)))(x:TksAt H as all)(v:all.length<=65536)(q:∀t∈all,t.ok)(e:all.drop p=t::ts):
  RdAt RC (dJ H r (.ins RC dx (rf l (p+1)))) r l ts:=by
 have j:p < all.length:=by
  refine rM fun z=>?_;rw[cP z]at e;cases e
 refine⟨dx,as,all,p+1,aU,?_,Paired.mapP x fun a u z=>?_,j,v,q,?_⟩
 ·rw[aY (xp g h (by intro z;cases z))];exact g
 ·rw[aY (xp z h (by intro z;cases z))];exact z
 ·rw[<-dn,e];rfl
def wm(e:aa):Sp:=fun vs H Q _=>Ex5 fun(r l tk:aa) (t:Tk) (ts:List Tk)=>vs= [.ref r, .ref tk]/\RdAt e H r l ts/\H tk=some (.tup t.vs)/\t.ok/\c9 e r l t ts H Q
theorem Ga:bf ["self","token"] ["self","token"] (aA kH):=fP
theorem DX(D:DfM K RC "skips" "Reader.skips" kH ["self","token"])(T:mO K RC)(W:gy P w K mg base fh 1 RC "ended" ["self"] (fX RC)):gy P w K mg base fh 2 RC "skips" ["self","token"] (wm RC):=by
 refine D.ok Ga (fun f U A outer s H vs Q E G h=>?_)
 ·obtain⟨r,l,tk,t,ts,rfl,x,R,C,k⟩:=h;refine⟨_,aj (bN (PW.pt (lr (cB (wk W T.cl G cD (pv 0))) (ip (bo (IA G.units) (fb fD (cp (pv 0) rfl) (cp (pv 0) rfl) (fun _ _=>rfl)) (pv 1) (bE _))))) (aq (bb ib)) bh)
   (aj (pD (pv 0) cw ze) (aq (bb ib))),?_⟩
  obtain⟨dx,as,all,p,q,M,J,Y,S,I,v⟩:=x.ex;refine⟨_,rfl,r,dx,_,rfl,q,cN,r,l,ts,rfl,x,_,rfl,?_⟩;cases j:ts with
  |nil=>
   subst j;show if true=true then _ else _
   rw[qab rfl];refine d9 ?_;exact k H x Fx.refl
  |cons u ts'=>
   show if false=true then _ else _
   rw[qaa (by simp)];rw[j]at v;have X:p < all.length:=by
    refine rM fun z=>?_;rw[cP z]at v;cases v
   have F:all[p]? =some u:=by
    have:=qaf (fun l=>l[0]?) v.symm;rw[cO]at this;exact this
   obtain⟨O,y,B⟩:=xY J F;refine⟨_,rfl,r,RC,dx,_,_,rfl,q,T.cl,T.tokens,mP _ _,_,rfl,r,RC,dx,_,_,rfl,q,T.cl,T.place,j9 _ _,l,_,_, .ref O,rfl,rfl,SqL.of M,f8 (by rw[bp,y];rfl),?_⟩;refine⟨_,rfl,u.pd,t.pd,u.dp B,t.dp R,Tk.shaped (I u (bd F)),Tk.shaped C,_,rfl,?_⟩;rw[Tk.eqv];rw[j]at k;unfold c9 at k;rw[jf]at k;by_cases g:u=t
   ·rw[qab g]at k;rw[qad g];refine eC ?_;refine⟨_,rfl,r,RC,dx,_,_,rfl,q,T.cl,T.place,j9 _ _,_,_,rfl,rfl,dx,_,q,(by show 2 < 1000;decide),?_⟩;have e:fV "place" (V.int ((p:Int)+1)) (rf l p)=rf l (p+1):=DV l p (p+1);rw[e];exact k _ (RdAt.next q M J S I v.symm) (Fx.set af)
   ·rw[qaa g]at k;rw[decide_eq_false g];refine d9 ?_;exact k H (j ▸ x) Fx.refl
end
def Tk.sort:Tk->aQ
 | .word _=>"word"
 | .num _=>"number"
 | .bits _=>"bits"
 | .octs _=>"octets"
 | .sign _=>"sign"
def Tk.held:Tk->V
 | .word l=>sv l
 | .num z=> .int z
 | .bits l=>sv l
 | .octs l=>sv l
 | .sign l=>sv l
theorem Tk.vs_eq(t:Tk):t.vs= [.str t.sort,t.held]:=by cases t<;>rfl
def cU(g e r l:aa)(t:Tk)(ts:List Tk)(H:Hp)(Q:VK)(E:XK):Prop:=match aJ t ts with
 |some ts'=>∀H',RdAt g H' r l ts'->Fx [r] H H'->Q .non H'
 |none=>∀H',E (.ref e) none H'
def xZ(h g r l:aa)(e:aQ)(ts:List Tk)(H:Hp)(Q:VK)(E:XK):Prop:=match ts with
 |t::ts'=>if t.sort=e then ∀H',RdAt h H' r l ts'->Fx [r] H H'->t.ok->Q t.held H' else ∀H',E (.ref g) none H'
 | []=>∀H',E (.ref g) none H'
theorem dP(h g r l:aa)(e:aQ)(t:Tk)(ts:List Tk)(H:Hp)(Q:VK)(E:XK):xZ h g r l e (t::ts) H Q E=if t.sort=e then ∀H',RdAt h H' r l ts->Fx [r] H H'->t.ok->Q t.held H' else ∀H',E (.ref g) none H':=rfl
theorem RdAt.obj{e:aa}{H:Hp}{r l:aa}{ts:List Tk}(h:RdAt e H r l ts):∃dx p,H r=some (.ins e dx (rf l p)):=by
 obtain⟨dx,as,all,p,g,_⟩:=h.ex;exact⟨dx,p,g⟩
theorem RdAt.new{e:aa}{H:Hp}{r l a:aa}{o:HO}{ts:List Tk}(h:RdAt e H r l ts)(j:H a=none):RdAt e (dJ H a o) r l ts:=
 h.keep (M:= []) (Fx.new j) (by simp) (by simp) (fun b g=>by simp at g)
section
variable {P:aZ}{w:bB}{K:PySem.W.Frag}{mg:aQ->Option ag}{base:bH}{WT RC:aa}
def eX(e:aa):Sp:=fun vs H Q _=>CM fun(r l:aa) (s:List Nat) (ts:List Tk)=>vs= [.ref r,sv s]/\(∀c∈s,c < 128)/\RdAt e H r l ts/\c9 e r l (.sign s) ts H Q
theorem ya:bf ["self","sign"] ["self","sign"] (aA gP):=fP
theorem um(D:DfM K RC "skips_sign" "Reader.skips_sign" gP ["self","sign"])(T:mO K RC)(g:ou mg "SIGN" (.str "sign"))(C:gy P w K mg base fh 2 RC "skips" ["self","token"] (wm RC)):
  gy P w K mg base fh 3 RC "skips_sign" ["self","sign"] (eX RC):=by
 refine D.ok ya (fun f B A outer s H vs Q E x h=>?_)
 ·obtain⟨r,l,u,ts,rfl,y,v,k⟩:=h;refine⟨_,aq (bb (cT C T.cl x cD (pv 0) (ac (kA (ac (ek g) (ac (pv 1) ao))) ao))),?_⟩;obtain⟨dx,p,z⟩:=v.obj;refine⟨_,rfl,r,dx,_,rfl,z,cN,_,rfl,by show 2<=aO;decide,fun q j=>?_⟩;refine⟨r,l,q, .sign u,ts,rfl,v.new j,aU,y,?_⟩;unfold c9 at k ⊢;cases e:aJ (.sign u) ts with
  |none=>rw[e]at k;exact fun H' a b=>k H' a ((Fx.new j).trans b)
  |some ts'=>rw[e]at k;exact fun H' a b=>k H' a ((Fx.new j).trans b)
def gm(e:aa):Sp:=fun vs H Q _=>CM fun(r l:aa) (s:List Nat) (ts:List Tk)=>vs= [.ref r,sv s]/\(Tk.word s).ok/\RdAt e H r l ts/\c9 e r l (.word s) ts H Q
theorem yb:bf ["self","word"] ["self","word"] (aA gQ):=fP
theorem uo(D:DfM K RC "skips_word" "Reader.skips_word" gQ ["self","word"])(T:mO K RC)(g:ou mg "WORD" (.str "word"))(C:gy P w K mg base fh 2 RC "skips" ["self","token"] (wm RC)):
  gy P w K mg base fh 3 RC "skips_word" ["self","word"] (gm RC):=by
 refine D.ok yb (fun f B A outer s H vs Q E x h=>?_)
 ·obtain⟨r,l,u,ts,rfl,y,v,k⟩:=h;refine⟨_,aq (bb (cT C T.cl x cD (pv 0) (ac (kA (ac (ek g) (ac (pv 1) ao))) ao))),?_⟩;obtain⟨dx,p,z⟩:=v.obj;refine⟨_,rfl,r,dx,_,rfl,z,cN,_,rfl,by show 2<=aO;decide,fun q j=>?_⟩;refine⟨r,l,q, .word u,ts,rfl,v.new j,aU,y,?_⟩;unfold c9 at k ⊢;cases e:aJ (.word u) ts with
  |none=>rw[e]at k;exact fun H' a b=>k H' a ((Fx.new j).trans b)
  |some ts'=>rw[e]at k;exact fun H' a b=>k H' a ((Fx.new j).trans b)
def df(e g:aa):Sp:=fun vs H Q E=>CM fun(r l:aa) (s:List Nat) (ts:List Tk)=>vs= [.ref r,sv s]/\((∀c∈s,c < 128)/\s.length<=1000)/\RdAt e H r l ts/\cU e g r l (.sign s) ts H Q E
theorem yc:bf ["self","sign"] ["self","sign"] (aA gR):=fP
theorem uq(D:DfM K RC "needs_sign" "Reader.needs_sign" gR ["self","sign"])(T:mO K RC)(u:Txt K mg WT)(G:gy P w K mg base fh 3 RC "skips_sign" ["self","sign"] (eX RC)):
  gy P w K mg base (cE P w) 4 RC "needs_sign" ["self","sign"] (df RC WT):=by
 refine D.okX yc (fun f C A outer s H vs Q E v h=>?_)
 ·obtain⟨r,l,g,ts,rfl,⟨x,I⟩,q,k⟩:=h;refine⟨_,aq (bN (iZ (cB (cT G T.cl v cD (pv 0) (ac (pv 1) ao)))) (aq (cX PySem.F.excBase_ValueError u.exc rfl (by rfl) u.wt (ac (DT (pv 1)) ao) ft)) bh),?_⟩;obtain⟨dx,p,y⟩:=q.obj;refine⟨_,rfl,r,dx,_,rfl,y,cN,_,rfl,r,l,g,ts,rfl,x,q,?_⟩;unfold cU at k;unfold c9;cases e:aJ (.sign g) ts with
  |none=>
   rw[e]at k;intro H' a b;refine⟨_,rfl,?_⟩;refine d9 ?_;have j: (ai "there is no ").length+ (⟨g.toArray⟩:aQ).length+ (ai " where it must be").length<=aO:=by
    have B: (ai "there is no ").length=12:=by decide+kernel
    have z: (ai " where it must be").length=17:=by decide+kernel
    rw[B,z,cK];have: (1029:Nat)<=aO:=by decide
    lia
   exact⟨_,rfl,_,rfl,j,by show 1<=aO;decide,k _⟩
  |some ts'=>
   rw[e]at k;intro H' a b;refine⟨_,rfl,?_⟩;refine eC ?_;exact k H' a b
def gn(e g:aa):Sp:=fun vs H Q E=>CM fun(r l:aa) (s:List Nat) (ts:List Tk)=>vs= [.ref r,sv s]/\((Tk.word s).ok/\s.length<=1000)/\RdAt e H r l ts/\cU e g r l (.word s) ts H Q E
theorem yd:bf ["self","word"] ["self","word"] (aA gS):=fP
theorem ur(D:DfM K RC "needs_word" "Reader.needs_word" gS ["self","word"])(T:mO K RC)(u:Txt K mg WT)(G:gy P w K mg base fh 3 RC "skips_word" ["self","word"] (gm RC)):
  gy P w K mg base (cE P w) 4 RC "needs_word" ["self","word"] (gn RC WT):=by
 refine D.okX yd (fun f C A outer s H vs Q E v h=>?_)
 ·obtain⟨r,l,g,ts,rfl,⟨x,I⟩,q,k⟩:=h;refine⟨_,aq (bN (iZ (cB (cT G T.cl v cD (pv 0) (ac (pv 1) ao)))) (aq (cX PySem.F.excBase_ValueError u.exc rfl (by rfl) u.wt (ac (DT (pv 1)) ao) ft)) bh),?_⟩;obtain⟨dx,p,y⟩:=q.obj;refine⟨_,rfl,r,dx,_,rfl,y,cN,_,rfl,r,l,g,ts,rfl,x,q,?_⟩;unfold cU at k;unfold c9;cases e:aJ (.word g) ts with
  |none=>
   rw[e]at k;intro H' a b;refine⟨_,rfl,?_⟩;refine d9 ?_;have j: (ai "there is no ").length+ (⟨g.toArray⟩:aQ).length+ (ai " where it must be").length<=aO:=by
    have B: (ai "there is no ").length=12:=by decide+kernel
    have z: (ai " where it must be").length=17:=by decide+kernel
    rw[B,z,cK];have: (1029:Nat)<=aO:=by decide
    lia
   exact⟨_,rfl,_,rfl,j,by show 1<=aO;decide,k _⟩
  |some ts'=>
   rw[e]at k;intro H' a b;refine⟨_,rfl,?_⟩;refine eC ?_;exact k H' a b
def jz(g h:aa):Sp:=fun vs H Q E=>CM fun(r l:aa) (e:aQ) (ts:List Tk)=>vs= [.ref r, .str e]/\e.length<=1000/\RdAt g H r l ts/\xZ g h r l e ts H Q E
theorem scTakes:bf ["self","sort","held"] ["self","sort"] (aA kI):=fP
theorem DY(D:DfM K RC "takes" "Reader.takes" kI ["self","sort"])(T:mO K RC)(U:Txt K mg WT)(GE:gy P w K mg base fh 1 RC "ended" ["self"] (fX RC)):
  gy P w K mg base (cE P w) 2 RC "takes" ["self","sort"] (jz RC WT):=by
 refine D.okX scTakes (fun f cdv A outer s H vs Q E W h=>?_)
 ·obtain⟨r,l,q,ts,rfl,hl,O,k⟩:=h;refine⟨_,aj (bN (PW.pt (lr (cB (wk GE T.cl W cD (pv 0))) (ip (bo Hv (fb si (fb fD (cp (pv 0) rfl) (cp (pv 0) rfl) (fun _ _=>rfl)) cw (fun _ _=>rfl)) (pv 1) (bE _)))))
    (aq (cX PySem.F.excBase_ValueError U.exc rfl (by rfl) U.wt (ac (DT (pv 1)) ao) ft)) bh)
   (aj (bR (i:=2) scTakes.nd rfl (Or.inl rfl) (fb si (fb fD (cp (pv 0) rfl) (cp (pv 0) rfl) (fun _ _=>rfl)) cw (fun _ _=>rfl)))
   (aj (pD (pv 0) cw ze) (aq (bb (pv 2))))),?_⟩
  obtain⟨dx,as,all,p,g,J,S,h4,X,R,C⟩:=O.ex;have B: (ai "there is no ").length+q.length+ (ai " where it must be").length<=aO:=by
   have Z: (ai "there is no ").length=12:=by decide+kernel
   have Y: (ai " where it must be").length=17:=by decide+kernel
   rw[Z,Y];have: (1029:Nat)<=aO:=by decide
   lia
  refine⟨_,rfl,r,dx,_,rfl,g,cN,r,l,ts,rfl,O,_,rfl,?_⟩;cases y:ts with
  |nil=>
   subst y;show if true=true then _ else _
   rw[qab rfl];refine d9 ?_;exact⟨_,rfl,_,rfl,B,by show 1<=aO;decide,k _⟩
  |cons u ts'=>
   show if false=true then _ else _
   rw[qaa (by simp)];rw[y]at C k;have hp:p < all.length:=by
    refine rM fun z=>?_;rw[cP z]at C;cases C
   have M:all[p]? =some u:=by
    have:=qaf (fun l=>l[0]?) C.symm;rw[cO]at this;exact this
   obtain⟨G,x,v⟩:=xY S M;rw[u.vs_eq]at v;refine⟨_,rfl,r,RC,dx,_,_,rfl,g,T.cl,T.tokens,mP _ _,_,rfl,r,RC,dx,_,_,rfl,g,T.cl,T.place,j9 _ _,l,_,_, .ref G,rfl,rfl,SqL.of J,f8 (by rw[bp,x];rfl),?_⟩;refine⟨G,_,0,_,rfl,rfl,SqT.of v,f8 (j:=0) rfl,_,rfl,rfl,_,rfl,?_⟩;show if(!decide (V.str u.sort=V.str q))=true then _ else _
   by_cases I:u.sort=q
   ·have k2:∀H',RdAt RC H' r l ts'->Fx [r] H H'->u.ok->Q u.held H':=by
     have:=k;rw[dP,qab I]at this;exact this
    rw[qad (by rw[I])];refine eC ?_;refine⟨_,rfl,r,RC,dx,_,_,rfl,g,T.cl,T.tokens,mP _ _,_,rfl,r,RC,dx,_,_,rfl,g,T.cl,T.place,j9 _ _,l,_,_, .ref G,rfl,rfl,SqL.of J,f8 (by rw[bp,x];rfl),?_⟩;refine⟨G,_,1,_,rfl,rfl,SqT.of v,f8 (j:=1) rfl,?_⟩;refine⟨_,rfl,r,RC,dx,_,_,rfl,g,T.cl,T.place,j9 _ _,_,_,rfl,rfl,dx,_,g,(by show 2 < 1000;decide),?_⟩;have e:fV "place" (V.int ((p:Int)+1)) (rf l p)=rf l (p+1):=DV l p (p+1);rw[e];exact⟨_,rfl,k2 _ (RdAt.next g J S X R C.symm) (Fx.set af) (R u (bd M))⟩
   ·have k2:∀H',E (.ref WT) none H':=by
     have:=k;rw[dP,qaa I]at this;exact this
    rw[decide_eq_false (by intro z;injection z with z;exact I z)];refine d9 ?_;exact⟨_,rfl,_,rfl,B,by show 1<=aO;decide,k2 _⟩
end
def oi:Option Int->V
 |none=> .non
 |some z=> .int z
def kf(form:aQ)(target:List Nat)(low high:Option Int)(pl:aa)(roots:Nat)(ext:Bool)(pa op:aa)(waits:Bool):List (aQ×V):=
 [("form", .str form),("target",sv target),("low",oi low),("high",oi high),("places", .ref pl),("roots", .int (roots:Int)),("extensible", .bl ext),("parts", .ref pa),("needed", .ref op),("waits", .bl waits)]
section
variable {form:aQ}{target:List Nat}{low high:Option Int}{pl:aa}{roots:Nat}{ext:Bool}{pa op:aa}{waits:Bool}
theorem dF: (kf form target low high pl roots ext pa op waits).lookup ("form":aQ)=some (.str form):=by rfl
theorem mQ: (kf form target low high pl roots ext pa op waits).lookup ("target":aQ)=some (sv target):=by rfl
theorem wn: (kf form target low high pl roots ext pa op waits).lookup ("low":aQ)=some (oi low):=by rfl
theorem AE: (kf form target low high pl roots ext pa op waits).lookup ("high":aQ)=some (oi high):=by rfl
theorem gV: (kf form target low high pl roots ext pa op waits).lookup ("places":aQ)=some (.ref pl):=by rfl
theorem sN: (kf form target low high pl roots ext pa op waits).lookup ("roots":aQ)=some (.int (roots:Int)):=by rfl
theorem DZ: (kf form target low high pl roots ext pa op waits).lookup ("extensible":aQ)=some (.bl ext):=by rfl
theorem fY: (kf form target low high pl roots ext pa op waits).lookup ("parts":aQ)=some (.ref pa):=by rfl
theorem pZ: (kf form target low high pl roots ext pa op waits).lookup ("needed":aQ)=some (.ref op):=by rfl
theorem sO: (kf form target low high pl roots ext pa op waits).lookup ("waits":aQ)=some (.bl waits):=by rfl
end
section
variable(form:aQ)(target:List Nat)(low high:Option Int)(pl:aa)(roots:Nat)(ext:Bool)(pa op:aa)(waits:Bool)
theorem ut(t:List Nat):fV "target" (sv t) (kf form target low high pl roots ext pa op waits)=kf form t low high pl roots ext pa op waits:=by rfl
theorem sP(z:Option Int):fV "low" (oi z) (kf form target low high pl roots ext pa op waits)=kf form target z high pl roots ext pa op waits:=by rfl
theorem qF(z:Option Int):fV "high" (oi z) (kf form target low high pl roots ext pa op waits)=kf form target low z pl roots ext pa op waits:=by rfl
theorem wo(n:Nat):fV "roots" (.int (n:Int)) (kf form target low high pl roots ext pa op waits)=kf form target low high pl n ext pa op waits:=by rfl
theorem sQ(b:Bool):fV "extensible" (.bl b) (kf form target low high pl roots ext pa op waits)=kf form target low high pl roots b pa op waits:=by rfl
theorem kS(b:Bool):fV "waits" (.bl b) (kf form target low high pl roots ext pa op waits)=kf form target low high pl roots ext pa op b:=by rfl
end
structure rA(K:PySem.W.Frag)(KC:aa):Prop where
 cl:Cls K KC
 form:NoAttr K KC "form"
 target:NoAttr K KC "target"
 low:NoAttr K KC "low"
 high:NoAttr K KC "high"
 places:NoAttr K KC "places"
 roots:NoAttr K KC "roots"
 ext:NoAttr K KC "extensible"
 parts:NoAttr K KC "parts"
 opt:NoAttr K KC "needed"
 waits:NoAttr K KC "waits"
inductive Kd where
 |mk (form:aQ) (target:List Nat) (low high:Option Int) (names:List (List Nat)) (roots:Nat) (ext:Bool) (parts:List Kd) (opts:List Bool)
structure Kr where
 form:aQ
 target:List Nat:= []
 low:Option Int:=none
 high:Option Int:=none
 names:List (List Nat):= []
 roots:Nat:=0
 ext:Bool:=false
 parts:List Kd:= []
 opts:List Bool:= []
 waits:Bool:=false
def Kr.fin(k:Kr):Kd:= .mk k.form k.target k.low k.high k.names k.roots k.ext k.parts k.opts
structure Fm where
 a:aa
 pl:aa
 pa:aa
 op:aa
def Fm.l(f:Fm):List aa:= [f.a,f.pl,f.pa,f.op]
def kT(i:Nat):List (List Nat)->List (g0×V)
 | []=> []
 |n::r=>(bQ ⟨n.toArray⟩, .int (i:Int))::kT (i+1) r
def nmd(l:List (List Nat)):List (g0×V):=kT 0 l
theorem vm(n:List Nat):∀(l:List (List Nat)) (i:Nat),kT i (l++ [n])=kT i l++ [(bQ ⟨n.toArray⟩, .int ((i+l.length:Nat):Int))]
 | [],i=>rfl
 |m::r,i=>by
  show _::kT (i+1) (r++ [n])=_::_;rw[vm n r (i+1)];simp only[ae,rj];rw[show i+1+r.length=i+ (r.length+1) by lia];rfl
theorem sR:∀(l:List (List Nat)) (i:Nat),(kT i l).length=l.length
 | [],_=>rfl
 |_::r,i=>by show(kT (i+1) r).length+1=_;rw[sR r];rfl
theorem oJ(n:List Nat):∀(l:List (List Nat)) (i:Nat),(gf (kT i l) (bQ (⟨n.toArray⟩:aQ))).isSome=decide (n∈l)
 | [],i=>rfl
 |m::r,i=>by
  by_cases e:m=n
  ·subst e;rw[kT,i9 rfl];simp
  ·have g:¬((bQ ⟨m.toArray⟩:g0)=bQ ⟨n.toArray⟩):=fun z=>e (by injection z with z;injection z with z;simpa using z);rw[kT,ja g,oJ n r (i+1)];have:n∈m::r↔n∈r:=by rw[am];exact⟨fun z=>z.resolve_left (fun z=>e z.symm), .inr⟩
   simp only[this]
def ly(l:List Bool):Nat:=l.countP fun b=> !b
def kU(l:List Bool):List V:=(lD (l.length+1)).map fun i=>V.int ((ly (l.take i):Nat):Int)
theorem vn(l:List Bool):kU l= ((lD l.length).map fun i=>V.int ((ly (l.take i):Nat):Int))++ [V.int ((ly l:Nat):Int)]:=by
 unfold kU;rw[List.range_succ,ay,List.map_singleton,eV]
theorem D0(l:List Bool)(b:Bool):ly (l++ [b])=ly l+ (if b=true then 0 else 1):=by
 unfold ly;rw[CG];cases b<;>rfl
theorem Ca(l:List Bool)(b:Bool):kU (l++ [b])=kU l++ [V.int ((ly l+ (if b=true then 0 else 1):Nat):Int)]:=by
 rw[vn (l++ [b]),D0,au,ci];congr 1;unfold kU;refine bI fun i e=>?_;rw[List.take_append_of_le_length (by have:=He.mp e;lia)]
theorem sS(l:List Bool): (kU l).length=l.length+1:=by unfold kU;rw[ah,List.length_range]
def oK(G:List Fm):List aa:=G.map Fm.pa
mutual
/-- a read kind stands at an address,apart from M;G:those that only name another -/
inductive KAt(KC:aa)(M:List aa)(G:List Fm)(H:Hp):aa->Kd->Prop
 |mk {f:Fm} {dx:aa} {as:List aa} {form:aQ} {target:List Nat} {low high:Option Int} {names:List (List Nat)} {roots:Nat} {ext:Bool} {parts:List Kd} {opts:List Bool} :
   H f.a=some (.ins KC dx (kf form target low high f.pl roots ext f.pa f.op false))->H f.pl=some (.dK (nmd names))->H f.pa=some (.lst (as.map V.ref))->H f.op=some (.lst (kU opts))->
   (∀b∈f.l,b∉M)->(form="a name"->f∈G)->(form≠"a name"->f.pa∉oK G)->KsAt KC M G H as parts->KAt KC M G H f.a (.mk form target low high names roots ext parts opts)
inductive KsAt(KC:aa)(M:List aa)(G:List Fm)(H:Hp):List aa->List Kd->Prop
 |nil:KsAt KC M G H [] []
 |cons {a:aa} {as:List aa} {k:Kd} {ks:List Kd} :KAt KC M G H a k->KsAt KC M G H as ks->KsAt KC M G H (a::as) (k::ks)
end
structure Gw(H:Hp)(G G':List Fm):Prop where
 sub:∀g∈G,g∈G'
 new:∀b∈oK G',b∈oK G\/H b=none
theorem Gw.refl{H:Hp}{G:List Fm} :Gw H G G:=⟨fun _ h=>h,fun _ h=> .inl h⟩
mutual
theorem KAt.move{B:aa}{M M':List aa}{G G':List Fm}{H H':Hp}(y:Fx M H H')(x:∀b,b∈M'->b∈M\/H b=none)(j:Gw H G G':=by exact Gw.refl):∀ {a:aa} {k:Kd},KAt B M G H a k->KAt B M' G' H' a k
 |_,_, .mk (f:=f) h1 h2 h3 h4 h5 h7 h8 h6=>by
  have m:∀ {b:aa} {o:HO},b∈f.l->H b=some o->H' b=some o/\b∉M':=fun {b o} g e=>⟨y b o (h5 b g) e,fun z=>by
   rcases x b z with q|q
   ·exact h5 b g q
   ·rw[q]at e;cases e⟩
  have v:f.a∈f.l:=by simp[Fm.l]
  have u:f.pl∈f.l:=by simp[Fm.l]
  have r:f.pa∈f.l:=by simp[Fm.l]
  have p:f.op∈f.l:=by simp[Fm.l]
  refine .mk (m v h1).1 (m u h2).1 (m r h3).1 (m p h4).1 (fun b g=>?_) (fun e=>j.sub _ (h7 e)) (fun e z=>?_) (KsAt.move y x j h6)
  ·have h:b=f.a\/b=f.pl\/b=f.pa\/b=f.op:=by simpa[Fm.l]using g
   rcases h with z|z|z|z
   ·rw[z];exact(m v h1).2
   ·rw[z];exact(m u h2).2
   ·rw[z];exact(m r h3).2
   ·rw[z];exact(m p h4).2
  ·rcases j.new _ z with q|q
   ·exact h8 e q
   ·rw[h3]at q;cases q
theorem KsAt.move{p:aa}{M M':List aa}{G G':List Fm}{H H':Hp}(j:Fx M H H')(g:∀b,b∈M'->b∈M\/H b=none)(h:Gw H G G':=by exact Gw.refl):∀ {as:List aa} {e:List Kd},KsAt p M G H as e->KsAt p M' G' H' as e
 |_,_, .nil=> .nil
 |_,_, .cons a b=> .cons (KAt.move j g h a) (KsAt.move j g h b)
end
structure KrAt(KC:aa)(M:List aa)(G:List Fm)(H:Hp)(f:Fm)(k:Kr):Prop where
 ex:∃(dx:aa) (as:List aa),H f.a=some (.ins KC dx (kf k.form k.target k.low k.high f.pl k.roots k.ext f.pa f.op k.waits))/\H f.pl=some (.dK (nmd k.names))/\H f.pa=some (.lst (as.map V.ref))/\H f.op=some (.lst (kU k.opts))/\KsAt KC M G H as k.parts/\f.l.Nodup
section
variable {P:aZ}{w:bB}{K:PySem.W.Frag}{mg:aQ->Option ag}{base:bH}{WT RC KC:aa}
def dv(e:aa):Sp:=fun vs H Q _=>ES fun(x dx:aa) (form:aQ)=>vs= [.ref x, .str form]/\H x=some (.ins e dx [])/\
 ∀(f:Fm) (H':Hp),f.a=x->H' x=some (.ins e dx (kf form [] none none f.pl 0 false f.pa f.op false))->H' f.pl=some (.dK [])->H' f.pa=some (.lst [])->H' f.op=some (.lst [.int 0])->H f.pl=none->H f.pa=none->H f.op=none->f.pa≠f.op->Fx [x] H H'->Q .non H'
theorem zK:bf ["self","form"] ["self","form"] (aA pM):=fP
theorem wp(D:DfI K mg "Kind" KC "Kind.__init__" pM ["self","form"])(T:rA K KC):AC P w K mg base fh 1 "Kind" KC ["self","form"] (dv KC):=by
 refine D.ok zK (fun f G A outer s H vs Q E I h=>?_)
 ·obtain⟨x,dx,form,rfl,F,k⟩:=h;refine⟨_,aj (d4 (pv 0) (pv 1) rfl) (aj (d4 (pv 0) aX rfl) (aj (d4 (pv 0) lW rfl) (aj (d4 (pv 0) lW rfl) (aj (d4 (pv 0) xE rfl)
   (aj (d4 (pv 0) cw rfl) (aj (d4 (pv 0) ib rfl) (aj (d4 (pv 0) (iq ao) rfl) (aj (d4 (pv 0) (iq (ac cw ao)) rfl) (aq (d4 (pv 0) ib rfl)))))))))),?_⟩
  refine⟨_,rfl,_,rfl,x,KC,dx, [],rfl,F,T.cl,T.form,(by show 0 < 1000;decide),?_⟩;refine⟨_,rfl,x,KC,dx,_,rfl,aU,T.cl,T.target,(by show 1 < 1000;decide),?_⟩;refine⟨_,rfl,x,KC,dx,_,rfl,aU,T.cl,T.low,(by show 2 < 1000;decide),?_⟩;refine⟨_,rfl,x,KC,dx,_,rfl,aU,T.cl,T.high,(by show 3 < 1000;decide),?_⟩;intro pl q;have u:pl≠x:=fun z=>by rw[z,aU]at q;cases q
  refine⟨_,rfl,x,KC,dx,_,rfl,by rw[aY u.symm];exact aU,T.cl,T.places,(by show 4 < 1000;decide),?_⟩;refine⟨_,rfl,x,KC,dx,_,rfl,aU,T.cl,T.roots,(by show 5 < 1000;decide),?_⟩;refine⟨_,rfl,x,KC,dx,_,rfl,aU,T.cl,T.ext,(by show 6 < 1000;decide),?_⟩;refine⟨by decide,fun pa j=>?_⟩;have r:pa≠x:=fun z=>by rw[z,aU]at j;cases j
  refine⟨_,rfl,x,KC,dx,_,rfl,by rw[aY r.symm];exact aU,T.cl,T.parts,(by show 7 < 1000;decide),?_⟩;refine⟨by decide,fun op g=>?_⟩;have p:op≠x:=fun z=>by rw[z,aU]at g;cases g
  refine⟨_,rfl,x,KC,dx,_,rfl,by rw[aY p.symm];exact aU,T.cl,T.opt,(by show 8 < 1000;decide),?_⟩;refine⟨_,rfl,x,KC,dx,_,rfl,aU,T.cl,T.waits,(by show 9 < 1000;decide),?_⟩
  repeat rw[aY u]at q
  repeat rw[aY r]at j
  repeat rw[aY p]at g
  have B:pa≠pl:=fun z=>by rw[z,aU]at j;cases j
  rw[aY B]at j
  repeat rw[aY r]at j
  have v:op≠pa:=fun z=>by rw[z,aU]at g;cases g
  rw[aY v]at g
  repeat rw[aY p]at g
  have y:op≠pl:=fun z=>by rw[z,aU]at g;cases g
  rw[aY y]at g
  repeat rw[aY p]at g
  refine k ⟨x,pl,pa,op⟩ _ rfl (by rw[aU];rfl) ?_ ?_ ?_ q j g v.symm fun b o n e=>?_
  ·repeat first|rw[aY u] |rw[aY B.symm] |rw[aY y.symm] |rw[aU]
  ·repeat first|rw[aY r] |rw[aY v.symm] |rw[aU]
  ·repeat first|rw[aY p] |rw[aU]
  ·have C:b≠x:=fun z=>n (by rw[z];exact af)
   repeat first|rw[aY C] |rw[aY (br e g)] |rw[aY (br e j)] |rw[aY (br e q)]
   exact e
structure D1(KC:aa)(H H':Hp)(f:Fm)(form:aQ):Prop where
 at_:∀M G,KrAt KC M G H' f { form:=form }
 new:∀b∈f.l,H b=none
 keep:Fx [] H H'
theorem Cb{form:aQ}{H:Hp}{Q:VK}(h:∀(f:Fm) (H':Hp),D1 KC H H' f form->Q (.ref f.a) H'):∀x dx,H x=none->H dx=none->dx≠x->
  dv KC [.ref x, .str form] (dJ (dJ H dx (.own x)) x (.ins KC dx [])) (fun v H2=>v= .non/\Q (.ref x) H2) E0:=by
 intro x dx D y g;refine⟨x,dx,form,rfl,aU,fun f H' e X C F E q p j S W=>⟨rfl,?_⟩⟩;subst e;have R:f.pl≠f.a:=fun z=>by rw[z,aU]at q;cases q
 have O:f.pa≠f.a:=fun z=>by rw[z,aU]at p;cases p
 have J:f.op≠f.a:=fun z=>by rw[z,aU]at j;cases j
 have d1:f.pl≠dx:=fun z=>by rw[z,aY g,aU]at q;cases q
 have Z:f.pa≠dx:=fun z=>by rw[z,aY g,aU]at p;cases p
 have Y:f.op≠dx:=fun z=>by rw[z,aY g,aU]at j;cases j
 rw[aY R,aY d1]at q;rw[aY O,aY Z]at p;rw[aY J,aY Y]at j;have u:f.pl≠f.pa:=xp C F (by intro z;cases z);have r:f.pl≠f.op:=xp C E (by intro z;cases z);refine h f H' ⟨fun M G=>⟨dx, [],X,C,F,E, .nil,?_⟩,fun b U=>?_,fun b o _ e=>?_⟩
 ·simp[Fm.l,R.symm,O.symm,J.symm,u,r,S]
 ·have B:b=f.a\/b=f.pl\/b=f.pa\/b=f.op:=by simpa[Fm.l]using U
  rcases B with z|z|z|z
  ·rw[z];exact D
  ·rw[z];exact q
  ·rw[z];exact p
  ·rw[z];exact j
 ·have I:b≠f.a:=br e D;refine W b o (by simpa using I) ?_;rw[aY I,aY (br e y)];exact e
end
abbrev cd(s:String):List Nat:=s.toList.map pc
def OWN:List (List Nat):= [cd "BIT",cd "BOOLEAN",cd "CHOICE",cd "ENUMERATED",cd "FALSE",cd "INTEGER",cd "MAX",cd "MIN",cd "NULL",cd "OCTET",cd "OF",cd "OPTIONAL",cd "SEQUENCE",cd "SIZE",cd "STRING",cd "TRUE"]
def eY:Int:= -9223372036854775808
def ig:Int:=9223372036854775807
structure D2(K:PySem.W.Frag)(mg:aQ->Option ag):Prop where
 kinds:ou mg "MOST_KINDS" (.int 256)
 least:ou mg "LEAST_INTEGER" (.int eY)
 most:ou mg "MOST_INTEGER" (.int ig)
 size:ou mg "MOST_SIZE" (.int 65535)
 named:ou mg "NAMED" (.str "a name")
 seqof:ou mg "SEQUENCE_OF" (.str "SEQUENCE OF")
 own:∃a,mg "OWN_WORDS"=some (.ref a)/\∀H,SqT K H a (OWN.map sv)
theorem Gb(z:Int): (Tk.num z).sort="number":=rfl
theorem oM(l:List Nat): (Tk.word l).sort="word":=rfl
theorem jA{t:Tk}(h:∀z,t≠ .num z):¬t.sort="number":=by
 have p:¬(ai "word"=ai "number"):=by decide+kernel
 have j:¬(ai "bits"=ai "number"):=by decide+kernel
 have g:¬(ai "octets"=ai "number"):=by decide+kernel
 have e:¬(ai "sign"=ai "number"):=by decide+kernel
 cases t with
 |word l=>exact p
 |num z=>exact absurd rfl (h z)
 |bits l=>exact j
 |octs l=>exact g
 |sign l=>exact e
theorem cF{t:Tk}(h:∀z,t≠ .word z):¬t.sort="word":=by
 have p:¬(ai "number"=ai "word"):=by decide+kernel
 have j:¬(ai "bits"=ai "word"):=by decide+kernel
 have g:¬(ai "octets"=ai "word"):=by decide+kernel
 have e:¬(ai "sign"=ai "word"):=by decide+kernel
 cases t with
 |word l=>exact absurd rfl (h l)
 |num z=>exact p
 |bits l=>exact j
 |octs l=>exact g
 |sign l=>exact e
def p9(w:List Nat):Bool:=match w with|c::_=>upC c| []=>false
def cW(w:List Nat):Bool:=match w with|c::_=>v0 c| []=>false
def eF(w:List Nat):Bool:=p9 w&& !decide (w∈OWN)
def cG(e g:Int):List Tk->Option (Int×List Tk)
 | .num z::r=>if z < e\/g < z then none else some (z,r)
 |_=>none
def fM(low:Option Int)(e g:Int)(ts:List Tk):Option (Option Int×List Tk):=match aJ (.sign (cd "..")) ts with
 |none=>match low with
  |none=>none
  |some a=>some (some a,ts)
 |some r=>match aJ (.word (cd "MAX")) r with
  |some r2=>some (none,r2)
  |none=>match cG e g r with
   |none=>none
   |some (h,r2)=>if(low.any fun a=>decide (h < a))=true then none else some (some h,r2)
def mn{e:Type}(h g r l:aa)(o:Option (e×List Tk))(val:e->V)(H:Hp)(Q:VK)(E:XK):Prop:=match o with
 |some x=>∀H',RdAt h H' r l x.2->Fx [r] H H'->Q (val x.1) H'
 |none=>∀H',E (.ref g) none H'
theorem D3(w:List Nat):∀l:List (List Nat),inV (sv w) (l.map sv)=decide (w∈l)
 | []=>rfl
 |m::r=>by
  show(FM (sv m) (sv w) || inV (sv w) (r.map sv))=_;rw[D3 w r];show(((⟨m.toArray⟩:aQ) ==(⟨w.toArray⟩:aQ)) || decide (w∈r))=_;rw[DW];by_cases e:m=w
  ·rw[qad e,qx,qad (by rw[e];exact af)]
  ·rw[decide_eq_false e,kr];have:w∈m::r↔w∈r:=by rw[am];exact⟨fun z=>z.resolve_left (fun z=>e z.symm), .inr⟩
   simp only[this]
theorem Gc(l:List (List Nat)): (l.map sv).all oC=true:=by
 rw[lG,bw];intro x _;rfl
section
variable {P:aZ}{w:bB}{K:PySem.W.Frag}{mg:aQ->Option ag}{base:bH}{WT RC KC:aa}
def jL(e:aa):Sp:=fun vs H Q E=>∃w:List Nat,vs= [sv w]/\(w≠ []/\∀c∈w,c < 128)/\w.length<=65536/\(eF w=true->Q (sv w) H)/\(eF w=false->∀H',E (.ref e) none H')
theorem uu:bf ["word"] ["word"] (aA gT):=fP
theorem ra(D:Df K mg "checked_kind_name" gT ["word"])(y:Txt K mg WT)(T:D2 K mg):Ok P w K mg base (cE P w) 1 "checked_kind_name" ["word"] (jL WT):=by
 refine D.okX uu (fun f G A outer s H vs Q E I h=>?_)
 ·obtain⟨w,rfl,⟨q,C⟩,B,k1,k2⟩:=h;obtain⟨ow,j,z⟩:=T.own;refine⟨_,aj (bN (PW.pt (lr (iZ (cB (As PySem.F.slot_str_isupper PySem.F.type_str_isupper zt (fb nK (pv 0) cw (fun _ _=>rfl))))) (ip (bo BM (pv 0) (vO (v:= .ref ow) (by rfl) j rfl) (by with_unfolding_all rfl)))))
    (aq (cX PySem.F.excBase_ValueError y.exc rfl (by rfl) y.wt (ac aX ao) ft)) bh) (aq (bb (pv 0))),?_⟩
  cases w with
  |nil=>exact absurd rfl q
  |cons c r=>
   refine⟨_,rfl,_,_,c,rfl,rfl,gl B,sB (p:=0) rfl,⟨_,rfl⟩,_,rfl,rfl,trivial,_,rfl,?_⟩;rw[IN c (C c af)];have e:eF (c::r)= (upC c&& !decide (c::r∈OWN)):=rfl;by_cases x:upC c=true
   ·rw[x]at e ⊢;rw[wY]at e;show if(!true)=true then _ else _
    rw[qaa (by simp)];refine⟨_,rfl,ow,_,rfl, .inr (z _),rfl,Gc _,_,rfl,?_⟩;show if inV (sv (c::r)) (OWN.map sv)=true then _ else _
    rw[D3];refine du (fun u=>?_) (fun u=>?_)
    ·exact⟨by decide,k2 (by rw[e,u];rfl) _⟩
    ·exact⟨_,rfl,k1 (by rw[e];simpa using u)⟩
   ·have g:upC c=false:=by simpa using x
    rw[g]at e ⊢;show if(!false)=true then _ else _
    rw[qab (by decide)];exact d9 ⟨by decide,k2 e _⟩
def gz(h j:aa):Sp:=fun vs H Q E=>Ex5 fun(r l:aa) (e g:Int) (ts:List Tk)=>vs= [.ref r, .int e, .int g]/\RdAt h H r l ts/\mn h j r l (cG e g ts) V.int H Q E
theorem scReadNumber:bf ["self","least","most","number"] ["self","least","most"] (aA gg):=fP
theorem rb(D:DfM K RC "takes_number" "Reader.takes_number" gg ["self","least","most"])(u:Txt K mg WT)(M:mO K RC)(O:gy P w K mg base (cE P w) 2 RC "takes" ["self","sort"] (jz RC WT)):gy P w K mg base (cE P w) 3 RC "takes_number" ["self","least","most"] (gz RC WT):=by
 refine D.okX scReadNumber (fun f J A outer s H vs Q E C h=>?_)
 ·obtain⟨r,l,v,x,ts,rfl,y,k⟩:=h;refine⟨_,aj (bR (i:=3) scReadNumber.nd rfl (Or.inl rfl) (cT O M.cl C aP (pv 0) (ac (ek u.number) ao)))
   (aj (bN (PW.pt (lr (bo lu (pv 3) (pv 1) (bE _)) (ip (bo lY (pv 3) (pv 2) (bE _))))) (aq (cX PySem.F.excBase_ValueError u.exc rfl (by rfl) u.wt (ac aX ao) ft)) bh)
   (aq (bb (pv 3)))),?_⟩
  obtain⟨dx,p,I⟩:=y.obj;refine⟨_,rfl,r,dx,_,rfl,I,cN,r,l,"number",ts,rfl,by decide+kernel,y,?_⟩;cases ts with
  |nil=>exact fun H'=>k H'
  |cons t ts'=>
   rw[dP];cases t with
   |num z=>
    rw[qab (Gb z)];intro H' q G _;have B:cG v x (.num z::ts')=if z < v\/x < z then none else some (z,ts'):=rfl
    rw[B]at k;refine⟨_,rfl,_,rfl,_,_,rfl,rfl,_,rfl,?_⟩;refine du (fun j=>?_) (fun j=>?_)
    ·rw[qab (.inl (qac j))]at k;exact d9 ⟨by decide,k _⟩
    ·refine⟨_,rfl,_,rfl,_,_,rfl,rfl,_,rfl,?_⟩;refine du (fun g=>?_) (fun g=>?_)
     ·rw[qab (.inr (qac g))]at k;exact⟨by decide,k _⟩
     ·rw[qaa (fun z=>z.elim (fun z=>j (qad z)) fun z=>g (qad z))]at k;exact⟨_,rfl,k H' q G⟩
   |word a=>rw[qaa (jA (by intro z e;cases e))];exact fun H'=>k H'
   |bits a=>rw[qaa (jA (by intro z e;cases e))];exact fun H'=>k H'
   |octs a=>rw[qaa (jA (by intro z e;cases e))];exact fun H'=>k H'
   |sign a=>rw[qaa (jA (by intro z e;cases e))];exact fun H'=>k H'
def nX(h j:aa):Sp:=fun vs H Q E=>Ex6 fun(r l:aa) (low:Option Int) (e g:Int) (ts:List Tk)=>vs= [.ref r,oi low, .int e, .int g]/\RdAt h H r l ts/\mn h j r l (fM low e g ts) oi H Q E
theorem scReadHigh:bf ["reader","low","least","most","high"] ["reader","low","least","most"] (aA pN):=fP
theorem wq(D:Df K mg "read_high" pN ["reader","low","least","most"])(T0:Txt K mg WT)(I:mO K RC)(GS:gy P w K mg base fh 3 RC "skips_sign" ["self","sign"] (eX RC))(GW:gy P w K mg base fh 3 RC "skips_word" ["self","word"] (gm RC))
  (GNS:gy P w K mg base (cE P w) 4 RC "needs_sign" ["self","sign"] (df RC WT)) (GN:gy P w K mg base (cE P w) 3 RC "takes_number" ["self","least","most"] (gz RC WT)):Ok P w K mg base (cE P w) 5 "read_high" ["reader","low","least","most"] (nX RC WT):=by
 refine D.okX scReadHigh (fun f cdv A outer s H vs Q E hr h=>?_)
 ·obtain⟨r,l,low,J,M,ts,rfl,U,k⟩:=h;have B:=hr.mono (show 3<=4 by decide);refine⟨_,aj (bN (bo Iu (pv 1) lW (bE _)) (aq (cb (cT GNS I.cl hr aP (pv 0) (ac aX ao))))
    (aq (bN (iZ (cB (cT GS I.cl B cD (pv 0) (ac aX ao)))) (aq (bb (pv 1))) bh)))
   (aj (bN (cB (cT GW I.cl B cD (pv 0) (ac aX ao))) (aq (bb lW)) bh)
   (aj (bR (i:=4) scReadHigh.nd rfl (Or.inl rfl) (cT GN I.cl B aP (pv 0) (ac (pv 2) (ac (pv 3) ao))))
   (aj (bN (PW.pt (kz (bo vP (pv 1) lW (bE _)) (ju (bo lu (pv 4) (pv 1) (bE _))))) (aq (cX PySem.F.excBase_ValueError T0.exc rfl (by rfl) T0.wt (ac aX ao) ft)) bh)
   (aq (bb (pv 4)))))),?_⟩
  obtain⟨dx,p,h1⟩:=U.obj;unfold fM at k;refine je fun R S=>?_;have y:∀(H1:Hp) (g:List Tk),aJ (.sign (cd "..")) ts=some g->RdAt RC H1 r l g->Fx [r] H H1->R [some (.ref r),some (oi low),some (.int J),some (.int M),none] H1:=by
   intro H1 g e q j;rw[e]at k;dsimp only at k;rw[S];obtain⟨Z,p1,X⟩:=q.obj;refine⟨_,rfl,r,Z,_,rfl,X,cN,r,l,cd "MAX",g,rfl,by decide+kernel,q,?_⟩;unfold c9;cases e2:aJ (.word (cd "MAX")) g with
   |some ts2=>
    rw[e2]at k;intro H2 u v;refine⟨_,rfl,d9 ?_⟩;exact k H2 u (j.trans v)
   |none=>
    rw[e2]at k;dsimp only at k;intro H2 u v;refine⟨_,rfl,eC ?_⟩;obtain⟨Y,p2,W⟩:=u.obj;refine⟨_,rfl,r,Y,_,rfl,W,cN,_,rfl,_,rfl,r,l,J,M,g,rfl,u,?_⟩;unfold mn;cases e3:cG J M g with
    |none=>rw[e3]at k;exact fun H'=>k H'
    |some x=>
     obtain⟨z,ts3⟩:=x;rw[e3]at k;dsimp only at k;intro H3 C G;cases low with
     |none=>
      refine⟨_,rfl,rfl,_,rfl,eC (eC ?_)⟩;exact⟨_,rfl,k H3 C ((j.trans v).trans G)⟩
     |some a=>
      refine⟨_,rfl,rfl,_,rfl,d9 ?_⟩;refine⟨_,rfl,_,rfl,_,_,rfl,rfl,_,rfl,?_⟩;refine du (fun O=>?_) (fun O=>?_)
      ·rw[qab (show((some a).any fun a=>decide (z < a))=true from O)]at k;exact⟨by decide,k _⟩
      ·rw[qaa (show ¬((some a).any fun a=>decide (z < a))=true from O)]at k;exact⟨_,rfl,k H3 C ((j.trans v).trans G)⟩
  cases low with
  |none=>
   refine⟨_,rfl,rfl,_,rfl,d9 ?_⟩;refine⟨_,rfl,r,dx,_,rfl,h1,cN,r,l,cd "..",ts,rfl,by decide+kernel,U,?_⟩;unfold cU;cases e:aJ (.sign (cd "..")) ts with
   |none=>rw[e]at k;exact fun H'=>k H'
   |some g=>exact fun H1 q j=>y H1 g e q j
  |some a=>
   refine⟨_,rfl,rfl,_,rfl,eC ?_⟩;refine⟨_,rfl,r,dx,_,rfl,h1,cN,r,l,cd "..",ts,rfl,by decide+kernel,U,?_⟩;unfold c9;cases e:aJ (.sign (cd "..")) ts with
   |none=>
    rw[e]at k;intro H1 q j;refine⟨_,rfl,d9 ?_⟩;exact⟨_,rfl,k H1 q j⟩
   |some g=>
    intro H1 q j;refine⟨_,rfl,eC ?_⟩;exact y H1 g e q j
end
theorem Fx.putNew{M:List aa}{H H1:Hp}{a:aa}{o:HO}(h:Fx M H H1)(g:H a=none):Fx M H (dJ H1 a o):=fun b u n e=>by
 rw[aY (br e g)];exact h b u n e
theorem KrAt.keep0{j:aa}{M M':List aa}{G:List Fm}{H H':Hp}{f:Fm}{k:Kr}(h:KrAt j M G H f k)(p:k.parts= [])(e:Fx M' H H')(hd:∀b∈f.l,b∉M'):KrAt j [] [] H' f k:=by
 obtain⟨dx,as,x,v,u,r,g,q⟩:=h.ex;refine⟨dx,as,e _ _ (hd _ (by simp[Fm.l])) x,e _ _ (hd _ (by simp[Fm.l])) v,e _ _ (hd _ (by simp[Fm.l])) u,e _ _ (hd _ (by simp[Fm.l])) r,?_,q⟩;rw[p]at g ⊢;cases g;exact .nil
theorem ii{B C:aa}{H:Hp}{r l:aa}{ts:List Tk}{M:List aa}{G:List Fm}{f:Fm}{k:Kr}(j:RdAt B H r l ts)(h:KrAt C M G H f k):r∉f.l:=fun z=>by
 obtain⟨dx,p,e⟩:=j.obj;obtain⟨y,as,x,v,u,q,_⟩:=h.ex;have g:r=f.a\/r=f.pl\/r=f.pa\/r=f.op:=by simpa[Fm.l]using z
 rcases g with z|z|z|z
 ·rw[z,x]at e;injection e with e;injection e with _ _ e;cases e
 ·rw[z,v]at e;cases e
 ·rw[z,u]at e;cases e
 ·rw[z,q]at e;cases e
theorem Fm.out{f:Fm}{r:aa}(h:r∉f.l):∀b∈f.l,b∉ [r]:=fun b e z=>h (by rw[<-aw.mp z];exact e)
def lw(g e h r l:aa)(o:Option (Kr×List Tk))(H:Hp)(Q:VK)(E:XK):Prop:=match o with
 |some x=>∀(f:Fm) (H':Hp),KrAt h [] [] H' f x.1->(∀b∈f.l,H b=none)->RdAt g H' r l x.2->Fx [r] H H'->Q (.ref f.a) H'
 |none=>∀H',E (.ref e) none H'
def lx(low:Option Int)(ts:List Tk):Option (Kr×List Tk):=match fM low eY ig ts with
 |none=>none
 |some (high,r3)=>match aJ (.sign (cd ")")) r3 with
  |none=>none
  |some r4=>some ({ form:="INTEGER",low:=low,high:=high },r4)
def eG(ts:List Tk):Option (Kr×List Tk):=match aJ (.sign (cd "(")) ts with
 |none=>some ({ form:="INTEGER" },ts)
 |some r1=>match aJ (.word (cd "MIN")) r1 with
  |some r2=>lx none r2
  |none=>match cG eY ig r1 with
   |none=>none
   |some (z,r2)=>lx (some z) r2
theorem RdAt.newK{e j:aa}{H H':Hp}{r l:aa}{ts:List Tk}{f:Fm}{form:aQ}(h:RdAt e H r l ts)(n:D1 j H H' f form):RdAt e H' r l ts:=h.keep (M:= []) n.keep (by simp) (by simp) (fun b g=>by simp at g)
theorem RdAt.put{u C:aa}{H:Hp}{r l:aa}{ts:List Tk}{f:Fm}{k:Kr}{M:List aa}{G:List Fm}{o:HO}(h:RdAt u H r l ts)(j:KrAt C M G H f k):RdAt u (dJ H f.a o) r l ts:=by
 obtain⟨y,as,q,F,E,D,_⟩:=j.ex;have v:=ii h j;obtain⟨dx,B,all,p,I,g,_⟩:=h.ex;refine h.keep (M:= [f.a]) (Fx.set af) (fun z=>v (by rw[aw.mp z];simp[Fm.l])) (fun z=>?_) (fun b x xs e=>?_)
 ·rw[aw.mp z,q]at g;cases g
 ·rw[aw.mp x,q]at e;cases e
theorem KrAt.put0{j:aa}{M:List aa}{G:List Fm}{H:Hp}{f:Fm}{k:Kr}{dx dx':aa}(e:Kr)(h:KrAt j M G H f k)(p:k.parts= [])(C:e.names=k.names)(B:e.parts=k.parts)(y:e.opts=k.opts):
  KrAt j [] [] (dJ H f.a (.ins j dx (kf e.form e.target e.low e.high f.pl e.roots e.ext f.pa f.op e.waits))) f e:=by
 obtain⟨dx',as,D,x,v,u,r,q⟩:=h.ex;have g:=q;simp[Fm.l]at g;refine⟨dx,as,aU,?_,?_,?_,?_,q⟩
 ·rw[aY (fun z=>g.1.1 z.symm),C];exact x
 ·rw[aY (fun z=>g.1.2.1 z.symm)];exact v
 ·rw[aY (fun z=>g.1.2.2 z.symm),y];exact u
 ·rw[B,p];rw[p]at r;cases r;exact .nil
section
variable {P:aZ}{w:bB}{K:PySem.W.Frag}{mg:aQ->Option ag}{base:bH}{WT RC KC:aa}
theorem wr{form:aQ}{σ:St}{H:Hp}{Q:VK}(h:∀(f:Fm) (H':Hp),D1 KC H H' f form->Q (.ref f.a) H'):uQ KC (dv KC) [] E0 (ie (tC (.str form)) tNil) σ H Q:=Cb h
theorem kb{form:aQ}{i:Nat}{u:TS}{D:nH}{σ:St}{H:Hp}(h:∀(f:Fm) (H':Hp),D1 KC H H' f form->u D (σ.set i (some (.ref f.a))) H'):xq (zb (uQ KC (dv KC) [] E0 (ie (tC (.str form)) tNil)) (ni i)) u D σ H:=
 wr (σ:=σ) (Q:=fun x H1=>u D (σ.set i (some x)) H1) h
def nr(e g h:aa):Sp:=fun vs H Q E=>ES fun(r l:aa) (ts:List Tk)=>vs= [.ref r]/\RdAt e H r l ts/\lw e g h r l (eG ts) H Q E
theorem scReadInteger:bf ["reader","kind"] ["reader"] (aA kJ):=fP
theorem rc(D:DfA K mg "read_integer_schemas" "read_integer" kJ ["reader"])(T:D2 K mg)(TR:mO K RC)(TK:rA K KC)(GK:AC P w K mg base fh 1 "Kind" KC ["self","form"] (dv KC))
  (GS:gy P w K mg base fh 3 RC "skips_sign" ["self","sign"] (eX RC)) (GW:gy P w K mg base fh 3 RC "skips_word" ["self","word"] (gm RC)) (GNS:gy P w K mg base (cE P w) 4 RC "needs_sign" ["self","sign"] (df RC WT))
  (GN:gy P w K mg base (cE P w) 3 RC "takes_number" ["self","least","most"] (gz RC WT)) (GH:Ok P w K mg base (cE P w) 5 "read_high" ["reader","low","least","most"] (nX RC WT)):Ok P w K mg base (cE P w) 6 "read_integer_schemas" ["reader"] (nr RC WT KC):=by
 refine D.okX scReadInteger (fun fa cdv A outer s H vs Q E hr h=>?_)
 ·obtain⟨r,l,ts,rfl,hR,k⟩:=h;have hr2:=hr.mono (show 2<=5 by decide);have U:=hr.mono (show 3<=5 by decide);have hr4:=hr.mono (show 4<=5 by decide);refine⟨_,aj (bR (i:=1) scReadInteger.nd rfl (Or.inl rfl) (jK GK hr2 cD (ac aX ao)))
   (aj (bN (cB (cT GS TR.cl U cD (pv 0) (ac aX ao)))
    (aj (bN (iZ (cB (cT GW TR.cl U cD (pv 0) (ac aX ao)))) (aq (d4 (pv 1) (cT GN TR.cl U aP (pv 0) (ac (ek T.least) (ac (ek T.most) ao))) rfl)) bh)
    (aj (d4 (pv 1) (cy GH hr aP (ac (pv 0) (ac (cp (pv 1) rfl) (ac (ek T.least) (ac (ek T.most) ao))))) rfl)
    (aq (cb (cT GNS TR.cl hr4 aP (pv 0) (ac aX ao))))))
    bh)
   (aq (bb (pv 1)))),?_⟩
  refine kb fun f H1 hN=>?_;have Z:=hN.at_ [] [];have Y:=hR.newK hN;have G:∀b∈f.l,H b=none:=hN.new;have ho1:=ii Y Z;obtain⟨dx1,p1,h11⟩:=Y.obj;have hF1:Fx [r] H H1:=hN.keep.mono (by simp);refine⟨_,rfl,r,dx1,_,rfl,h11,cN,r,l,cd "(",ts,rfl,by decide+kernel,Y,?_⟩;unfold eG at k;unfold c9;cases e:aJ (.sign (cd "(")) ts with
  |none=>
   rw[e]at k;intro H2 v F;refine⟨_,rfl,eC ?_⟩;exact⟨_,rfl,k f H2 (Z.keep0 rfl F (Fm.out ho1)) G v (hF1.trans F)⟩
  |some ts1=>
   rw[e]at k;dsimp only at k;intro H2 v F;have I:=Z.keep0 rfl F (Fm.out ho1);have M:=hF1.trans F;refine⟨_,rfl,d9 ?_⟩;dsimp only[ni];refine je fun R hR0=>?_;have J:∀(low:Option Int) (O:Hp) (B:List Tk),KrAt KC [] [] O f { form:="INTEGER",low:=low } ->RdAt RC O r l B->Fx [r] H O->lw RC WT KC r l (lx low B) H Q E->R [some (.ref r),some (.ref f.a)] O:=by
    intro low O B y g u k3;rw[hR0];obtain⟨dk,as,q1,q2,q3,q4,q5,q6⟩:=y.ex;refine⟨_,rfl,_,rfl,f.a,KC,dk,_,_,rfl,q1,TK.cl,TK.low,wn,r,l,low,eY,ig,B,rfl,g,?_⟩;unfold lx at k3;unfold mn;cases e3:fM low eY ig B with
    |none=>rw[e3]at k3;exact fun H'=>k3 H'
    |some x=>
     obtain⟨high,ts4⟩:=x;rw[e3]at k3;dsimp only at k3;intro H4 X C;have p:=y.keep0 rfl C (Fm.out (ii g y));obtain⟨j,as4,t1,_⟩:=p.ex;refine⟨_,rfl,f.a,KC,j,_,rfl,t1,TK.cl,TK.high,(by show 10 < 1000;decide),?_⟩;rw[qF];have hK5:=p.put0 (dx:=j) (dx':=j) { form:="INTEGER",low:=low,high:=high } rfl rfl rfl rfl;have W:=X.put (o:= .ins KC j (kf "INTEGER" [] low high f.pl 0 false f.pa f.op false)) p;obtain⟨dx5,p5,h15⟩:=W.obj;refine⟨_,rfl,r,dx5,_,rfl,h15,cN,r,l,cd ")",ts4,rfl,by decide+kernel,W,?_⟩;unfold cU;cases e4:aJ (.sign (cd ")")) ts4 with
     |none=>rw[e4]at k3;exact fun H'=>k3 H'
     |some ts5=>
      rw[e4]at k3;intro H6 hR6 hF6;refine⟨_,rfl,k3 f H6 (hK5.keep0 rfl hF6 (Fm.out (ii W hK5))) G hR6 ?_⟩;exact(Fx.putNew (u.trans C) (G f.a (by simp[Fm.l]))).trans hF6
   obtain⟨dx2,p2,h12⟩:=v.obj;refine⟨_,rfl,r,dx2,_,rfl,h12,cN,r,l,cd "MIN",ts1,rfl,by decide+kernel,v,?_⟩;unfold c9;cases e2:aJ (.word (cd "MIN")) ts1 with
   |some S=>
    rw[e2]at k;intro O g u;refine⟨_,rfl,eC ?_⟩;exact J none O S (I.keep0 rfl u (Fm.out (ii v I))) g (M.trans u) k
   |none=>
    rw[e2]at k;dsimp only at k;intro O g u;have y:=I.keep0 rfl u (Fm.out (ii v I));refine⟨_,rfl,d9 ?_⟩;obtain⟨dx3,p3,h13⟩:=g.obj;refine⟨_,rfl,r,dx3,_,rfl,h13,cN,r,l,eY,ig,ts1,rfl,g,?_⟩;unfold mn;cases e3:cG eY ig ts1 with
    |none=>rw[e3]at k;exact fun H'=>k H'
    |some x=>
     obtain⟨z,S⟩:=x;rw[e3]at k;dsimp only at k;intro H4 X C;have p:=y.keep0 rfl C (Fm.out (ii g y));obtain⟨j,as4,t1,_⟩:=p.ex;refine⟨_,rfl,f.a,KC,j,_,rfl,t1,TK.cl,TK.low,(by show 10 < 1000;decide),?_⟩;have e5:fV "low" (V.int z) (kf "INTEGER" [] none none f.pl 0 false f.pa f.op false)=kf "INTEGER" [] (some z) none f.pl 0 false f.pa f.op false:=sP _ _ _ _ _ _ _ _ _ _ (some z);refine J (some z) _ S ?_ ?_ (Fx.putNew ((M.trans u).trans C) (G f.a (by simp[Fm.l]))) k
     ·have q:=p.put0 (dx:=j) (dx':=j) { form:="INTEGER",low:=some z } rfl rfl rfl rfl;rw[<-e5]at q;exact q
     ·exact X.put p
end
theorem KrAt.keep{g:aa}{M M':List aa}{G:List Fm}{H H':Hp}{f:Fm}{k:Kr}(h:KrAt g M G H f k)(e:Fx M' H H')(p:∀b∈M',b∈M)(hd:∀b∈f.l,b∉M'):KrAt g M G H' f k:=by
 obtain⟨dx,as,y,x,v,u,r,q⟩:=h.ex;exact⟨dx,as,e _ _ (hd _ (by simp[Fm.l])) y,e _ _ (hd _ (by simp[Fm.l])) x,e _ _ (hd _ (by simp[Fm.l])) v,e _ _ (hd _ (by simp[Fm.l])) u,r.move (e.mono p) (fun b j=> .inl j),q⟩
theorem KrAt.any{g:aa}{M M':List aa}{G G':List Fm}{H:Hp}{f:Fm}{k:Kr}(h:KrAt g M G H f k)(j:k.parts= []):KrAt g M' G' H f k:=by
 obtain⟨dx,as,v,u,r,q,e,p⟩:=h.ex;refine⟨dx,as,v,u,r,q,?_,p⟩;rw[j]at e ⊢;cases e;exact .nil
theorem KrAt.put{j:aa}{M:List aa}{G:List Fm}{H:Hp}{f:Fm}{k:Kr}{dx:aa}(e:Kr)(h:KrAt j M G H f k)(r:f.a∈M)(D:e.names=k.names)(C:e.parts=k.parts)(B:e.opts=k.opts):
  KrAt j M G (dJ H f.a (.ins j dx (kf e.form e.target e.low e.high f.pl e.roots e.ext f.pa f.op e.waits))) f e:=by
 obtain⟨E,as,F,y,x,v,u,p⟩:=h.ex;have g:=p;simp[Fm.l]at g;refine⟨dx,as,aU,?_,?_,?_,?_,p⟩
 ·rw[aY (fun z=>g.1.1 z.symm),D];exact y
 ·rw[aY (fun z=>g.1.2.1 z.symm)];exact x
 ·rw[aY (fun z=>g.1.2.2 z.symm),B];exact v
 ·rw[C];exact u.move (Fx.set r) fun b q=> .inl q
theorem KrAt.name{q:aa}{M:List aa}{G:List Fm}{H:Hp}{f:Fm}{k:Kr}{n:List Nat}(h:KrAt q M G H f k)(y:f.pl∈M)(u:n∉k.names):
  KrAt q M G (dJ H f.pl (.dK (lA (nmd k.names) (bQ ⟨n.toArray⟩) (.int (k.names.length:Int))))) f { k with names:=k.names++ [n] } :=by
 obtain⟨j,as,E,F,D,C,B,p⟩:=h.ex;have g:=p;simp[Fm.l]at g;have r:gf (nmd k.names) (bQ (⟨n.toArray⟩:aQ))=none:=by
  have:=oJ n k.names 0;rw[decide_eq_false u]at this;show gf (kT 0 k.names) _=none;cases e:gf (kT 0 k.names) (bQ (⟨n.toArray⟩:aQ))with
  |none=>rfl
  |some v=>rw[e]at this;cases this
 refine⟨j,as,?_,?_,?_,?_,B.move (Fx.set y) fun b x=> .inl x,p⟩
 ·rw[aY g.1.1];exact E
 ·rw[aU,xA _ r];show some (HO.dK (kT 0 k.names++_))=some (HO.dK (kT 0 (k.names++ [n])));rw[vm,eM]
 ·rw[aY (fun z=>g.2.1.1 z.symm)];exact D
 ·rw[aY (fun z=>g.2.1.2 z.symm)];exact C
theorem RdAt.keepF{p E:aa}{H H':Hp}{r l:aa}{ts:List Tk}{f:Fm}{k:Kr}{M:List aa}{G:List Fm}(h:RdAt p H r l ts)(j:KrAt E M G H f k)(q:l∉f.l)(v:Fx f.l H H'):RdAt p H' r l ts:=by
 obtain⟨D,as,C,B,y,x,I,F⟩:=j.ex;refine h.keep v (ii h j) q fun b u xs e=>?_;have g:b=f.a\/b=f.pl\/b=f.pa\/b=f.op:=by simpa[Fm.l]using u
 rcases g with z|z|z|z
 ·rw[z,C]at e;cases e
 ·rw[z,B]at e;cases e
 ·rw[z,y]at e;cases e
 ·rw[z,x]at e;cases e
def iE(h g j r l:aa)(M:List aa)(G:List Fm)(f:Fm){e:Type}(val:e->V)(o:Option ((e×Kr)×List Tk))(H:Hp)(Q:VK)(E:XK):Prop:=match o with
 |some x=>∀H':Hp,KrAt j M G H' f x.1.2->RdAt h H' r l x.2->Fx (r::f.l) H H'->Q (val x.1.1) H'
 |none=>∀H',E (.ref g) none H'
def fZ(k:Kr)(ts:List Tk):Option ((Unit×Kr)×List Tk):=match aJ (.sign (cd "(")) ts with
 |none=>some (((),k),ts)
 |some r1=>match aJ (.word (cd "SIZE")) r1 with
  |none=>none
  |some r2=>match aJ (.sign (cd "(")) r2 with
   |none=>none
   |some r3=>match cG 0 65535 r3 with
    |none=>none
    |some (z,r4)=>match fM (some z) 0 65535 r4 with
     |none=>none
     |some (h,r5)=>match aJ (.sign (cd ")")) r5 with
      |none=>none
      |some r6=>match aJ (.sign (cd ")")) r6 with
       |none=>none
       |some r7=>some (((), { k with low:=some z,high:=h }),r7)
section
variable {P:aZ}{w:bB}{K:PySem.W.Frag}{mg:aQ->Option ag}{base:bH}{WT RC KC:aa}
def nY(e h g:aa):Sp:=fun vs H Q E=>FU fun(r l:aa) (ts:List Tk) (f:Fm) (k:Kr) (M:List aa) (G:List Fm)=>vs= [.ref r, .ref f.a]/\RdAt e H r l ts/\KrAt g M G H f k/\l∉f.l/\(∀b∈r::f.l,b∈M)/\iE e h g r l M G f (fun _=> .non) (fZ k ts) H Q E
theorem zL:bf ["reader","kind"] ["reader","kind"] (aA pO):=fP
theorem wu(D:Df K mg "read_size" pO ["reader","kind"])(T:D2 K mg)(U:mO K RC)(W:rA K KC)
  (GS:gy P w K mg base fh 3 RC "skips_sign" ["self","sign"] (eX RC)) (GNW:gy P w K mg base (cE P w) 4 RC "needs_word" ["self","word"] (gn RC WT)) (S:gy P w K mg base (cE P w) 4 RC "needs_sign" ["self","sign"] (df RC WT))
  (GN:gy P w K mg base (cE P w) 3 RC "takes_number" ["self","least","most"] (gz RC WT)) (GH:Ok P w K mg base (cE P w) 5 "read_high" ["reader","low","least","most"] (nX RC WT)):Ok P w K mg base (cE P w) 6 "read_size" ["reader","kind"] (nY RC WT KC):=by
 refine D.okX zL (fun fa cdv A outer s H vs Q E hr h=>?_)
 ·obtain⟨r,l,ts,f,k,M,G,rfl,hR,hK,hlf,hM,g⟩:=h;have hr3:=hr.mono (show 3<=5 by decide);have q:=hr.mono (show 4<=5 by decide);refine⟨_,aq (bN (cB (cT GS U.cl hr3 cD (pv 0) (ac aX ao)))
    (aj (cb (cT GNW U.cl q aP (pv 0) (ac aX ao)))
    (aj (cb (cT S U.cl q aP (pv 0) (ac aX ao)))
    (aj (d4 (pv 1) (cT GN U.cl hr3 aP (pv 0) (ac cw (ac (ek T.size) ao))) rfl)
    (aj (d4 (pv 1) (cy GH hr aP (ac (pv 0) (ac (cp (pv 1) rfl) (ac cw (ac (ek T.size) ao))))) rfl)
    (aj (cb (cT S U.cl q aP (pv 0) (ac aX ao)))
    (aq (cb (cT S U.cl q aP (pv 0) (ac aX ao)))))))))
    bh),?_⟩
  have hrM:∀b∈ [r],b∈M:=fun b hb=>hM b (by rw[aw.mp hb];exact af);have haM:f.a∈M:=hM _ (by simp[Fm.l]);have u:∀ {X Y:Hp},Fx [r] X Y->Fx (r::f.l) X Y:=fun h=>h.mono (by intro b hb;rw[aw.mp hb];exact af);have Z:∀ {X:Hp} {o:HO},Fx (r::f.l) X (dJ X f.a o):=fun {X o} =>Fx.set (by simp[Fm.l]);obtain⟨dx0,p0,h10⟩:=hR.obj;refine⟨_,rfl,r,dx0,_,rfl,h10,cN,r,l,cd "(",ts,rfl,by decide+kernel,hR,?_⟩;unfold fZ at g;unfold c9;have kp:∀ {X Y:Hp} {tt:List Tk} {k:Kr},RdAt RC X r l tt->KrAt KC M G X f k->Fx [r] X Y->KrAt KC M G Y f k:=fun a b c=>b.keep c hrM (Fm.out (ii a b));cases e:aJ (.sign (cd "(")) ts with
  |none=>
   rw[e]at g;intro H1 j p;refine⟨_,rfl,eC ?_⟩;exact g H1 (kp hR hK p) j (u p)
  |some ts1=>
   rw[e]at g;dsimp only at g;intro H1 j p;have hK1:=kp hR hK p;refine⟨_,rfl,d9 ?_⟩;obtain⟨dx1,p1,h11⟩:=j.obj;refine⟨_,rfl,r,dx1,_,rfl,h11,cN,r,l,cd "SIZE",ts1,rfl,by decide+kernel,j,?_⟩;unfold cU;cases e1:aJ (.word (cd "SIZE")) ts1 with
   |none=>rw[e1]at g;exact fun H'=>g H'
   |some ts2=>
    rw[e1]at g;dsimp only at g;intro H2 C hF2;have hK2:=kp j hK1 hF2;obtain⟨dx2,p2,h12⟩:=C.obj;refine⟨_,rfl,r,dx2,_,rfl,h12,cN,r,l,cd "(",ts2,rfl,by decide+kernel,C,?_⟩;unfold cU;cases e2:aJ (.sign (cd "(")) ts2 with
    |none=>rw[e2]at g;exact fun H'=>g H'
    |some ts3=>
     rw[e2]at g;dsimp only at g;intro H3 B hF3;have hK3:=kp C hK2 hF3;obtain⟨dx3,p3,h13⟩:=B.obj;refine⟨_,rfl,r,dx3,_,rfl,h13,cN,r,l,0,65535,ts3,rfl,B,?_⟩;unfold mn;cases e3:cG 0 65535 ts3 with
     |none=>rw[e3]at g;exact fun H'=>g H'
     |some x=>
      obtain⟨z,ts4⟩:=x;rw[e3]at g;dsimp only at g;intro H4 hR4 hF4;have J:=kp B hK3 hF4;obtain⟨R,as4,t1,_⟩:=J.ex;refine⟨_,rfl,f.a,KC,R,_,rfl,t1,W.cl,W.low,(by show 10 < 1000;decide),?_⟩;have e5:=sP k.form k.target k.low k.high f.pl k.roots k.ext f.pa f.op k.waits (some z);have I:=J.put (dx:=R) { k with low:=some z } haM rfl rfl rfl;rw[<-e5]at I;have hR5:=hR4.put (o:= .ins KC R (fV "low" (oi (some z)) (kf k.form k.target k.low k.high f.pl k.roots k.ext f.pa f.op k.waits))) J;obtain⟨dk5,as5,t5,_⟩:=I.ex;refine⟨_,rfl,_,rfl,f.a,KC,dk5,_,_,rfl,t5,W.cl,W.low,wn,r,l,some z,0,65535,ts4,rfl,hR5,?_⟩;unfold mn;cases e6:fM (some z) 0 65535 ts4 with
      |none=>rw[e6]at g;exact fun H'=>g H'
      |some x=>
       obtain⟨hi,ts5⟩:=x;rw[e6]at g;dsimp only at g;intro H6 hR6 hF6;have F:=kp hR5 I hF6;obtain⟨O,as6,t6,_⟩:=F.ex;refine⟨_,rfl,f.a,KC,O,_,rfl,t6,W.cl,W.high,(by show 10 < 1000;decide),?_⟩;have e7:=qF k.form k.target (some z) k.high f.pl k.roots k.ext f.pa f.op k.waits hi;have hK7:=F.put (dx:=O) { k with low:=some z,high:=hi } haM rfl rfl rfl;rw[<-e7]at hK7;have y:=hR6.put (o:= .ins KC O (fV "high" (oi hi) (kf k.form k.target (some z) k.high f.pl k.roots k.ext f.pa f.op k.waits))) F;obtain⟨dx7,p7,h17⟩:=y.obj;refine⟨_,rfl,r,dx7,_,rfl,h17,cN,r,l,cd ")",ts5,rfl,by decide+kernel,y,?_⟩;unfold cU;cases e8:aJ (.sign (cd ")")) ts5 with
       |none=>rw[e8]at g;exact fun H'=>g H'
       |some ts6=>
        rw[e8]at g;dsimp only at g;intro H8 v hF8;have hK8:=kp y hK7 hF8;obtain⟨dx8,p8,h18⟩:=v.obj;refine⟨_,rfl,r,dx8,_,rfl,h18,cN,r,l,cd ")",ts6,rfl,by decide+kernel,v,?_⟩;unfold cU;cases e9:aJ (.sign (cd ")")) ts6 with
        |none=>rw[e9]at g;exact fun H'=>g H'
        |some ts7=>
         rw[e9]at g;intro H9 hR9 hF9;refine g H9 (kp v hK8 hF9) hR9 ?_;exact(((((((u p).trans (u hF2)).trans (u hF3)).trans (u hF4)).trans Z).trans (u hF6)).trans Z).trans ((u hF8).trans (u hF9))
end
def hU(form:aQ)(ts:List Tk):Option (Kr×List Tk):=match aJ (.word (cd "STRING")) ts with
 |none=>none
 |some r1=>match fZ { form:=form } r1 with
  |none=>none
  |some x=>some (x.1.2,x.2)
theorem qG{k:Kr}{ts:List Tk}{x: (Unit×Kr)×List Tk}(h:fZ k ts=some x):x.1.2.parts=k.parts/\x.1.2.names=k.names/\x.1.2.form=k.form:=by
 unfold fZ at h
 repeat (first| (cases h;exact⟨rfl,rfl,rfl⟩) |cases h|split at h)
def ca(k:Kr)(ts:List Tk):Option ((Unit×Kr)×List Tk):=match ts with
 | .word w::r=>if cW w=true/\w∉k.names then some (((), { k with names:=k.names++ [w],roots:=if k.ext=true then k.roots else k.roots+1 }),r)else none
 |_=>none
def gK(k:Kr)(ts:List Tk):Option ((Bool×Kr)×List Tk):=match aJ (.sign (cd "}")) ts with
 |some r1=>some ((false,k),r1)
 |none=>match aJ (.sign (cd ",")) ts with
  |none=>none
  |some r1=>match(if k.ext=true then none else aJ (.sign (cd "...")) r1)with
   |none=>(ca k r1).map fun x=>((true,x.1.2),x.2)
   |some r2=>match aJ (.sign (cd "}")) r2 with
    |some r3=>some ((false, { k with ext:=true }),r3)
    |none=>match aJ (.sign (cd ",")) r2 with
     |none=>none
     |some r3=>(ca { k with ext:=true } r3).map fun x=>((true,x.1.2),x.2)
section
variable {P:aZ}{w:bB}{K:PySem.W.Frag}{mg:aQ->Option ag}{base:bH}{WT RC KC:aa}
def oN(e g h:aa):Sp:=fun vs H Q E=>CM fun(r l:aa) (form:aQ) (ts:List Tk)=>vs= [.ref r, .str form]/\RdAt e H r l ts/\lw e g h r l (hU form ts) H Q E
theorem scReadString:bf ["reader","form","kind"] ["reader","form"] (aA mf):=fP
theorem RdAt.l_out{H:Hp}{r l:aa}{ts:List Tk}{f:Fm}(h:RdAt RC H r l ts)(g:∀b∈f.l,H b=none):l∉f.l:=fun z=>by
 obtain⟨dx,as,all,p,j,e,_⟩:=h.ex;rw[g l z]at e;cases e
theorem Cc{form:aQ}{i j:Nat}{u:TS}{D:nH}{σ:St}{H:Hp}(e:σ[j]? =some (some (.str form)))(h:∀(f:Fm) (H':Hp),D1 KC H H' f form->u D (σ.set i (some (.ref f.a))) H'):
  xq (zb (uQ KC (dv KC) [] E0 (ie (lz j) tNil)) (ni i)) u D σ H:=
 ⟨_,e,wr (σ:=σ) (Q:=fun x H1=>u D (σ.set i (some x)) H1) h⟩
theorem sT(D:Df K mg "read_string" mf ["reader","form"])(TR:mO K RC)(GK:AC P w K mg base fh 1 "Kind" KC ["self","form"] (dv KC))
  (X:gy P w K mg base (cE P w) 4 RC "needs_word" ["self","word"] (gn RC WT)) (GZ:Ok P w K mg base (cE P w) 6 "read_size" ["reader","kind"] (nY RC WT KC)):Ok P w K mg base (cE P w) 7 "read_string" ["reader","form"] (oN RC WT KC):=by
 refine D.okX scReadString (fun fa cdv A outer s H vs Q E B h=>?_)
 ·obtain⟨r,l,form,ts,rfl,Y,k⟩:=h;have y:=B.mono (show 2<=6 by decide);have v:=B.mono (show 4<=6 by decide);refine⟨_,aj (bR (i:=2) scReadString.nd rfl (Or.inl rfl) (jK GK y cD (ac (pv 1) ao)))
   (aj (cb (cT X TR.cl v aP (pv 0) (ac aX ao)))
   (aj (cb (cy GZ B aP (ac (pv 0) (ac (pv 2) ao))))
   (aq (bb (pv 2))))),?_⟩
  refine Cc rfl fun f H1 u=>?_;have p:=u.at_ (r::f.l) [];have j:=Y.newK u;have g:∀b∈f.l,H b=none:=u.new;have C:=ii j p;obtain⟨W,p1,S⟩:=j.obj;have R:Fx [r] H H1:=u.keep.mono (by simp);refine⟨_,rfl,r,W,_,rfl,S,cN,r,l,cd "STRING",ts,rfl,by decide+kernel,j,?_⟩;unfold hU at k;unfold cU;cases e:aJ (.word (cd "STRING")) ts with
  |none=>rw[e]at k;exact fun H'=>k H'
  |some ts1=>
   rw[e]at k;dsimp only at k;intro H2 I q;have M:=p.keep q (fun b F=>by rw[aw.mp F];exact af) (Fm.out C);refine⟨_,rfl,_,rfl,r,l,ts1,f, { form:=form },r::f.l, [],rfl,I,M,Y.l_out g,fun b F=>F,?_⟩;unfold iE;cases U:fZ { form:=form } ts1 with
   |none=>rw[U]at k;exact fun H'=>k H'
   |some x=>
    rw[U]at k;intro H3 J G O;obtain⟨Z,x2,x3⟩:=qG U;refine⟨_,rfl,k f H3 (J.any Z) g G fun b o n e=>?_⟩;refine O b o (fun z=>?_) ((R.trans q) b o n e);rcases am.mp z with z|z
    ·exact n (by rw[z];exact af)
    ·rw[g b z]at e;cases e
def ke(e h g:aa):Sp:=fun vs H Q E=>FU fun(r l:aa) (ts:List Tk) (f:Fm) (k:Kr) (M:List aa) (G:List Fm)=>vs= [.ref r, .ref f.a]/\RdAt e H r l ts/\KrAt g M G H f k/\l∉f.l/\(∀b∈r::f.l,b∈M)/\k.names.length<=65536/\iE e h g r l M G f (fun _=> .non) (ca k ts) H Q E
theorem scAddName:bf ["reader","kind","name"] ["reader","kind"] (aA sy):=fP
theorem ye(D:Df K mg "add_name" sy ["reader","kind"])(W:Txt K mg WT)(TR:mO K RC)(j:rA K KC)(GT:gy P w K mg base (cE P w) 2 RC "takes" ["self","sort"] (jz RC WT)):Ok P w K mg base (cE P w) 3 "add_name" ["reader","kind"] (ke RC WT KC):=by
 refine D.okX scAddName (fun fa cdv A outer s H vs Q E hr h=>?_)
 ·obtain⟨r,l,ts,f,k,M,G,rfl,hR,hK,O,hM,hz,g⟩:=h;have hu:=qC hr;refine⟨_,aj (bR (i:=2) scAddName.nd rfl (Or.inl rfl) (cT GT TR.cl hr aP (pv 0) (ac (ek W.word) ao)))
   (aj (bN (PW.pt (lr (iZ (cB (As PySem.F.slot_str_islower PySem.F.type_str_islower zr (fb nK (pv 2) cw (fun _ _=>rfl))))) (ip (r8 (DA hu (pv 2) (cp (pv 1) rfl))))))
    (aq (cX PySem.F.excBase_ValueError W.exc rfl (by rfl) W.wt (ac aX ao) ft)) bh)
   (aj (Ar hu (cp (pv 1) rfl) (pv 2) (cJ pI (by rfl) W.len PySem.boot_len (ac (cp (pv 1) rfl) ao)) rfl)
   (aq (bN (iZ (cB (cp (pv 1) rfl))) (aq (pD (pv 1) cw ze)) bh)))),?_⟩
  have hrM:∀b∈ [r],b∈M:=fun b u=>hM b (by rw[aw.mp u];exact af);have up:∀ {X Y:Hp},Fx [r] X Y->Fx (r::f.l) X Y:=fun h=>h.mono (by intro b u;rw[aw.mp u];exact af);obtain⟨dx0,p0,h10⟩:=hR.obj;refine⟨_,rfl,r,dx0,_,rfl,h10,cN,r,l,"word",ts,rfl,by decide+kernel,hR,?_⟩;cases ts with
  |nil=>exact fun H'=>g H'
  |cons t ts'=>
   rw[dP];cases t with
   |num z=>rw[qaa (cF (by intro z e;cases e))];exact fun H'=>g H'
   |bits a=>rw[qaa (cF (by intro z e;cases e))];exact fun H'=>g H'
   |octs a=>rw[qaa (cF (by intro z e;cases e))];exact fun H'=>g H'
   |sign a=>rw[qaa (cF (by intro z e;cases e))];exact fun H'=>g H'
   |word n=>
    rw[qab (oM n)];intro H1 hR1 J hok;have C:=hK.keep J hrM (Fm.out (ii hR hK));obtain⟨dk,as,t1,t2,t3,t4,t5,t6⟩:=C.ex;have hn0:n≠ []:=hok.1;cases n with
    |nil=>exact absurd rfl hn0
    |cons c n'=>
     have hc8:c < 128:=hok.2.1 c af;have hnl: (c::n').length<=65536:=cn hok.2.2.1 (by decide);have hg:ca k (.word (c::n')::ts')=if cW (c::n')=true/\c::n'∉k.names then some (((), { k with names:=k.names++ [c::n'],roots:=if k.ext=true then k.roots else k.roots+1 }),ts')else none:=rfl
     rw[hg]at g;have hh:cW (c::n')=v0 c:=rfl;refine⟨_,rfl,_,_,c,rfl,rfl,gl hnl,sB (p:=0) rfl,⟨_,rfl⟩,_,rfl,rfl,trivial,_,rfl,?_⟩;rw[F0 c hc8];by_cases U:v0 c=true
     ·rw[U];show if(!true)=true then _ else _
      rw[qaa (by decide)];refine⟨_,rfl,_,rfl,f.a,KC,dk,_,_,rfl,t1,j.cl,j.places,gV,f.pl,_,rfl,DGet.k (k:=bQ ⟨(c::n').toArray⟩) t2,_,rfl,?_⟩;rw[show(gf (nmd k.names) (bQ (⟨(c::n').toArray⟩:aQ))).isSome=decide (c::n'∈k.names)from oJ _ _ _];refine du (fun hc=>?_) (fun hc=>?_)
      ·rw[qaa (fun z=>z.2 (qac hc))]at g;exact⟨by decide,g _⟩
      ·have B:c::n'∉k.names:=fun z=>hc (qad z);rw[qab ⟨by rw[hh];exact U,B⟩]at g;have x:=C.name (n:=c::n') (hM f.pl (by simp[Fm.l])) B;have I:Fx f.l H1 (dJ H1 f.pl (.dK (lA (nmd k.names) (bQ ⟨(c::n').toArray⟩) (.int (k.names.length:Int))))):=Fx.set (by simp[Fm.l]);have R:=hR1.keepF C O I;refine⟨_,rfl,f.a,KC,dk,_,_,rfl,t1,j.cl,j.places,gV,f.pl,_,rfl,t2,?_⟩;refine⟨_,rfl,f.a,KC,dk,_,_,rfl,t1,j.cl,j.places,gV,_,rfl,f.pl,_,rfl,DPut.k (k:=bQ ⟨(c::n').toArray⟩) t2 ?_,?_⟩
       ·show(kT 0 k.names).length < aO;rw[sR];exact bK hz (by decide)
       rw[show((nmd k.names).length:Int)= (k.names.length:Int) by show((kT 0 k.names).length:Int)=_;rw[sR]];obtain⟨y,as2,Z,u2,u3,u4,u5,u6⟩:=x.ex;refine⟨_,rfl,f.a,KC,y,_,_,rfl,Z,j.cl,j.ext,DZ,_,rfl,?_⟩;cases he:k.ext with
       |true=>
        refine eC ?_;have q: (if k.ext=true then k.roots else k.roots+1)=k.roots:=by rw[he];rfl
        have:=g _ (by
         have: ({ k with names:=k.names++ [c::n'],roots:=if k.ext=true then k.roots else k.roots+1 } :Kr)= { k with names:=k.names++ [c::n'] } :=by rw[q]
         rw[this];exact x) R ((up J).trans (I.mono fun b u=>ak _ u))
        exact this
       |false=>
        refine d9 ?_;refine⟨_,rfl,f.a,KC,y,_,_,rfl,Z,j.cl,j.roots,sN,_,_,rfl,rfl,y,_,Z,(by show 10 < 1000;decide),?_⟩;have q: (if k.ext=true then k.roots else k.roots+1)=k.roots+1:=by rw[he];rfl
        have e5:=wo k.form k.target k.low k.high f.pl k.roots k.ext f.pa f.op k.waits (k.roots+1);have v:=x.put (dx:=y) { k with names:=k.names++ [c::n'],roots:=if k.ext=true then k.roots else k.roots+1 } (hM f.a (by simp[Fm.l])) rfl rfl rfl;rw[q]at v;rw[q]at g;dsimp only at v;rw[<-e5]at v;have S:∀o,Fx f.l (dJ H1 f.pl (.dK (lA (nmd k.names) (bQ ⟨(c::n').toArray⟩) (.int (k.names.length:Int))))) (dJ (dJ H1 f.pl (.dK (lA (nmd k.names) (bQ ⟨(c::n').toArray⟩) (.int (k.names.length:Int))))) f.a o):=fun o=>Fx.set (by simp[Fm.l]);exact g _ v (R.keepF x O (S _)) (((up J).trans (I.mono fun b u=>ak _ u)).trans ((S _).mono fun b u=>ak _ u))
     ·have hl':v0 c=false:=by simpa using U
      rw[hl'];show if(!false)=true then _ else _
      rw[qab (by decide)];rw[qaa (fun z=>U (by rw[<-hh];exact z.1))]at g;exact d9 ⟨by decide,g _⟩
end
section
variable {P:aZ}{w:bB}{K:PySem.W.Frag}{mg:aQ->Option ag}{base:bH}{WT RC KC:aa}
def kW(e h g:aa):Sp:=fun vs H Q E=>FU fun(r l:aa) (ts:List Tk) (f:Fm) (k:Kr) (M:List aa) (G:List Fm)=>vs= [.ref r, .ref f.a]/\RdAt e H r l ts/\KrAt g M G H f k/\l∉f.l/\(∀b∈r::f.l,b∈M)/\k.names.length<=65536/\iE e h g r l M G f V.bl (gK k ts) H Q E
theorem zM:bf ["reader","kind"] ["reader","kind"] (aA pP):=fP
theorem wv(D:Df K mg "next_name" pP ["reader","kind"])(TR:mO K RC)(TK:rA K KC)(GS:gy P w K mg base fh 3 RC "skips_sign" ["self","sign"] (eX RC))(GNS:gy P w K mg base (cE P w) 4 RC "needs_sign" ["self","sign"] (df RC WT))
  (GA:Ok P w K mg base (cE P w) 3 "add_name" ["reader","kind"] (ke RC WT KC)):Ok P w K mg base (cE P w) 5 "next_name" ["reader","kind"] (kW RC WT KC):=by
 refine D.okX zM (fun fa cdv A outer s H vs Q E hr h=>?_)
 ·obtain⟨r,l,ts,f,k,M,G,rfl,hR,hK,hlf,hM,hz,g⟩:=h;have S:=hr.mono (show 3<=4 by decide);refine⟨_,aj (bN (cB (cT GS TR.cl S cD (pv 0) (ac aX ao))) (aq (bb ib)) bh)
   (aj (cb (cT GNS TR.cl hr aP (pv 0) (ac aX ao)))
   (aj (bN (PW.pt (kz (iZ (cB (cp (pv 1) rfl))) (ju (cB (cT GS TR.cl S cD (pv 0) (ac aX ao))))))
    (aj (d4 (pv 1) ib rfl)
    (aj (bN (cB (cT GS TR.cl S cD (pv 0) (ac aX ao))) (aq (bb ib)) bh)
    (aq (cb (cT GNS TR.cl hr aP (pv 0) (ac aX ao)))))) bh)
   (aj (cb (cy GA S aP (ac (pv 0) (ac (pv 1) ao)))) (aq (bb ib))))),?_⟩
  have hrM:∀b∈ [r],b∈M:=fun b hb=>hM b (by rw[aw.mp hb];exact af);have haM:f.a∈M:=hM _ (by simp[Fm.l]);have Z:∀ {X Y:Hp},Fx [r] X Y->Fx (r::f.l) X Y:=fun h=>h.mono (by intro b hb;rw[aw.mp hb];exact af);have upa:∀ {X:Hp} {o:HO},Fx (r::f.l) X (dJ X f.a o):=fun {X o} =>Fx.set (by simp[Fm.l]);have kp:∀ {X Y:Hp} {tt:List Tk} {k:Kr},RdAt RC X r l tt->KrAt KC M G X f k->Fx [r] X Y->KrAt KC M G Y f k:=fun a b c=>b.keep c hrM (Fm.out (ii a b));obtain⟨dx0,p0,h10⟩:=hR.obj;refine⟨_,rfl,r,dx0,_,rfl,h10,cN,r,l,cd "}",ts,rfl,by decide+kernel,hR,?_⟩;unfold gK at g;unfold c9;cases e:aJ (.sign (cd "}")) ts with
  |some ts1=>
   rw[e]at g;intro H1 B J;refine⟨_,rfl,d9 ?_⟩;exact g H1 (kp hR hK J) B (Z J)
  |none=>
   rw[e]at g;dsimp only at g;intro H1 B J;have hK1:=kp hR hK J;refine⟨_,rfl,eC ?_⟩;obtain⟨dx1,p1,h11⟩:=B.obj;refine⟨_,rfl,r,dx1,_,rfl,h11,cN,r,l,cd ",",ts,rfl,by decide+kernel,B,?_⟩;unfold cU;cases e1:aJ (.sign (cd ",")) ts with
   |none=>rw[e1]at g;exact fun H'=>g H'
   |some ts1=>
    rw[e1]at g;dsimp only at g;intro H2 z hF2;have U:=kp B hK1 hF2;have O:=(Z J).trans (Z hF2);dsimp only;refine je fun R hR0=>?_;have u:∀(k':Kr) (H3:Hp) (j:List Tk),KrAt KC M G H3 f k'->RdAt RC H3 r l j->Fx (r::f.l) H H3->k'.names.length<=65536->iE RC WT KC r l M G f V.bl ((ca k' j).map fun x=>((true,x.1.2),x.2)) H Q E->R [some (.ref r),some (.ref f.a)] H3:=by
     intro k' H3 j F y p hz3 g3;rw[hR0];refine⟨_,rfl,_,rfl,r,l,j,f,k',M,G,rfl,y,F,hlf,hM,hz3,?_⟩;unfold iE at g3 ⊢;cases e3:ca k' j with
     |none=>rw[e3]at g3;exact fun H'=>g3 H'
     |some x=>
      rw[e3]at g3;intro H4 C q hF4;exact g3 H4 C q (p.trans hF4)
    obtain⟨dk,as,t1,t2,t3,t4,t5,t6⟩:=U.ex;refine⟨_,rfl,f.a,KC,dk,_,_,rfl,t1,TK.cl,TK.ext,DZ,_,rfl,?_⟩;cases he:k.ext with
    |true=>
     rw[he,qab rfl]at g;refine eC (eC ?_);exact u k H2 ts1 U z O hz g
    |false=>
     rw[he,qaa (by decide)]at g;refine d9 ?_;obtain⟨dx2,p2,h12⟩:=z.obj;refine⟨_,rfl,r,dx2,_,rfl,h12,cN,r,l,cd "...",ts1,rfl,by decide+kernel,z,?_⟩;unfold c9;cases e2:aJ (.sign (cd "...")) ts1 with
     |none=>
      rw[e2]at g;intro H3 y p;refine⟨_,rfl,eC ?_⟩;exact u k H3 ts1 (kp z U p) y (O.trans (Z p)) hz g
     |some ts2=>
      rw[e2]at g;dsimp only at g;intro H3 y p;have F:=kp z U p;refine⟨_,rfl,d9 ?_⟩;obtain⟨W,as3,u1,u2,u3,u4,u5,u6⟩:=F.ex;refine⟨_,rfl,f.a,KC,W,_,rfl,u1,TK.cl,TK.ext,(by show 10 < 1000;decide),?_⟩;have e5:=sQ k.form k.target k.low k.high f.pl k.roots k.ext f.pa f.op k.waits true;have C:=F.put (dx:=W) { k with ext:=true } haM rfl rfl rfl;rw[<-e5]at C;have q:=y.put (o:= .ins KC W (fV "extensible" (.bl true) (kf k.form k.target k.low k.high f.pl k.roots k.ext f.pa f.op k.waits))) F;have a0:=(O.trans (Z p)).trans (upa (o:= .ins KC W (fV "extensible" (.bl true) (kf k.form k.target k.low k.high f.pl k.roots k.ext f.pa f.op k.waits))));obtain⟨dx4,p4,h14⟩:=q.obj;refine⟨_,rfl,r,dx4,_,rfl,h14,cN,r,l,cd "}",ts2,rfl,by decide+kernel,q,?_⟩;unfold c9;cases e6:aJ (.sign (cd "}")) ts2 with
      |some j=>
       rw[e6]at g;intro H5 v I;refine⟨_,rfl,d9 ?_⟩;exact g H5 (kp q C I) v (a0.trans (Z I))
      |none=>
       rw[e6]at g;dsimp only at g;intro H5 v I;have hK5:=kp q C I;refine⟨_,rfl,eC ?_⟩;obtain⟨dx5,p5,h15⟩:=v.obj;refine⟨_,rfl,r,dx5,_,rfl,h15,cN,r,l,cd ",",ts2,rfl,by decide+kernel,v,?_⟩;unfold cU;cases e7:aJ (.sign (cd ",")) ts2 with
       |none=>rw[e7]at g;exact fun H'=>g H'
       |some j=>
        rw[e7]at g;dsimp only at g;intro H6 hR6 hF6;exact u { k with ext:=true } H6 j (kp v hK5 hF6) hR6 ((a0.trans (Z I)).trans (Z hF6)) hz g
end
theorem bT{t:Tk}{ts r:List Tk}(h:aJ t ts=some r):r.length+1=ts.length:=by
 cases ts with
 |nil=>cases h
 |cons u q=>
  rw[jf]at h;split at h
  ·cases h;rfl
  ·cases h
theorem dw{k:Kr}{ts:List Tk}{x: (Unit×Kr)×List Tk}(h:ca k ts=some x):x.2.length+1=ts.length/\x.1.2.names.length=k.names.length+1/\x.1.2.parts=k.parts/\x.1.2.form=k.form/\x.1.2.waits=k.waits/\x.1.2.opts=k.opts:=by
 unfold ca at h;split at h
 ·split at h
  ·cases h;exact⟨rfl,by simp,rfl,rfl,rfl,rfl⟩
  ·cases h
 ·cases h
theorem fE{k:Kr}{ts:List Tk}{x: (Bool×Kr)×List Tk}(h:gK k ts=some x):x.2.length < ts.length/\x.1.2.names.length+x.2.length<=k.names.length+ts.length/\x.1.2.parts=k.parts/\x.1.2.form=k.form/\x.1.2.waits=k.waits/\x.1.2.opts=k.opts:=by
 unfold gK at h;split at h
 ·rename_i j u;cases h;have:=bT u;exact⟨by show j.length < _;lia,by show k.names.length+j.length<=_;lia,rfl,rfl,rfl,rfl⟩
 ·split at h
  ·cases h
  ·rename_i j u;have C:=bT u;split at h
   ·cases g:ca k j with
    |none=>rw[g]at h;cases h
    |some y=>
     rw[g]at h;cases h;obtain⟨a,b,c,d,e,f⟩:=dw g;exact⟨by show y.2.length < _;lia,by show y.1.2.names.length+y.2.length<=_;lia,c,d,e,f⟩
   ·rename_i v g;have B:v.length+1=j.length:=by
     split at g
     ·cases g
     ·exact bT g
    split at h
    ·rename_i p r;have z:=bT r;cases h;exact⟨by show p.length < _;lia,by show k.names.length+p.length<=_;lia,rfl,rfl,rfl,rfl⟩
    ·split at h
     ·cases h
     ·rename_i p r;have z:=bT r;cases q:ca { k with ext:=true } p with
      |none=>rw[q]at h;cases h
      |some y=>
       rw[q]at h;cases h;obtain⟨a,b,c,d,e,f⟩:=dw q;exact⟨by show y.2.length < _;lia,by show y.1.2.names.length+y.2.length<=_;rw[b];show k.names.length+1+_<=_;lia,c,d,e,f⟩
def fR:Nat->Kr->List Tk->Option (Kr×List Tk)
 |0,_,_=>none
 |n+1,k,ts=>match gK k ts with
  |none=>none
  |some x=>if x.1.1=true then fR n x.1.2 x.2 else some (x.1.2,x.2)
theorem jM:∀(n:Nat) (k:Kr) (ts:List Tk),ts.length < n->fR n k ts=fR (ts.length+1) k ts:=by
 intro n;induction n using fj with
 |ind n ih=>
  intro k ts h;match n with
  |0=>lia
  |n+1=>
   rw[fR,fR];cases e:gK k ts with
   |none=>rfl
   |some x=>
    have g:=(fE e).1;dsimp only;split
    ·rw[ih n (by lia) _ _ (by lia)];by_cases j:ts.length=0
     ·lia
     ·rw[ih ts.length (by lia) _ _ g]
    ·rfl
def mq(ts:List Tk):Option (Kr×List Tk):=match aJ (.sign (cd "{")) ts with
 |none=>none
 |some r1=>match ca { form:="ENUMERATED" } r1 with
  |none=>none
  |some x=>fR (x.2.length+1) x.1.2 x.2
def gA(ts:List Tk):Option (Kr×List Tk):=match aJ (.sign (cd "{")) ts with
 |none=>none
 |some r1=>match ca { form:="CHOICE" } r1 with
  |none=>none
  |some x=>some ({ x.1.2 with waits:=true },x.2)
section
variable {P:aZ}{w:bB}{K:PySem.W.Frag}{mg:aQ->Option ag}{base:bH}{WT RC KC:aa}
theorem Fx.overNew{H H1 g:Hp}{r:aa}{f:Fm}(h:Fx [r] H H1)(j:∀b∈f.l,H b=none)(p:Fx (r::f.l) H1 g):Fx [r] H g:=fun b o n e=>by
 refine p b o (fun z=>?_) (h b o n e);rcases am.mp z with z|z
 ·exact n (by rw[z];exact af)
 ·rw[j b z]at e;cases e
theorem RdAt.len{H:Hp}{r l:aa}{ts:List Tk}(h:RdAt RC H r l ts):ts.length<=65536:=by
 obtain⟨dx,as,all,p,_,_,_,_,e,_,rfl⟩:=h.ex;rw[aF];lia
def kg(e g h:aa):Sp:=fun vs H Q E=>ES fun(r l:aa) (ts:List Tk)=>vs= [.ref r]/\RdAt e H r l ts/\lw e g h r l (mq ts) H Q E
theorem scReadEnumerated:bf ["reader","kind","goes_on"] ["reader"] (aA iw):=fP
theorem nZ(D:Df K mg "read_enumerated" iw ["reader"])(TR:mO K RC)(GK:AC P w K mg base fh 1 "Kind" KC ["self","form"] (dv KC))(GNS:gy P w K mg base (cE P w) 4 RC "needs_sign" ["self","sign"] (df RC WT))
  (GA:Ok P w K mg base (cE P w) 3 "add_name" ["reader","kind"] (ke RC WT KC)) (GX:Ok P w K mg base (cE P w) 5 "next_name" ["reader","kind"] (kW RC WT KC)):Ok P w K mg base (cE P w) 6 "read_enumerated" ["reader"] (kg RC WT KC):=by
 refine D.okX scReadEnumerated (fun fa cdv A outer s H vs Q E I h=>?_)
 ·obtain⟨r,l,ts,rfl,hR,k⟩:=h;have hr2:=I.mono (show 2<=5 by decide);have hr3:=I.mono (show 3<=5 by decide);have hr4:=I.mono (show 4<=5 by decide);refine⟨_,aj (bR (i:=1) scReadEnumerated.nd rfl (Or.inl rfl) (jK GK hr2 cD (ac aX ao)))
   (aj (cb (cT GNS TR.cl hr4 aP (pv 0) (ac aX ao)))
   (aj (cb (cy GA hr3 aP (ac (pv 0) (ac (pv 1) ao))))
   (aj (bR (i:=2) scReadEnumerated.nd rfl (Or.inl rfl) (cy GX I aP (ac (pv 0) (ac (pv 1) ao))))
   (aj (ic ma (cB (pv 2)) (aq (bR (i:=2) scReadEnumerated.nd rfl (Or.inl rfl) (cy GX I aP (ac (pv 0) (ac (pv 1) ao))))))
   (aq (bb (pv 1))))))),?_⟩
  refine kb fun f H1 X=>?_;have R:=X.at_ (r::f.l) [];have v:=hR.newK X;have g:∀b∈f.l,H b=none:=X.new;have q:=hR.l_out g;have hF1:Fx [r] H H1:=X.keep.mono (by simp);obtain⟨dx1,p1,h11⟩:=v.obj;refine⟨_,rfl,r,dx1,_,rfl,h11,cN,r,l,cd "{",ts,rfl,by decide+kernel,v,?_⟩;unfold mq at k;unfold cU;cases e:aJ (.sign (cd "{")) ts with
  |none=>rw[e]at k;exact fun H'=>k H'
  |some ts1=>
   rw[e]at k;dsimp only at k;intro H2 hR2 U;have hK2:=R.keep U (fun b j=>by rw[aw.mp j];exact af) (Fm.out (ii v R));refine⟨_,rfl,_,rfl,r,l,ts1,f, { form:="ENUMERATED" },r::f.l, [],rfl,hR2,hK2,q,fun b j=>j,cr _,?_⟩;unfold iE;cases e2:ca { form:="ENUMERATED" } ts1 with
   |none=>rw[e2]at k;exact fun H'=>k H'
   |some x=>
    rw[e2]at k;dsimp only at k;intro H3 hK3 hR3 hF3;have W:=Fx.overNew (hF1.trans U) g hF3;obtain⟨a1,a2,a3,a4,a5,a6⟩:=dw e2;have b1:=bT e;have hz3:x.1.2.names.length+x.2.length<=65536:=by rw[a2];have:=hR.len;show 0+1+_<=_;lia
    refine⟨_,rfl,_,rfl,r,l,x.2,f,x.1.2,r::f.l, [],rfl,hR3,hK3,q,fun b j=>j,by lia,?_⟩
    -- the p,from the answer of next_name
    have p:∀(y: (Bool×Kr)×List Tk) (F:Hp),KrAt KC (r::f.l) [] F f y.1.2->RdAt RC F r l y.2->Fx [r] H F->y.1.2.names.length+y.2.length<=65536->y.1.2.parts= []->
      lw RC WT KC r l (if y.1.1=true then fR (y.2.length+1) y.1.2 y.2 else some (y.1.2,y.2)) H Q E->
      xq (zc (tB (lz 2)) (zb (sf (kW RC WT KC) [] E (ie (lz 0) (ie (lz 1) tNil))) (ni 2))) (Fv (lz 1)) { nx:=fun _ H'=>Q .non H',rt:=Q } [some (.ref r),some (.ref f.a),some (.bl y.1.1)] F:=by
     intro y F B u C Z hp4 k4;refine⟨fun m G H'=>∃y: (Bool×Kr)×List Tk,G= [some (.ref r),some (.ref f.a),some (.bl y.1.1)]/\KrAt KC (r::f.l) [] H' f y.1.2/\RdAt RC H' r l y.2/\Fx [r] H H'/\y.1.2.names.length+y.2.length<=65536/\y.1.2.parts= []/\
      lw RC WT KC r l (if y.1.1=true then fR (y.2.length+1) y.1.2 y.2 else some (y.1.2,y.2)) H Q E/\m=y.2.length,⟨_,y,rfl,B,u,C,Z,hp4,k4,rfl⟩,?_⟩
     rintro m G H' ⟨y,rfl,O,M,S,hz5,J,k5,rfl⟩;refine⟨_,rfl,_,rfl,?_⟩;cases j:y.1.1 with
     |false=>
      rw[j,qaa (by decide)]at k5;refine eC ⟨_,rfl,?_⟩;exact k5 f H' (O.any J) g M S
     |true=>
      rw[j,qab rfl,fR]at k5;refine d9 ⟨_,fun σ'' H'' z=>z,_,rfl,_,rfl,r,l,y.2,f,y.1.2,r::f.l, [],rfl,M,O,q,fun b j=>j,by lia,?_⟩;unfold iE;cases e5:gK y.1.2 y.2 with
      |none=>rw[e5]at k5;exact fun H'=>k5 H'
      |some z=>
       rw[e5]at k5;dsimp only at k5;intro H6 hK6 hR6 hF6;obtain⟨Y,c2,c3,_⟩:=fE e5;refine⟨_,Y,z,rfl,hK6,hR6,Fx.overNew S g hF6,by lia,by rw[c3];exact J,?_,rfl⟩;rw[jM y.2.length z.1.2 z.2 Y]at k5;exact k5
    unfold iE;rw[fR]at k;cases e3:gK x.1.2 x.2 with
    |none=>rw[e3]at k;exact fun H'=>k H'
    |some y=>
     rw[e3]at k;dsimp only at k;intro F B u C;obtain⟨Y,c2,c3,_⟩:=fE e3;rw[jM x.2.length y.1.2 y.2 Y]at k;exact p y F B u (Fx.overNew W g C) (by lia) (by rw[c3,a3]) k
end
def kX(ts:List Tk):Option (Kr×List Tk):=match fZ { form:="SEQUENCE OF" } ts with
 |none=>none
 |some x=>match aJ (.word (cd "OF")) x.2 with
  |none=>none
  |some r=>some ({ x.1.2 with waits:=true },r)
def vo(ts:List Tk):Option (Kr×List Tk):=match aJ (.sign (cd "}")) ts with
 |some r=>some ({ form:="SEQUENCE" },r)
 |none=>match aJ (.sign (cd "...")) ts with
  |some r=>match aJ (.sign (cd "}")) r with
   |none=>none
   |some r2=>some ({ form:="SEQUENCE",ext:=true },r2)
  |none=>match ca { form:="SEQUENCE" } ts with
   |none=>none
   |some x=>some ({ x.1.2 with waits:=true },x.2)
def uv(ts:List Tk):Option (Kr×List Tk):=match aJ (.sign (cd "{")) ts with
 |none=>kX ts
 |some r=>vo r
theorem mr{H H1:Hp}{r:aa}{L:List aa}(q:Fx [r] H H1)(p:H1 r≠none)(h:∀b∈L,H1 b=none):∀b∈L,H b=none:=fun b j=>by
 cases e:H b with
 |none=>rfl
 |some o=>
  by_cases g:b=r
  ·exact absurd (g ▸ h b j) p
  ·have:=q b o (by simpa using g) e;rw[h b j]at this;cases this
section
variable {P:aZ}{w:bB}{K:PySem.W.Frag}{mg:aQ->Option ag}{base:bH}{WT RC KC:aa}
theorem qa{H h:Hp}{r l:aa}{ts:List Tk}{f:Fm}{k:Kr}{i:Nat}{σ:St}{Q:VK}(v:rA K KC)(p:KrAt KC (r::f.l) [] h f k)(x:k.parts= [])(y:RdAt RC h r l ts)(z:Fx [r] H h)(e:∀b∈f.l,H b=none)
  (g:∀(q:Fm) (H':Hp),KrAt KC [] [] H' q { k with waits:=true } ->(∀b∈q.l,H b=none)->RdAt RC H' r l ts->Fx [r] H H'->Q (.ref q.a) H'):
  ∃(C dx:aa) (fs:List (aQ×V)),h f.a=some (.ins C dx fs)/\Cls K C/\NoAttr K C "waits"/\fs.length < 1000/\Q (.ref f.a) (dJ h f.a (.ins C dx (fV "waits" (.bl true) fs))):=by
 obtain⟨u,as,t1,_⟩:=p.ex;refine⟨KC,u,_,t1,v.cl,v.waits,(by show 10 < 1000;decide),?_⟩;rw[kS];have j:=p.put (dx:=u) { k with waits:=true } (by simp[Fm.l]) rfl rfl rfl;exact g f _ (j.any x) e (y.put p) (Fx.putNew z (e f.a (by simp[Fm.l])))
def nt(e g h:aa):Sp:=fun vs H Q E=>ES fun(r l:aa) (ts:List Tk)=>vs= [.ref r]/\RdAt e H r l ts/\lw e g h r l (gA ts) H Q E
theorem scBeginChoice:bf ["reader","kind"] ["reader"] (aA kK):=fP
theorem re(D:Df K mg "begin_choice" kK ["reader"])(TR:mO K RC)(TK:rA K KC)(GK:AC P w K mg base fh 1 "Kind" KC ["self","form"] (dv KC))(Y:gy P w K mg base (cE P w) 4 RC "needs_sign" ["self","sign"] (df RC WT))
  (GA:Ok P w K mg base (cE P w) 3 "add_name" ["reader","kind"] (ke RC WT KC)):Ok P w K mg base (cE P w) 5 "begin_choice" ["reader"] (nt RC WT KC):=by
 refine D.okX scBeginChoice (fun fa cdv A outer s H vs Q E B h=>?_)
 ·obtain⟨r,l,ts,rfl,Z,k⟩:=h;have z:=B.mono (show 2<=4 by decide);have y:=B.mono (show 3<=4 by decide);refine⟨_,aj (bR (i:=1) scBeginChoice.nd rfl (Or.inl rfl) (jK GK z cD (ac aX ao)))
   (aj (cb (cT Y TR.cl B aP (pv 0) (ac aX ao)))
   (aj (cb (cy GA y aP (ac (pv 0) (ac (pv 1) ao))))
   (aj (d4 (pv 1) ib rfl) (aq (bb (pv 1)))))),?_⟩
  refine kb fun f H1 v=>?_;have p:=v.at_ (r::f.l) [];have j:=Z.newK v;have g:∀b∈f.l,H b=none:=v.new;have F:=Z.l_out g;have S:Fx [r] H H1:=v.keep.mono (by simp);obtain⟨X,p1,U⟩:=j.obj;refine⟨_,rfl,r,X,_,rfl,U,cN,r,l,cd "{",ts,rfl,by decide+kernel,j,?_⟩;unfold gA at k;unfold cU;cases e:aJ (.sign (cd "{")) ts with
  |none=>rw[e]at k;exact fun H'=>k H'
  |some ts1=>
   rw[e]at k;dsimp only at k;intro H2 J q;have O:=p.keep q (fun b G=>by rw[aw.mp G];exact af) (Fm.out (ii j p));refine⟨_,rfl,_,rfl,r,l,ts1,f, { form:="CHOICE" },r::f.l, [],rfl,J,O,F,fun b G=>G,cr _,?_⟩;unfold iE;cases W:ca { form:="CHOICE" } ts1 with
   |none=>rw[W]at k;exact fun H'=>k H'
   |some x=>
    rw[W]at k;dsimp only at k;intro H3 M I R;have u:=Fx.overNew (S.trans q) g R;obtain⟨a1,a2,a3,a4,a5,a6⟩:=dw W;obtain⟨C,dx,fs,q1,q2,q3,q4,q5⟩:=qa TK M a3 I u g k (i:=1) (σ:= []);exact⟨_,rfl,f.a,C,dx,fs,rfl,q1,q2,q3,q4,_,rfl,q5⟩
def oO(e g h:aa):Sp:=fun vs H Q E=>ES fun(r l:aa) (ts:List Tk)=>vs= [.ref r]/\RdAt e H r l ts/\lw e g h r l (kX ts) H Q E
theorem scBeginSeqOf:bf ["reader","kind"] ["reader"] (aA gU):=fP
theorem ms(D:Df K mg "begin_sequence_of" gU ["reader"])(T:D2 K mg)(TR:mO K RC)(TK:rA K KC)(GK:AC P w K mg base fh 1 "Kind" KC ["self","form"] (dv KC))(X:gy P w K mg base (cE P w) 4 RC "needs_word" ["self","word"] (gn RC WT))
  (GZ:Ok P w K mg base (cE P w) 6 "read_size" ["reader","kind"] (nY RC WT KC)):Ok P w K mg base (cE P w) 7 "begin_sequence_of" ["reader"] (oO RC WT KC):=by
 refine D.okX scBeginSeqOf (fun fa cdv A outer s H vs Q E B h=>?_)
 ·obtain⟨r,l,ts,rfl,Y,k⟩:=h;have z:=B.mono (show 2<=6 by decide);have y:=B.mono (show 4<=6 by decide);refine⟨_,aj (bR (i:=1) scBeginSeqOf.nd rfl (Or.inl rfl) (jK GK z cD (ac (ek T.seqof) ao)))
   (aj (cb (cy GZ B aP (ac (pv 0) (ac (pv 1) ao))))
   (aj (cb (cT X TR.cl y aP (pv 0) (ac aX ao)))
   (aj (d4 (pv 1) ib rfl) (aq (bb (pv 1)))))),?_⟩
  refine kb fun f H1 v=>?_;have O:=v.at_ (r::f.l) [];have J:=Y.newK v;have g:∀b∈f.l,H b=none:=v.new;have F:=Y.l_out g;have S:Fx [r] H H1:=v.keep.mono (by simp);unfold kX at k;refine⟨_,rfl,_,rfl,r,l,ts,f, { form:="SEQUENCE OF" },r::f.l, [],rfl,J,O,F,fun b G=>G,?_⟩;unfold iE;cases e:fZ { form:="SEQUENCE OF" } ts with
  |none=>rw[e]at k;exact fun H'=>k H'
  |some x=>
   rw[e]at k;dsimp only at k;intro H2 p j R;have u:=Fx.overNew S g R;obtain⟨x1,x2,x3⟩:=qG e;obtain⟨W,p2,U⟩:=j.obj;refine⟨_,rfl,r,W,_,rfl,U,cN,r,l,cd "OF",x.2,rfl,by decide+kernel,j,?_⟩;unfold cU;cases Z:aJ (.word (cd "OF")) x.2 with
   |none=>rw[Z]at k;exact fun H'=>k H'
   |some ts3=>
    rw[Z]at k;intro H3 I q;have M:=p.keep q (fun b G=>by rw[aw.mp G];exact af) (Fm.out (ii j p));obtain⟨C,dx,fs,q1,q2,q3,q4,q5⟩:=qa TK M x1 I (u.trans q) g k (i:=1) (σ:= []);exact⟨_,rfl,f.a,C,dx,fs,rfl,q1,q2,q3,q4,_,rfl,q5⟩
def sU(e g h:aa):Sp:=fun vs H Q E=>ES fun(r l:aa) (ts:List Tk)=>vs= [.ref r]/\RdAt e H r l ts/\lw e g h r l (uv ts) H Q E
theorem scBeginSeq:bf ["reader","kind"] ["reader"] (aA jb):=fP
theorem oP(D:Df K mg "begin_sequence" jb ["reader"])(TR:mO K RC)(TK:rA K KC)(GK:AC P w K mg base fh 1 "Kind" KC ["self","form"] (dv KC))(GS:gy P w K mg base fh 3 RC "skips_sign" ["self","sign"] (eX RC))(GNS:gy P w K mg base (cE P w) 4 RC "needs_sign" ["self","sign"] (df RC WT))
  (GA:Ok P w K mg base (cE P w) 3 "add_name" ["reader","kind"] (ke RC WT KC)) (GO:Ok P w K mg base (cE P w) 7 "begin_sequence_of" ["reader"] (oO RC WT KC)):Ok P w K mg base (cE P w) 8 "begin_sequence" ["reader"] (sU RC WT KC):=by
 refine D.okX scBeginSeq (fun fa cdv A outer s H vs Q E hr h=>?_)
 ·obtain⟨r,l,ts,rfl,hR,k⟩:=h;have hr2:=hr.mono (show 2<=7 by decide);have G:=hr.mono (show 3<=7 by decide);have hr4:=hr.mono (show 4<=7 by decide);refine⟨_,aj (bN (iZ (cB (cT GS TR.cl G cD (pv 0) (ac aX ao)))) (aq (bb (cy GO hr aP (ac (pv 0) ao)))) bh)
   (aj (bR (i:=1) scBeginSeq.nd rfl (Or.inl rfl) (jK GK hr2 cD (ac aX ao)))
   (aj (bN (cB (cT GS TR.cl G cD (pv 0) (ac aX ao))) (aq (bb (pv 1))) bh)
   (aj (bN (cB (cT GS TR.cl G cD (pv 0) (ac aX ao))) (aj (d4 (pv 1) ib rfl) (aj (cb (cT GNS TR.cl hr4 aP (pv 0) (ac aX ao))) (aq (bb (pv 1))))) bh)
   (aj (cb (cy GA G aP (ac (pv 0) (ac (pv 1) ao))))
   (aj (d4 (pv 1) ib rfl) (aq (bb (pv 1)))))))),?_⟩
  obtain⟨dx0,p0,h10⟩:=hR.obj;refine⟨_,rfl,r,dx0,_,rfl,h10,cN,r,l,cd "{",ts,rfl,by decide+kernel,hR,?_⟩;unfold uv at k;unfold c9;cases e:aJ (.sign (cd "{")) ts with
  |none=>
   rw[e]at k;dsimp only at k;intro H1 g u;refine⟨_,rfl,d9 ?_⟩;refine⟨_,rfl,r,l,ts,rfl,g,?_⟩;unfold lw at k ⊢;cases e2:kX ts with
   |none=>rw[e2]at k;exact fun H'=>k H'
   |some x=>
    rw[e2]at k;intro f H' a b c d;obtain⟨dx1,p1,O⟩:=g.obj;exact k f H' a (mr u (by rw[O];simp) b) c (u.trans d)
  |some ts1=>
   rw[e]at k;dsimp only at k;intro H0 R Z;refine⟨_,rfl,eC ?_⟩;refine kb fun f H1 hN=>?_;have U:=hN.at_ (r::f.l) [];have g:=R.newK hN;obtain⟨a0,p00,h00⟩:=R.obj;have j:∀b∈f.l,H b=none:=mr Z (by rw[h00];simp) hN.new;have hlo:=hR.l_out j;have u:Fx [r] H H1:=Z.trans (hN.keep.mono (by simp));have kp:∀ {X Y:Hp} {tt:List Tk} {k:Kr},RdAt RC X r l tt->KrAt KC (r::f.l) [] X f k->Fx [r] X Y->KrAt KC (r::f.l) [] Y f k:=fun a b c=>b.keep c (fun b hb=>by rw[aw.mp hb];exact af) (Fm.out (ii a b));obtain⟨dx1,p1,O⟩:=g.obj;refine⟨_,rfl,r,dx1,_,rfl,O,cN,r,l,cd "}",ts1,rfl,by decide+kernel,g,?_⟩;unfold vo at k;unfold c9;cases e1:aJ (.sign (cd "}")) ts1 with
   |some ts2=>
    rw[e1]at k;intro H2 p q;refine⟨_,rfl,d9 ⟨_,rfl,?_⟩⟩;exact k f H2 ((kp g U q).any rfl) j p (u.trans q)
   |none=>
    rw[e1]at k;dsimp only at k;intro H2 p q;have S:=kp g U q;refine⟨_,rfl,eC ?_⟩;obtain⟨dx2,p2,h12⟩:=p.obj;refine⟨_,rfl,r,dx2,_,rfl,h12,cN,r,l,cd "...",ts1,rfl,by decide+kernel,p,?_⟩;unfold c9;cases e2:aJ (.sign (cd "...")) ts1 with
    |some ts2=>
     rw[e2]at k;dsimp only at k;intro H3 J z;have y:=kp p S z;have F:=(u.trans q).trans z;refine⟨_,rfl,d9 ?_⟩;obtain⟨I,as3,u1,_⟩:=y.ex;refine⟨_,rfl,f.a,KC,I,_,rfl,u1,TK.cl,TK.ext,(by show 10 < 1000;decide),?_⟩;rw[sQ];have M:=y.put (dx:=I) { form:="SEQUENCE",ext:=true } (by simp[Fm.l]) rfl rfl rfl;have v:=J.put (o:= .ins KC I (kf "SEQUENCE" [] none none f.pl 0 true f.pa f.op false)) y;have B:=Fx.putNew (o:= .ins KC I (kf "SEQUENCE" [] none none f.pl 0 true f.pa f.op false)) F (j f.a (by simp[Fm.l]));obtain⟨dx4,p4,h14⟩:=v.obj;refine⟨_,rfl,r,dx4,_,rfl,h14,cN,r,l,cd "}",ts2,rfl,by decide+kernel,v,?_⟩;unfold cU;cases e4:aJ (.sign (cd "}")) ts2 with
     |none=>rw[e4]at k;exact fun H'=>k H'
     |some ts3=>
      rw[e4]at k;intro H5 hR5 W;exact⟨_,rfl,k f H5 ((kp v M W).any rfl) j hR5 (B.trans W)⟩
    |none=>
     rw[e2]at k;dsimp only at k;intro H3 J z;have y:=kp p S z;have F:=(u.trans q).trans z;refine⟨_,rfl,eC ?_⟩;refine⟨_,rfl,_,rfl,r,l,ts1,f, { form:="SEQUENCE" },r::f.l, [],rfl,J,y,hlo,fun b hb=>hb,cr _,?_⟩;unfold iE;cases e3:ca { form:="SEQUENCE" } ts1 with
     |none=>rw[e3]at k;exact fun H'=>k H'
     |some x=>
      rw[e3]at k;dsimp only at k;intro H4 M v hF4;have B:=Fx.overNew F j hF4;obtain⟨a1,a2,a3,a4,a5,a6⟩:=dw e3;obtain⟨C,dx,fs,q1,q2,q3,q4,q5⟩:=qa TK M a3 v B j k (i:=1) (σ:= []);exact⟨_,rfl,f.a,C,dx,fs,rfl,q1,q2,q3,q4,_,rfl,q5⟩
end
def ww(w:List Nat)(ns:List (List Nat)):List (List Nat):=ns++ [w]
theorem D4(w:List Nat)(l:List (List Nat)): (ww w l).length<=l.length+1:=by
 unfold ww;rw[au,ci];exact aC _
def NmK(e:aa)(H:Hp)(g:Fm)(n:List Nat):Prop:=(∃dx,H g.a=some (.ins e dx (kf "a name" n none none g.pl 0 false g.pa g.op false)))/\H g.pa=some (.lst [])
def NmsAt(e:aa)(H:Hp):List Fm->List (List Nat)->Prop
 | [], []=>True
 |g::gs,n::ns=>NmK e H g n/\NmsAt e H gs ns
 |_,_=>False
def nu(e:List Fm):List aa:=e.flatMap fun g=> [g.a,g.pa]
theorem yf(g:Fm)(e:List Fm):nu (g::e)=g.a::g.pa::nu e:=rfl
theorem rB(g e:List Fm):nu (g++e)=nu g++nu e:=by unfold nu;rw[List.flatMap_append]
theorem rC{f:Fm}{b:aa}(h:b∈nu [f]):b∈f.l:=by
 have:b=f.a\/b=f.pa:=by simpa[nu]using h
 rcases this with z|z<;>simp[Fm.l,z]
theorem NmsAt.len{j:aa}{H:Hp} :∀ {e:List Fm} {ns:List (List Nat)},NmsAt j H e ns->e.length=ns.length
 | [], [],_=>rfl
 |g::e,n::ns,h=>by rw[ae,ae,NmsAt.len h.2]
 | [],_::_,h=>h.elim
 |_::_, [],h=>h.elim
theorem NmsAt.mem{j:aa}{H:Hp} :∀ {e:List Fm} {ns:List (List Nat)},NmsAt j H e ns->∀b∈nu e,(∃(dx:aa) (g:Fm) (n:List Nat),H b=some (.ins j dx (kf "a name" n none none g.pl 0 false g.pa g.op false)))\/H b=some (.lst [])
 | [], [],_,b,hb=>by simp[nu]at hb
 |g::e,n::ns,h,b,hb=>by
  rw[yf]at hb;rcases am.mp hb with z|z
  ·obtain⟨dx,q⟩:=h.1.1;exact .inl ⟨dx,g,n,by rw[z];exact q⟩
  ·rcases am.mp z with z|z
   ·exact .inr (by rw[z];exact h.1.2)
   ·exact NmsAt.mem h.2 b z
 | [],_::_,h,_,_=>h.elim
 |_::_, [],h,_,_=>h.elim
theorem NmsAt.move{j:aa}{H H':Hp} :∀ {e:List Fm} {ns:List (List Nat)},NmsAt j H e ns->(∀b∈nu e,∀o,H b=some o->H' b=some o)->NmsAt j H' e ns
 | [], [],_,_=>trivial
 |g::e,n::ns,h,hk=>by
  rw[yf]at hk;obtain⟨dx,q⟩:=h.1.1;exact⟨⟨⟨dx,hk _ (by simp) _ q⟩,hk _ (by simp) _ h.1.2⟩,NmsAt.move h.2 fun b p=>hk b (by simp[p])⟩
 | [],_::_,h,_=>h.elim
 |_::_, [],h,_=>h.elim
theorem NmsAt.snoc{j:aa}{H:Hp}{f:Fm}{w:List Nat}(p:NmK j H f w):∀ {e:List Fm} {ns:List (List Nat)},NmsAt j H e ns->NmsAt j H (e++ [f]) (ns++ [w])
 | [], [],_=>⟨p,trivial⟩
 |g::e,n::ns,h=>⟨h.1,NmsAt.snoc p h.2⟩
 | [],_::_,h=>h.elim
 |_::_, [],h=>h.elim
theorem NmsAt.at{p:aa}{H:Hp} :∀ {j:List Fm} {ns:List (List Nat)} {i:Nat} {g:Fm},NmsAt p H j ns->j[i]? =some g->∃n,ns[i]? =some n/\NmK p H g n
 | [], [],i,g,_,e=>by simp at e
 |g::j,n::ns,0,g',h,e=>by
  have:g=g':=by simpa using e
  subst this;exact⟨n,rfl,h.1⟩
 |g::j,n::ns,i+1,g',h,e=>NmsAt.at (i:=i) h.2 (by simpa using e)
 | [],_::_,_,_,h,_=>h.elim
 |_::_, [],_,_,h,_=>h.elim
theorem NmsAt.pa{j:aa}{H:Hp} :∀ {e:List Fm} {ns:List (List Nat)},NmsAt j H e ns->∀b∈oK e,H b=some (.lst [])
 | [], [],_,b,hb=>by simp[oK]at hb
 |g::e,n::ns,h,b,hb=>by
  rcases am.mp hb with z|z
  ·rw[z];exact h.1.2
  ·exact NmsAt.pa h.2 b z
 | [],_::_,h,_,_=>h.elim
 |_::_, [],h,_,_=>h.elim
theorem AF(g e:List Fm):oK (g++e)=oK g++oK e:=by unfold oK;rw[ay]
structure NmAt(KC:aa)(H:Hp)(nd:aa)(gs:List Fm)(ns:List (List Nat)):Prop where
 lst:H nd=some (.lst (gs.map fun g=>V.ref g.a))
 all:NmsAt KC H gs ns
 dup: (oK gs).Nodup
theorem NmAt.move{p:aa}{H H':Hp}{nd:aa}{g:List Fm}{ns:List (List Nat)}{M:List aa}(h:NmAt p H nd g ns)(j:Fx M H H')(u:nd∉M)(r:∀b∈nu g,b∉M):NmAt p H' nd g ns:=
 ⟨j nd _ u h.lst,h.all.move fun b q o e=>j b o (r b q) e,h.dup⟩
theorem NmAt.full{p:aa}{H:Hp}{nd:aa}{e:List Fm}{ns:List (List Nat)}(h:NmAt p H nd e ns){b:aa}(j:b∈nu e):H b≠none:=by
 rcases h.all.mem b j with⟨dx,g,n,q⟩ |q<;>rw[q]<;>simp
theorem NmAt.nd_out{p:aa}{H:Hp}{nd:aa}{j:List Fm}{ns:List (List Nat)}(h:NmAt p H nd j ns):nd∉nu j:=fun z=>by
 have e:=h.lst;rcases h.all.mem nd z with⟨dx,g,n,q⟩ |q
 ·rw[q]at e;cases e
 ·rw[q]at e;cases j with
  |nil=>simp[nu]at z
  |cons g j=>injection e with e;injection e with e;cases e
theorem NmAt.r_out{v x:aa}{H:Hp}{nd:aa}{j:List Fm}{ns:List (List Nat)}{r l:aa}{ts:List Tk}(h:NmAt x H nd j ns)(u:RdAt v H r l ts):r∉nu j:=fun z=>by
 obtain⟨dx,p,e⟩:=u.obj;rcases h.all.mem r z with⟨dx,g,n,q⟩ |q
 ·rw[q]at e;injection e with e;injection e with _ _ e;cases e
 ·rw[q]at e;cases e
theorem NmAt.d_out{r:aa}{H:Hp}{nd e:aa}{p:List Fm}{ns:List (List Nat)}{d:List (g0×V)}(h:NmAt r H nd p ns)(j:H e=some (.dK d)):e∉nu p:=fun z=>by
 rcases h.all.mem e z with⟨dx,g,n,q⟩ |q<;>rw[q]at j<;>cases j
theorem sv_inj{a b:List Nat} :sv a=sv b↔a=b:=by
 refine⟨fun z=>?_,fun z=>by rw[z]⟩;injection z with z;injection z with z;simpa using z
def vq(p j h r l nd:aa)(g:List Fm)(o:Option ((Kr×List (List Nat))×List Tk))(H:Hp)(Q:VK)(E:XK):Prop:=match o with
 |some x=>∀(f:Fm) (e:List Fm) (H':Hp),KrAt h [] [] H' f x.1.1->(∀b∈f.l,H b=none)->RdAt p H' r l x.2->NmAt h H' nd e x.1.2->((e=g/\x.1.1.form≠"a name")\/(e=g++ [f]/\x.1.1.waits=false/\x.1.1.form="a name"))->Fx [r,nd] H H'->Q (.ref f.a) H'
 |none=>∀H',E (.ref j) none H'
def gB(ns:List (List Nat))(o:Option (Kr×List Tk)):Option ((Kr×List (List Nat))×List Tk):=match o with
 |none=>none
 |some x=>some ((x.1,ns),x.2)
def sV(ns:List (List Nat))(w:List Nat)(r:List Tk):Option ((Kr×List (List Nat))×List Tk):=
 if w=cd "BOOLEAN" then some (({ form:=⟨w.toArray⟩ },ns),r)
 else if w=cd "NULL" then some (({ form:=⟨w.toArray⟩ },ns),r)
 else if w=cd "INTEGER" then gB ns (eG r)
 else if w=cd "ENUMERATED" then gB ns (mq r)
 else if w=cd "BIT" then gB ns (hU ⟨w.toArray⟩ r)
 else if w=cd "OCTET" then gB ns (hU ⟨w.toArray⟩ r)
 else if w=cd "SEQUENCE" then gB ns (uv r)
 else if w=cd "CHOICE" then gB ns (gA r)
 else if eF w=true then some (({ form:="a name",target:=w },ww w ns),r)
 else none
def gC(ns:List (List Nat))(ts:List Tk):Option ((Kr×List (List Nat))×List Tk):=match ts with
 | .word w::r=>sV ns w r
 |_=>none
section
variable {P:aZ}{w:bB}{K:PySem.W.Frag}{mg:aQ->Option ag}{base:bH}{WT RC KC:aa}
def qH(h e:aa):Sp:=fun vs H Q E=>CM fun(w:List Nat) (nd:aa) (g:List Fm) (ns:List (List Nat))=>vs= [sv w, .ref nd]/\(w≠ []/\∀c∈w,c < 128)/\w.length<=65536/\NmAt e H nd g ns/\ns.length<=65536/\
 (eF w=true->∀(f:Fm) (H':Hp),KrAt e [] [] H' f { form:="a name",target:=w } ->(∀b∈f.l,H b=none)->NmAt e H' nd (g++ [f]) (ww w ns)->Fx [nd] H H'->Q (.ref f.a) H')/\(eF w=false->∀H',E (.ref h) none H')
theorem scNamedKind:bf ["word","named","kind"] ["word","named"] (aA nP):=fP
theorem uw(D:Df K mg "named_kind" nP ["word","named"])(T:D2 K mg)(Y:rA K KC)(GK:AC P w K mg base fh 1 "Kind" KC ["self","form"] (dv KC))(GC:Ok P w K mg base (cE P w) 1 "checked_kind_name" ["word"] (jL WT)):
  Ok P w K mg base (cE P w) 3 "named_kind" ["word","named"] (qH WT KC):=by
 refine D.okX scNamedKind (fun fa cdv A outer s H vs Q E X h=>?_)
 ·obtain⟨w,nd,gs,ns,rfl,hw,hl,j,O,k1,k2⟩:=h;have J:=X.mono (show 1<=2 by decide);refine⟨_,aj (bR (i:=2) scNamedKind.nd rfl (Or.inl rfl) (jK GK X cD (ac (ek T.named) ao)))
   (aj (d4 (pv 2) (cy GC J aP (ac (pv 0) ao)) rfl)
   (aj (cb (lv PySem.F.plainAttrs_list PySem.F.slot_list_append PySem.F.type_list_append gk (pv 1) (ac (pv 2) ao))) (aq (bb (pv 2))))),?_⟩
  refine kb fun f H1 B=>?_;have G:=B.at_ f.l [];have p:∀b∈f.l,H b=none:=B.new;have u:=j.lst;have r:nd∉f.l:=fun z=>by rw[p nd z]at u;cases u
  have x:=B.keep nd _ (by simp) u;refine⟨_,rfl,w,rfl,hw,hl,fun S=>?_,fun S=>k2 S⟩;obtain⟨I,as,t1,_⟩:=G.ex;refine⟨_,rfl,f.a,KC,I,_,rfl,t1,Y.cl,Y.target,(by show 10 < 1000;decide),?_⟩;rw[ut];have C:=G.put (dx:=I) { form:="a name",target:=w } (by simp[Fm.l]) rfl rfl rfl;have y:nd≠f.a:=fun z=>r (by rw[z];simp[Fm.l]);have R:nd≠f.pa:=fun z=>r (by rw[z];simp[Fm.l]);have q:dJ H1 f.a (.ins KC I (kf "a name" w none none f.pl 0 false f.pa f.op false)) nd=some (.lst (gs.map fun g=>V.ref g.a)):=by rw[aY y];exact x
  refine⟨_,rfl, .inl ⟨rfl,_,SqL.of q⟩,_,rfl,nd,_,_,rfl,rfl,q,?_,?_⟩
  ·rw[ah,j.all.len];exact bK O (by decide)
  ·refine⟨_,rfl,k1 S f _ ?_ p ⟨?_,?_,?_⟩ ?_⟩
   ·exact(C.any (G':= []) rfl).keep (M':= [nd]) (Fx.set af) (M:= [nd]) (fun b v=>v) (fun b v z=>r (by rw[<-aw.mp z];exact v)) |>.any rfl
   ·rw[aU,ay];rfl
   ·obtain⟨W,as2,u1,_,u3,_,Z,_⟩:=C.ex;cases Z;refine NmsAt.snoc ⟨⟨W,by rw[aY y.symm];exact u1⟩,by rw[aY R.symm];exact u3⟩ (j.all.move fun b v o e=>?_);rw[aY (fun z=>j.nd_out (by rw[<-z];exact v)),aY (br e (p f.a (by simp[Fm.l])))];exact B.keep b o (by simp) e
   ·rw[AF];refine bJ.mpr ⟨j.dup,by simp[oK],fun a ha b v z=>?_⟩;have U:b=f.pa:=by simpa[oK]using v
    have:=j.all.pa a ha;rw[z,U,p f.pa (by simp[Fm.l])]at this;cases this
   ·refine Fx.trans (H1:=dJ H1 f.a (.ins KC I (kf "a name" w none none f.pl 0 false f.pa f.op false))) ?_ (Fx.set af);exact Fx.putNew (B.keep.mono (by simp)) (p f.a (by simp[Fm.l]))
end
theorem ux{ts:List Tk}{x:Kr×List Tk}(h:eG ts=some x):x.1.form≠"a name":=by
 have e:∀ {low:Option Int} {ts:List Tk} {x:Kr×List Tk},lx low ts=some x->x.1.form≠"a name":=by
  intro low ts x h;unfold lx at h;split at h
  ·cases h
  ·split at h
   ·cases h
   ·cases h;show(ai "INTEGER")≠_;decide+kernel
 unfold eG at h;split at h
 ·cases h;show(ai "INTEGER")≠_;decide+kernel
 ·split at h
  ·exact e h
  ·split at h
   ·cases h
   ·exact e h
theorem sW{k:Kr}{ts:List Tk}{x: (Unit×Kr)×List Tk}(h:fZ k ts=some x):x.1.2.form=k.form:=by
 unfold fZ at h
 repeat' (split at h)
 all_goals first| (cases h;done) | (cases h;rfl)
theorem oQ{form:aQ}{ts:List Tk}{x:Kr×List Tk}(h:hU form ts=some x):x.1.form=form:=by
 unfold hU at h;split at h
 ·cases h
 ·split at h
  ·cases h
  ·rename_i e;have:=sW e;cases h;exact this
theorem qI:∀(n:Nat) {k:Kr} {ts:List Tk} {x:Kr×List Tk},fR n k ts=some x->x.1.form=k.form
 |0,_,_,_,h=>by cases h
 |n+1,k,ts,x,h=>by
  rw[fR]at h;split at h
  ·cases h
  ·rename_i y e;have g:=(fE e).2.2.2.1;split at h
   ·exact(qI n h).trans g
   ·cases h;exact g
theorem zN{ts:List Tk}{x:Kr×List Tk}(h:mq ts=some x):x.1.form≠"a name":=by
 unfold mq at h;split at h
 ·cases h
 ·split at h
  ·cases h
  ·rename_i y e;rw[qI _ h,(dw e).2.2.2.1];show(ai "ENUMERATED")≠_;decide+kernel
theorem wx{ts:List Tk}{x:Kr×List Tk}(h:gA ts=some x):x.1.form≠"a name":=by
 unfold gA at h;split at h
 ·cases h
 ·split at h
  ·cases h
  ·rename_i y e;have g:=(dw e).2.2.2.1;cases h;show y.1.2.form≠_;rw[g];show(ai "CHOICE")≠_;decide+kernel
theorem Cd{ts:List Tk}{x:Kr×List Tk}(h:uv ts=some x):x.1.form≠"a name":=by
 unfold uv at h;split at h
 ·unfold kX at h;split at h
  ·cases h
  ·rename_i g;have a:=sW g;split at h
   ·cases h
   ·cases h;rw[show ∀(k:Kr),({ k with waits:=true } :Kr).form=k.form from fun _=>rfl,a];show(ai "SEQUENCE OF")≠_;decide+kernel
 ·unfold vo at h;split at h
  ·cases h;show(ai "SEQUENCE")≠_;decide+kernel
  ·split at h
   ·split at h
    ·cases h
    ·cases h;show(ai "SEQUENCE")≠_;decide+kernel
   ·split at h
    ·cases h
    ·rename_i y e;have j:=(dw e).2.2.2.1;cases h;show y.1.2.form≠_;rw[j];show(ai "SEQUENCE")≠_;decide+kernel
section
variable {P:aZ}{w:bB}{K:PySem.W.Frag}{mg:aQ->Option ag}{base:bH}{WT RC KC:aa}
theorem mR{H H1:Hp}{r l nd:aa}{ts:List Tk}{h:List Fm}{ns:List (List Nat)}{o:Option (Kr×List Tk)}{Q:VK}{E:XK}(q:NmAt KC H nd h ns)(v:RdAt RC H1 r l ts)(z:Fx [r] H H1)(p:nd≠r)(j:∀b∈nu h,b∉ [r])(u:∀x,o=some x->x.1.form≠"a name")
  (g:vq RC WT KC r l nd h (gB ns o) H Q E):lw RC WT KC r l o H1 Q E:=by
 unfold lw;unfold vq gB at g;cases o with
 |none=>exact g
 |some x=>
  intro f H' a b c d;obtain⟨B,C,y⟩:=v.obj;have e:=z.trans d;exact g f h H' a (mr z (by rw[y];simp) b) c (q.move e (by simpa using p) j) (.inl ⟨rfl,u x rfl⟩) (e.mono (by simp))
def qJ(g j h:aa):Sp:=fun vs H Q E=>Ex6 fun(r l nd:aa) (ts:List Tk) (e:List Fm) (ns:List (List Nat))=>vs= [.ref r, .ref nd]/\RdAt g H r l ts/\NmAt h H nd e ns/\ns.length<=65536/\nd≠l/\vq g j h r l nd e (gC ns ts) H Q E
theorem scBeginKind:bf ["reader","named","word"] ["reader","named"] (aA nQ):=fP
theorem uy(D:Df K mg "begin_kind" nQ ["reader","named"])(T0:Txt K mg WT)(TR:mO K RC)(GT:gy P w K mg base (cE P w) 2 RC "takes" ["self","sort"] (jz RC WT))(GK:AC P w K mg base fh 1 "Kind" KC ["self","form"] (dv KC))
  (GI:Ok P w K mg base (cE P w) 6 "read_integer_schemas" ["reader"] (nr RC WT KC)) (GE:Ok P w K mg base (cE P w) 6 "read_enumerated" ["reader"] (kg RC WT KC)) (GS:Ok P w K mg base (cE P w) 7 "read_string" ["reader","form"] (oN RC WT KC))
  (GQ:Ok P w K mg base (cE P w) 8 "begin_sequence" ["reader"] (sU RC WT KC)) (GC:Ok P w K mg base (cE P w) 5 "begin_choice" ["reader"] (nt RC WT KC)) (GN:Ok P w K mg base (cE P w) 3 "named_kind" ["word","named"] (qH WT KC)):
  Ok P w K mg base (cE P w) 9 "begin_kind" ["reader","named"] (qJ RC WT KC):=by
 refine D.okX scBeginKind (fun fa cdv A outer s H vs Q E I h=>?_)
 ·obtain⟨r,l,nd,ts,U,ns,rfl,hR,u,hns,hnl,k⟩:=h;have O:=I.mono (show 2<=8 by decide);have Z:=I.mono (show 3<=8 by decide);have Y:=I.mono (show 5<=8 by decide);have M:=I.mono (show 6<=8 by decide);have X:=I.mono (show 7<=8 by decide);refine⟨_,aj (bR (i:=2) scBeginKind.nd rfl (Or.inl rfl) (cT GT TR.cl O aP (pv 0) (ac (ek T0.word) ao)))
   (aj (bN (PW.pt (lr (bo dR (pv 2) aX (bE _)) (ip (bo dR (pv 2) aX (bE _))))) (aq (bb (jK GK O cD (ac (pv 2) ao)))) bh)
   (aj (bN (bo dR (pv 2) aX (bE _)) (aq (bb (cy GI M aP (ac (pv 0) ao)))) bh)
   (aj (bN (bo dR (pv 2) aX (bE _)) (aq (bb (cy GE M aP (ac (pv 0) ao)))) bh)
   (aj (bN (PW.pt (lr (bo dR (pv 2) aX (bE _)) (ip (bo dR (pv 2) aX (bE _))))) (aq (bb (cy GS X aP (ac (pv 0) (ac (pv 2) ao))))) bh)
   (aj (bN (bo dR (pv 2) aX (bE _)) (aq (bb (cy GQ I aP (ac (pv 0) ao)))) bh)
   (aj (bN (bo dR (pv 2) aX (bE _)) (aq (bb (cy GC Y aP (ac (pv 0) ao)))) bh)
   (aq (bb (cy GN Z aP (ac (pv 2) (ac (pv 1) ao))))))))))),?_⟩
  obtain⟨dx0,p0,S⟩:=hR.obj;have y:nd≠r:=fun z=>by have:=u.lst;rw[z,S]at this;cases this
  have B:∀b∈nu U,b∉ [r]:=fun b hb z=>u.r_out hR (by rw[<-aw.mp z];exact hb);refine⟨_,rfl,r,dx0,_,rfl,S,cN,r,l,"word",ts,rfl,by decide+kernel,hR,?_⟩;cases ts with
  |nil=>exact fun H'=>k H'
  |cons t ts'=>
   rw[dP];cases t with
   |num z=>rw[qaa (cF (by intro z e;cases e))];exact fun H'=>k H'
   |bits a=>rw[qaa (cF (by intro z e;cases e))];exact fun H'=>k H'
   |octs a=>rw[qaa (cF (by intro z e;cases e))];exact fun H'=>k H'
   |sign a=>rw[qaa (cF (by intro z e;cases e))];exact fun H'=>k H'
   |word v=>
    rw[qab (oM v)];intro H1 p q hok;have km:gC ns (.word v::ts')=sV ns v ts':=rfl;rw[km]at k;unfold sV at k;have F:=u.move q (by simpa using y) B;obtain⟨dx1,p1,h11⟩:=p.obj;have G:H1 r≠none:=by rw[h11];simp
    have C:∀ {W:VK},(∀x,W x=Q x)->(⟨v.toArray⟩:aQ)≠"a name"->(vq RC WT KC r l nd U (some (({ form:=⟨v.toArray⟩ },ns),ts')) H Q E)->uQ KC (dv KC) [] E0 (ie (lz 2) tNil) [some (.ref r),some (.ref nd),some (sv v)] H1 W:=by
     intro W hQ hfm g;refine⟨_,rfl,wr (σ:= []) (Q:=W) fun f H2 R=>?_⟩;rw[hQ];refine g f U H2 (R.at_ [] []) (mr q G R.new) (p.newK R) (F.move R.keep (by simp) (by simp)) (.inl ⟨rfl,hfm⟩) ?_;exact(q.mono (by simp)).trans (R.keep.mono (by simp))
    -- BOOLEAN
    refine⟨_,rfl,rfl,_,rfl,?_⟩;refine du (fun j=>?_) (fun j=>?_)
    ·have J:v=cd "BOOLEAN":=sv_inj.mp (qac j);rw[qab J]at k;exact d9 (C (fun _=>rfl) (by rw[J];decide+kernel) k)
    rw[qaa (show ¬v=cd "BOOLEAN" from fun z=>j (qad (sv_inj.mpr z)))]at k
    -- NULL
    refine⟨_,rfl,rfl,_,rfl,?_⟩;refine du (fun j=>?_) (fun j=>?_)
    ·have J:v=cd "NULL":=sv_inj.mp (qac j);rw[qab J]at k;exact C (fun _=>rfl) (by rw[J];decide+kernel) k
    rw[qaa (show ¬v=cd "NULL" from fun z=>j (qad (sv_inj.mpr z)))]at k
    -- INTEGER
    refine⟨_,rfl,rfl,_,rfl,?_⟩;refine du (fun j=>?_) (fun j=>?_)
    ·rw[qab (show v=cd "INTEGER" from sv_inj.mp (qac j))]at k;exact⟨_,rfl,r,l,ts',rfl,p,mR u p q y B (fun _ e=>ux e) k⟩
    rw[qaa (show ¬v=cd "INTEGER" from fun z=>j (qad (sv_inj.mpr z)))]at k
    -- ENUMERATED
    refine⟨_,rfl,rfl,_,rfl,?_⟩;refine du (fun j=>?_) (fun j=>?_)
    ·rw[qab (show v=cd "ENUMERATED" from sv_inj.mp (qac j))]at k;exact⟨_,rfl,r,l,ts',rfl,p,mR u p q y B (fun _ e=>zN e) k⟩
    rw[qaa (show ¬v=cd "ENUMERATED" from fun z=>j (qad (sv_inj.mpr z)))]at k
    -- BIT
    refine⟨_,rfl,rfl,_,rfl,?_⟩;refine du (fun j=>?_) (fun j=>?_)
    ·rw[qab (show v=cd "BIT" from sv_inj.mp (qac j))]at k;exact d9 ⟨_,rfl,_,rfl,r,l,_,ts',rfl,p,mR u p q y B (fun _ e=>by rw[oQ e,show v=cd "BIT" from sv_inj.mp (qac j)];decide+kernel) k⟩
    rw[qaa (show ¬v=cd "BIT" from fun z=>j (qad (sv_inj.mpr z)))]at k
    -- OCTET
    refine⟨_,rfl,rfl,_,rfl,?_⟩;refine du (fun j=>?_) (fun j=>?_)
    ·rw[qab (show v=cd "OCTET" from sv_inj.mp (qac j))]at k;exact⟨_,rfl,_,rfl,r,l,_,ts',rfl,p,mR u p q y B (fun _ e=>by rw[oQ e,show v=cd "OCTET" from sv_inj.mp (qac j)];decide+kernel) k⟩
    rw[qaa (show ¬v=cd "OCTET" from fun z=>j (qad (sv_inj.mpr z)))]at k
    -- SEQUENCE
    refine⟨_,rfl,rfl,_,rfl,?_⟩;refine du (fun j=>?_) (fun j=>?_)
    ·rw[qab (show v=cd "SEQUENCE" from sv_inj.mp (qac j))]at k;exact⟨_,rfl,r,l,ts',rfl,p,mR u p q y B (fun _ e=>Cd e) k⟩
    rw[qaa (show ¬v=cd "SEQUENCE" from fun z=>j (qad (sv_inj.mpr z)))]at k
    -- CHOICE
    refine⟨_,rfl,rfl,_,rfl,?_⟩;refine du (fun j=>?_) (fun j=>?_)
    ·rw[qab (show v=cd "CHOICE" from sv_inj.mp (qac j))]at k;exact⟨_,rfl,r,l,ts',rfl,p,mR u p q y B (fun _ e=>wx e) k⟩
    rw[qaa (show ¬v=cd "CHOICE" from fun z=>j (qad (sv_inj.mpr z)))]at k;refine⟨_,rfl,_,rfl,v,nd,U,ns,rfl,⟨hok.1,hok.2.1⟩,cn hok.2.2.1 (by decide),F,hns,fun hk=>?_,fun hk=>?_⟩
    ·rw[qab hk]at k;intro f H2 a b c d;have hrf:r∉f.l:=fun z=>G (b r z);refine k f (U++ [f]) H2 a (mr q G b) ?_ c (.inr ⟨rfl,rfl,rfl⟩) ((q.mono (by simp)).trans (d.mono (by simp)));refine p.keep d (by simpa using y.symm) (fun z=>?_) (fun b hb xs e=>?_)
     ·exact hnl (aw.mp z).symm
     ·rw[aw.mp hb,F.lst]at e;cases e
    ·rw[qaa (by rw[hk];decide)]at k;exact fun H'=>k H'
end
theorem KsAt.len{g:aa}{M:List aa}{G:List Fm}{H:Hp} :∀ {as:List aa} {e:List Kd},KsAt g M G H as e->as.length=e.length
 |_,_, .nil=>rfl
 |_,_, .cons _ b=>by rw[ae,ae,b.len]
theorem KsAt.snoc{e:aa}{M:List aa}{G:List Fm}{H:Hp}{a:aa}{k:Kd}(h:KAt e M G H a k):∀ {as:List aa} {g:List Kd},KsAt e M G H as g->KsAt e M G H (as++ [a]) (g++ [k])
 |_,_, .nil=> .cons h .nil
 |_,_, .cons a b=> .cons a (KsAt.snoc h b)
theorem KrAt.part{p:aa}{M:List aa}{G:List Fm}{H:Hp}{f:Fm}{k:Kr}{g:aa}{q:Kd}(h:KrAt p M G H f k)(y:f.pa∈M)(v:KAt p M G H g q):
  ∃as:List aa,H f.pa=some (.lst (as.map V.ref))/\as.length=k.parts.length/\KrAt p M G (dJ H f.pa (.lst (as.map V.ref++ [.ref g]))) f { k with parts:=k.parts++ [q] } :=by
 obtain⟨j,as,E,D,C,B,u,r⟩:=h.ex;have e:=r;simp[Fm.l]at e;refine⟨as,C,u.len,j,as++ [g],?_,?_,?_,?_,?_,r⟩
 ·rw[aY e.1.2.1];exact E
 ·rw[aY e.2.1.1];exact D
 ·rw[aU,ay];rfl
 ·rw[aY (fun z=>e.2.2 z.symm)];exact B
 ·exact(u.snoc v).move (Fx.set y) fun b x=> .inl x
theorem KrAt.opt{p:aa}{M:List aa}{G:List Fm}{H:Hp}{f:Fm}{k:Kr}{b:Bool}(h:KrAt p M G H f k)(r:f.op∈M):
  H f.op=some (.lst (kU k.opts))/\KrAt p M G (dJ H f.op (.lst (kU k.opts++ [.int ((ly k.opts+ (if b=true then 0 else 1):Nat):Int)]))) f { k with opts:=k.opts++ [b] } :=by
 obtain⟨g,as,z,y,x,v,u,j⟩:=h.ex;have e:=j;simp[Fm.l]at e;refine⟨v,g,as,?_,?_,?_,?_,?_,j⟩
 ·rw[aY e.1.2.2];exact z
 ·rw[aY e.2.1.2];exact y
 ·rw[aY e.2.2];exact x
 ·rw[aU,Ca]
 ·exact u.move (Fx.set r) fun b q=> .inl q
theorem AG(l:List Bool):BL (kU l) (-1)=some (V.int ((ly l:Nat):Int)):=by rw[vn];exact Dv _ _
theorem KrAt.fin{j:aa}{M M':List aa}{G:List Fm}{H:Hp}{f:Fm}{k:Kr}(h:KrAt j M G H f k)(p:k.waits=false)(v:∀b∈M',b∈M)(hd:∀b∈f.l,b∉M')(q:k.form="a name"->f∈G)(r:k.form≠"a name"->f.pa∉oK G):KAt j M' G H f.a k.fin:=by
 obtain⟨C,as,g,B,z,y,x,D⟩:=h.ex;rw[p]at g;exact .mk g B z y hd q r (x.move (M':=M') (H':=H) (fun b o _ e=>e) fun b u=> .inl (v b u))
def fw(k:Kr)(ts:List Tk):Option ((Unit×Kr)×List Tk):=match gK k ts with
 |none=>none
 |some x=>some (((), { x.1.2 with waits:=x.1.1 }),x.2)
def f7(k:Kr)(e:Kd)(ts:List Tk):Option ((Unit×Kr)×List Tk):=
 if k.form="SEQUENCE OF" then some (((), { k with parts:=k.parts++ [e],waits:=false }),ts)
 else if k.form="SEQUENCE" then match aJ (.word (cd "OPTIONAL")) ts with
  |some r=>fw { k with parts:=k.parts++ [e],opts:=k.opts++ [true] } r
  |none=>fw { k with parts:=k.parts++ [e],opts:=k.opts++ [false] } ts
 else fw { k with parts:=k.parts++ [e] } ts
section
variable {P:aZ}{w:bB}{K:PySem.W.Frag}{mg:aQ->Option ag}{base:bH}{WT RC KC:aa}
def qK(j p e:aa):Sp:=fun vs H Q E=>Ex9 fun(r l:aa) (ts:List Tk) (f:Fm) (k:Kr) (M:List aa) (G:List Fm) (h:aa) (g:Kd)=>vs= [.ref r, .ref f.a, .ref h]/\RdAt j H r l ts/\KrAt e M G H f k/\KAt e M G H h g/\l∉f.l/\(∀b∈r::f.l,b∈M)/\
 k.names.length<=65536/\k.parts.length<=65536/\k.opts.length<=65536/\iE j p e r l M G f (fun _=> .non) (f7 k g ts) H Q E
theorem scTakeInner:bf ["reader","outer","inner","needed"] ["reader","outer","inner"] (aA nR):=fP
theorem uz(D:Df K mg "take_inner" nR ["reader","outer","inner"])(T:D2 K mg)(TR:mO K RC)(j:rA K KC)(GW:gy P w K mg base fh 3 RC "skips_word" ["self","word"] (gm RC))
  (GX:Ok P w K mg base (cE P w) 5 "next_name" ["reader","kind"] (kW RC WT KC)):Ok P w K mg base (cE P w) 6 "take_inner" ["reader","outer","inner"] (qK RC WT KC):=by
 refine D.okX scTakeInner (fun fa cdv A outer s H vs Q E hr h=>?_)
 ·obtain⟨r,l,ts,f,k,M,G,ia,kd,rfl,hR,hK,hI,S,hM,Z,hz2,O,g⟩:=h;have hr3:=hr.mono (show 3<=5 by decide);refine⟨_,aj (cb (lv PySem.F.plainAttrs_list PySem.F.slot_list_append PySem.F.type_list_append gk (cp (pv 1) rfl) (ac (pv 2) ao)))
   (aj (bN (bo dR (cp (pv 1) rfl) (ek T.seqof) (bE _)) (aj (d4 (pv 1) ib rfl) (aq Fw)) bh)
   (aj (bN (bo dR (cp (pv 1) rfl) aX (bE _))
    (aj (bR (i:=3) scTakeInner.nd rfl (Or.inl rfl) (jX (cB (cT GW TR.cl hr3 cD (pv 0) (ac aX ao))) cw cw))
    (aq (cb (lv PySem.F.plainAttrs_list PySem.F.slot_list_append PySem.F.type_list_append gk (cp (pv 1) rfl) (ac (fU lX (fb fD (cp (pv 1) rfl) (Hu Dm cw) (fun _ _=>rfl)) (pv 3)) ao))))) bh)
   (aq (d4 (pv 1) (cy GX hr aP (ac (pv 0) (ac (pv 1) ao))) rfl)))),?_⟩
  have hrM:∀b∈ [r],b∈M:=fun b hb=>hM b (by rw[aw.mp hb];exact af);have haM:f.a∈M:=hM _ (by simp[Fm.l]);have up:∀ {X Y:Hp},Fx [r] X Y->Fx (r::f.l) X Y:=fun h=>h.mono (by intro b hb;rw[aw.mp hb];exact af);have q:∀ {X Y:Hp},Fx f.l X Y->Fx (r::f.l) X Y:=fun h=>h.mono (by intro b hb;exact ak _ hb);have kp:∀ {X Y:Hp} {tt:List Tk} {k:Kr},RdAt RC X r l tt->KrAt KC M G X f k->Fx [r] X Y->KrAt KC M G Y f k:=fun a b c=>b.keep c hrM (Fm.out (ii a b));obtain⟨dk0,as0,t0,_,t3,_⟩:=hK.ex;obtain⟨as,h3,has,v⟩:=hK.part (hM f.pa (by simp[Fm.l])) hI;have I:Fx f.l H (dJ H f.pa (.lst (as.map V.ref++ [.ref ia]))):=Fx.set (by simp[Fm.l]);have u:=hR.keepF hK S I;refine⟨_,rfl,f.a,KC,dk0,_,_,rfl,t0,j.cl,j.parts,fY, .inl ⟨rfl,_,SqL.of h3⟩,_,rfl,f.pa,_,_,rfl,rfl,h3,by rw[ah,has];exact bK hz2 (by decide),?_⟩;obtain⟨U,as1,t1,_⟩:=v.ex;refine⟨_,rfl,f.a,KC,U,_,_,rfl,t1,j.cl,j.form,dF,rfl,_,rfl,?_⟩;unfold f7 at g;refine du (fun hc=>?_) (fun hc=>?_)
  ·have hf:k.form="SEQUENCE OF":=by have:=qac hc;injection this
   rw[qab hf]at g;refine⟨_,rfl,f.a,KC,U,_,rfl,t1,j.cl,j.waits,(by show 10 < 1000;decide),?_⟩;rw[kS];have e:=v.put (dx:=U) { k with parts:=k.parts++ [kd],waits:=false } haM rfl rfl rfl;refine g _ e (u.put v) ((q I).trans (Fx.set (by simp[Fm.l])))
  ·have hf:¬k.form="SEQUENCE OF":=fun z=>hc (qad (by show V.str k.form=V.str "SEQUENCE OF";rw[z]));rw[qaa hf]at g;dsimp only[tNext];refine je fun R hR0=>?_;have B:∀(oo:Option V) (k':Kr) (H3:Hp) (y:List Tk),KrAt KC M G H3 f k'->RdAt RC H3 r l y->Fx (r::f.l) H H3->k'.names.length<=65536->iE RC WT KC r l M G f (fun _=> .non) (fw k' y) H Q E->R [some (.ref r),some (.ref f.a),some (.ref ia),oo] H3:=by
    intro oo k' H3 y hK3 hR3 p O g3;rw[hR0];refine⟨_,rfl,_,rfl,r,l,y,f,k',M,G,rfl,hR3,hK3,S,hM,O,?_⟩;unfold fw at g3;unfold iE at g3 ⊢;cases e3:gK k' y with
    |none=>rw[e3]at g3;exact fun H'=>g3 H'
    |some x=>
     rw[e3]at g3;intro H4 hK4 hR4 hF4;obtain⟨dk4,as4,u1,_⟩:=hK4.ex;refine⟨_,rfl,f.a,KC,dk4,_,rfl,u1,j.cl,j.waits,(by show 10 < 1000;decide),?_⟩;rw[kS];exact g3 _ (hK4.put (dx:=dk4) { x.1.2 with waits:=x.1.1 } haM rfl rfl rfl) (hR4.put hK4) ((p.trans hF4).trans (Fx.set (by simp[Fm.l])))
   refine⟨_,rfl,f.a,KC,U,_,_,rfl,t1,j.cl,j.form,dF,rfl,_,rfl,?_⟩;refine du (fun hc=>?_) (fun hc=>?_)
   ·have hf2:k.form="SEQUENCE":=by have:=qac hc;injection this
    rw[qab hf2]at g;obtain⟨dx1,p1,h11⟩:=u.obj;refine⟨_,rfl,r,dx1,_,rfl,h11,cN,r,l,cd "OPTIONAL",ts,rfl,by decide+kernel,u,?_⟩;unfold c9;cases e2:aJ (.word (cd "OPTIONAL")) ts with
    |some ts2=>
     rw[e2]at g;intro H2 hR2 C;refine⟨_,rfl,d9 ?_⟩;have e:=kp u v C;obtain⟨J,as2,t2,_⟩:=e.ex;obtain⟨W,o2⟩:=e.opt (b:=true) (hM f.op (by simp[Fm.l]));refine⟨_,rfl,f.a,KC,J,_,_,rfl,t2,j.cl,j.opt,pZ, .inl ⟨rfl,_,SqL.of W⟩,?_⟩;refine⟨_,rfl,f.a,KC,J,_,_,rfl,t2,j.cl,j.opt,pZ,_,rfl,f.op,_,_,_,rfl,rfl,SqL.of W,AG _,_,rfl,_,_,rfl,rfl,?_⟩;refine⟨f.op,_,_,rfl,rfl,W,by rw[sS];exact bK (EZ O) (by decide),?_⟩;have p:Fx f.l H2 (dJ H2 f.op (.lst (kU k.opts++ [.int ((ly k.opts+ (if true=true then 0 else 1):Nat):Int)]))):=Fx.set (by simp[Fm.l]);exact B _ _ _ ts2 o2 (hR2.keepF e S p) (((q I).trans (up C)).trans (q p)) Z g
    |none=>
     rw[e2]at g;intro H2 hR2 C;refine⟨_,rfl,eC ?_⟩;have e:=kp u v C;obtain⟨J,as2,t2,_⟩:=e.ex;obtain⟨W,o2⟩:=e.opt (b:=false) (hM f.op (by simp[Fm.l]));refine⟨_,rfl,f.a,KC,J,_,_,rfl,t2,j.cl,j.opt,pZ, .inl ⟨rfl,_,SqL.of W⟩,?_⟩;refine⟨_,rfl,f.a,KC,J,_,_,rfl,t2,j.cl,j.opt,pZ,_,rfl,f.op,_,_,_,rfl,rfl,SqL.of W,AG _,_,rfl,_,_,rfl,rfl,?_⟩;refine⟨f.op,_,_,rfl,rfl,W,by rw[sS];exact bK (EZ O) (by decide),?_⟩;have p:Fx f.l H2 (dJ H2 f.op (.lst (kU k.opts++ [.int ((ly k.opts+ (if false=true then 0 else 1):Nat):Int)]))):=Fx.set (by simp[Fm.l]);exact B _ _ _ ts o2 (hR2.keepF e S p) (((q I).trans (up C)).trans (q p)) Z g
   ·have hf2:¬k.form="SEQUENCE":=fun z=>hc (qad (by show V.str k.form=V.str "SEQUENCE";rw[z]));rw[qaa hf2]at g;exact B _ _ _ ts v u (q I) Z g
end
def Kr.fit(k:Kr)(n:Nat):Prop:=k.names.length+n<=65536/\k.parts.length+n<=65536/\k.opts.length+n<=65536
theorem Kr.fit.mono{k:Kr}{n m:Nat}(h:k.fit n)(e:m<=n):k.fit m:=⟨by have:=h.1;omega,by have:=h.2.1;omega,by have:=h.2.2;omega⟩
theorem mu{e g:Int}{ts:List Tk}{x:Int×List Tk}(h:cG e g ts=some x):x.2.length+1=ts.length:=by
 unfold cG at h;split at h
 ·split at h
  ·cases h
  ·cases h;rfl
 ·cases h
theorem vr{low:Option Int}{j q:Int}{ts:List Tk}{x:Option Int×List Tk}(h:fM low j q ts=some x):x.2.length<=ts.length:=by
 unfold fM at h;split at h
 ·cases low with
  |none=>cases h
  |some a=>cases h;exact aC _
 ·rename_i r e;have B:=bT e;split at h
  ·rename_i g v;have y:=bT v;cases h;show g.length<=_;omega
  ·split at h
   ·cases h
   ·rename_i z g u;have p:=mu u;dsimp only at p;split at h
    ·cases h
    ·cases h;show g.length<=_;omega
structure Kr.bare(k:Kr):Prop where
 names:k.names= []
 parts:k.parts= []
 opts:k.opts= []
theorem vt{low:Option Int}{ts:List Tk}{x:Kr×List Tk}(h:lx low ts=some x):x.2.length<=ts.length/\x.1.bare/\x.1.waits=false:=by
 unfold lx at h;split at h
 ·cases h
 ·rename_i u q e;have j:=vr e;dsimp only at j;split at h
  ·cases h
  ·rename_i g p;have r:=bT p;cases h;exact⟨by show g.length<=_;omega,⟨rfl,rfl,rfl⟩,rfl⟩
theorem iG{ts:List Tk}{x:Kr×List Tk}(h:eG ts=some x):x.2.length<=ts.length/\x.1.bare/\x.1.waits=false:=by
 unfold eG at h;split at h
 ·cases h;exact⟨aC _,⟨rfl,rfl,rfl⟩,rfl⟩
 ·rename_i q p;have r:=bT p;split at h
  ·rename_i j e;have g:=bT e;obtain⟨a,b⟩:=vt h;exact⟨by omega,b⟩
  ·split at h
   ·cases h
   ·rename_i z j e;have g:=mu e;dsimp only at g;obtain⟨a,b⟩:=vt h;exact⟨by omega,b⟩
theorem mS{k:Kr}{ts:List Tk}{x: (Unit×Kr)×List Tk}(h:fZ k ts=some x):x.2.length<=ts.length/\x.1.2.names=k.names/\x.1.2.parts=k.parts/\x.1.2.opts=k.opts/\x.1.2.form=k.form/\x.1.2.waits=k.waits:=by
 unfold fZ at h;split at h
 ·cases h;exact⟨aC _,rfl,rfl,rfl,rfl,rfl⟩
 ·rename_i I B;have R:=bT B;split at h
  ·cases h
  ·rename_i G y;have Q:=bT y;split at h
   ·cases h
   ·rename_i F v;have O:=bT v;split at h
    ·cases h
    ·rename_i z E u;have j:=mu u;dsimp only at j;split at h
     ·cases h
     ·rename_i S D r;have g:=vr r;dsimp only at g;split at h
      ·cases h
      ·rename_i C q;have M:=bT q;split at h
       ·cases h
       ·rename_i e p;have J:=bT p;cases h;exact⟨by show e.length<=_;omega,rfl,rfl,rfl,rfl,rfl⟩
theorem gp{form:aQ}{ts:List Tk}{x:Kr×List Tk}(h:hU form ts=some x):x.2.length<=ts.length/\x.1.bare/\x.1.waits=false:=by
 unfold hU at h;split at h
 ·cases h
 ·rename_i p j;have q:=bT j;split at h
  ·cases h
  ·rename_i y g;obtain⟨a,b,c,d,_,e⟩:=mS g;cases h;exact⟨by show y.2.length<=_;omega,⟨b,c,d⟩,e⟩
theorem sX:∀(n:Nat) {k:Kr} {ts:List Tk} {x:Kr×List Tk},fR n k ts=some x->x.2.length<=ts.length/\x.1.names.length+x.2.length<=k.names.length+ts.length/\x.1.parts=k.parts/\x.1.opts=k.opts/\x.1.waits=k.waits
 |0,_,_,_,h=>by cases h
 |n+1,k,ts,x,h=>by
  rw[fR]at h;split at h
  ·cases h
  ·rename_i y e;obtain⟨D,v,p,C,j,g⟩:=fE e;split at h
   ·obtain⟨B,z,u,r,q⟩:=sX n h;exact⟨by omega,by omega,u.trans p,r.trans g,q.trans j⟩
   ·cases h;exact⟨by show y.2.length<=_;omega,v,p,g,j⟩
theorem vu{ts:List Tk}{x:Kr×List Tk}(h:mq ts=some x):x.2.length<=ts.length/\x.1.names.length+x.2.length<=ts.length/\x.1.parts= []/\x.1.opts= []/\x.1.waits=false:=by
 unfold mq at h;split at h
 ·cases h
 ·rename_i C g;have D:=bT g;split at h
  ·cases h
  ·rename_i y e;obtain⟨G,B,z,F,v,u⟩:=dw e;obtain⟨E,r,q,p,j⟩:=sX _ h;rw[B]at r;have: ({ form:="ENUMERATED" } :Kr).names.length=0:=rfl;exact⟨by omega,by omega,q.trans z,p.trans u,j.trans v⟩
theorem qL{ts:List Tk}{x:Kr×List Tk}(h:gA ts=some x):x.2.length<=ts.length/\x.1.names.length+x.2.length<=ts.length/\x.1.parts= []/\x.1.opts= []/\x.1.form="CHOICE"/\x.1.waits=true:=by
 unfold gA at h;split at h
 ·cases h
 ·rename_i r g;have u:=bT g;split at h
  ·cases h
  ·rename_i y e;obtain⟨C,B,q,p,v,j⟩:=dw e;have z: ({ form:="CHOICE" } :Kr).names.length=0:=rfl;cases h;exact⟨by show y.2.length<=_;omega,by show y.1.2.names.length+y.2.length<=_;omega,q,j,p,rfl⟩
theorem n0{ts:List Tk}{x:Kr×List Tk}(h:kX ts=some x):x.2.length<=ts.length/\x.1.bare/\x.1.form="SEQUENCE OF"/\x.1.waits=true:=by
 unfold kX at h;split at h
 ·cases h
 ·rename_i y j;obtain⟨a,b,c,d,f,e⟩:=mS j;split at h
  ·cases h
  ·rename_i r g;have p:=bT g;cases h;exact⟨by show r.length<=_;omega,⟨b,c,d⟩,f,rfl⟩
theorem vv{ts:List Tk}{x:Kr×List Tk}(h:vo ts=some x):x.2.length<=ts.length/\x.1.names.length+x.2.length<=ts.length/\x.1.parts= []/\x.1.opts= []/\x.1.form="SEQUENCE":=by
 unfold vo at h;split at h
 ·rename_i r e;have p:=bT e;cases h;exact⟨by show r.length<=_;omega,by show 0+r.length<=_;omega,rfl,rfl,rfl⟩
 ·split at h
  ·rename_i r e;have p:=bT e;split at h
   ·cases h
   ·rename_i j g;have B:=bT g;cases h;exact⟨by show j.length<=_;omega,by show 0+j.length<=_;omega,rfl,rfl,rfl⟩
  ·split at h
   ·cases h
   ·rename_i y g;obtain⟨E,D,v,u,C,q⟩:=dw g;have z: ({ form:="SEQUENCE" } :Kr).names.length=0:=rfl;cases h;exact⟨by show y.2.length<=_;omega,by show y.1.2.names.length+y.2.length<=_;omega,v,q,u⟩
theorem kY{ns:List (List Nat)}{ts:List Tk}{x: (Kr×List (List Nat))×List Tk}(g:ts.length<=65536)(h:gC ns ts=some x):
  x.2.length+1<=ts.length/\x.1.1.fit x.2.length/\x.1.1.parts= []/\x.1.1.opts= []/\x.1.2.length+x.2.length<=ns.length+ts.length:=by
 unfold gC at h;split at h
 ·rename_i w r;rw[ae]at g ⊢;unfold sV at h;have bare:∀ {y:Kr×List Tk},y.2.length<=r.length->y.1.bare->gB ns (some y)=some x->x.2.length+1<=r.length+1/\x.1.1.fit x.2.length/\x.1.1.parts= []/\x.1.1.opts= []/\x.1.2.length+x.2.length<=ns.length+ (r.length+1):=by
   intro y a b e;cases e;refine⟨by show y.2.length+1<=_;omega,⟨?_,?_,?_⟩,b.parts,b.opts,by show ns.length+y.2.length<=_;omega⟩
   ·show y.1.names.length+y.2.length<=_;rw[b.names];simp;omega
   ·show y.1.parts.length+y.2.length<=_;rw[b.parts];simp;omega
   ·show y.1.opts.length+y.2.length<=_;rw[b.opts];simp;omega
  have named:∀ {y:Kr×List Tk},y.2.length<=r.length->y.1.names.length+y.2.length<=r.length->y.1.parts= []->y.1.opts= []->gB ns (some y)=some x->x.2.length+1<=r.length+1/\x.1.1.fit x.2.length/\x.1.1.parts= []/\x.1.1.opts= []/\x.1.2.length+x.2.length<=ns.length+ (r.length+1):=by
   intro y a b c d e;cases e;refine⟨by show y.2.length+1<=_;omega,⟨?_,?_,?_⟩,c,d,by show ns.length+y.2.length<=_;omega⟩
   ·show y.1.names.length+y.2.length<=_;omega
   ·show y.1.parts.length+y.2.length<=_;rw[c];simp;omega
   ·show y.1.opts.length+y.2.length<=_;rw[d];simp;omega
  have some_of:∀ {o:Option (Kr×List Tk)},gB ns o=some x->∃y,o=some y:=by
   intro o e;cases o with
   |none=>cases e
   |some y=>exact⟨y,rfl⟩
  split at h
  ·exact bare (y:=({ form:=⟨w.toArray⟩ },r)) (aC _) ⟨rfl,rfl,rfl⟩ h
  split at h
  ·exact bare (y:=({ form:=⟨w.toArray⟩ },r)) (aC _) ⟨rfl,rfl,rfl⟩ h
  split at h
  ·obtain⟨y,e⟩:=some_of h;rw[e]at h;exact bare (iG e).1 (iG e).2.1 h
  split at h
  ·obtain⟨y,e⟩:=some_of h;rw[e]at h;obtain⟨a,b,c,d,_⟩:=vu e;exact named a b c d h
  split at h
  ·obtain⟨y,e⟩:=some_of h;rw[e]at h;exact bare (gp e).1 (gp e).2.1 h
  split at h
  ·obtain⟨y,e⟩:=some_of h;rw[e]at h;exact bare (gp e).1 (gp e).2.1 h
  split at h
  ·obtain⟨y,e⟩:=some_of h;rw[e]at h;unfold uv at e;split at e
   ·exact bare (n0 e).1 (n0 e).2.1 h
   ·rename_i p j;have q:=bT j;obtain⟨a,b,c,d,_⟩:=vv e;exact named (by omega) (by omega) c d h
  split at h
  ·obtain⟨y,e⟩:=some_of h;rw[e]at h;obtain⟨a,b,c,d,_⟩:=qL e;exact named a b c d h
  split at h
  ·have:=D4 w ns;cases h;refine⟨aC _,⟨?_,?_,?_⟩,rfl,rfl,by show(ww w ns).length+r.length<=_;omega⟩
   ·show 0+r.length<=_;omega
   ·show 0+r.length<=_;omega
   ·show 0+r.length<=_;omega
  ·cases h
 ·cases h
theorem n3{k:Kr}{ts:List Tk}{y: (Unit×Kr)×List Tk}(g:k.fit ts.length)(h:fw k ts=some y):y.2.length < ts.length/\y.1.2.fit y.2.length:=by
 unfold fw at h;split at h
 ·cases h
 ·rename_i x e;obtain⟨q,v,p,u,r,j⟩:=fE e;cases h;refine⟨q,?_,?_,?_⟩
  ·have:=g.1;show x.1.2.names.length+x.2.length<=_;omega
  ·have:=g.2.1;show x.1.2.parts.length+x.2.length<=_;rw[p];omega
  ·have:=g.2.2;show x.1.2.opts.length+x.2.length<=_;rw[j];omega
theorem Ce{k:Kr}{g:Kd}{ts:List Tk}{y: (Unit×Kr)×List Tk}(j:k.fit (ts.length+1))(h:f7 k g ts=some y):y.2.length<=ts.length/\y.1.2.fit y.2.length:=by
 obtain⟨v,u,q⟩:=j;unfold f7 at h;split at h
 ·cases h;refine⟨aC _,?_,?_,?_⟩
  ·show k.names.length+ts.length<=_;omega
  ·show(k.parts++ [g]).length+ts.length<=_;rw[au,ci];omega
  ·show k.opts.length+ts.length<=_;omega
 ·split at h
  ·split at h
   ·rename_i r e;have p:=bT e;obtain⟨a,b⟩:=n3 (k:= { k with parts:=k.parts++ [g],opts:=k.opts++ [true] }) ⟨by show k.names.length+_<=_;omega,by show(k.parts++ [g]).length+_<=_;rw[au,ci];omega,by show(k.opts++ [true]).length+_<=_;rw[au,ci];omega⟩ h;exact⟨by omega,b⟩
   ·obtain⟨a,b⟩:=n3 (k:= { k with parts:=k.parts++ [g],opts:=k.opts++ [false] }) ⟨by show k.names.length+_<=_;omega,by show(k.parts++ [g]).length+_<=_;rw[au,ci];omega,by show(k.opts++ [false]).length+_<=_;rw[au,ci];omega⟩ h;exact⟨by omega,b⟩
  ·obtain⟨a,b⟩:=n3 (k:= { k with parts:=k.parts++ [g] }) ⟨by show k.names.length+_<=_;omega,by show(k.parts++ [g]).length+_<=_;rw[au,ci];omega,by show k.opts.length+_<=_;omega⟩ h;exact⟨by omega,b⟩
def mRunF:Nat->List (List Nat)->List Kr->Kr->List Tk->Option ((Kr×List (List Nat))×List Tk)
 |0,_,_,_,_=>none
 |n+1,ns,stk,k,ts=>if k.waits=true then match gC ns ts with
   |none=>none
   |some x=>mRunF n x.1.2 (k::stk) x.1.1 x.2
  else match stk with
   | []=>some ((k,ns),ts)
   |o::st=>match f7 o k.fin ts with
    |none=>none
    |some y=>mRunF n ns st y.1.2 y.2
theorem gi(n:Nat)(ns:List (List Nat))(stk:List Kr)(k:Kr)(ts:List Tk):mRunF (n+1) ns stk k ts= (if k.waits=true then match gC ns ts with
   |none=>none
   |some x=>mRunF n x.1.2 (k::stk) x.1.1 x.2
  else match stk with
   | []=>some ((k,ns),ts)
   |o::st=>match f7 o k.fin ts with
    |none=>none
    |some y=>mRunF n ns st y.1.2 y.2):=by rw[mRunF.eq_def]
def oR(ns:List (List Nat))(ts:List Tk):Option ((Kr×List (List Nat))×List Tk):=match gC ns ts with
 |none=>none
 |some x=>mRunF (2*x.2.length+1) x.1.2 [] x.1.1 x.2
def iS(fs:List Fm):List aa:=fs.flatMap Fm.l
theorem cz(f:Fm)(fs:List Fm):iS (f::fs)=f.l++iS fs:=rfl
def StAt(e:aa)(M:List aa)(G:List Fm)(H:Hp):List Fm->List Kr->Prop
 | [], []=>True
 |f::fs,k::ks=>KrAt e M G H f k/\StAt e M G H fs ks
 |_,_=>False
theorem KrAt.move{g:aa}{M M' N:List aa}{G G':List Fm}{H H':Hp}{f:Fm}{k:Kr}(q:Gw H G G')(h:KrAt g M G H f k)(e:Fx N H H')(j:∀b∈N,b∈M)(p:∀b∈M',b∈M\/H b=none)(hd:∀b∈f.l,b∉N):KrAt g M' G' H' f k:=by
 obtain⟨dx,as,z,y,x,v,u,r⟩:=h.ex;exact⟨dx,as,e _ _ (hd _ (by simp[Fm.l])) z,e _ _ (hd _ (by simp[Fm.l])) y,e _ _ (hd _ (by simp[Fm.l])) x,e _ _ (hd _ (by simp[Fm.l])) v,u.move (e.mono j) p q,r⟩
theorem StAt.move{u:aa}{M M' N:List aa}{G G':List Fm}{H H':Hp}(q:Gw H G G')(r:Fx N H H')(j:∀b∈N,b∈M)(p:∀b∈M',b∈M\/H b=none):∀ {fs:List Fm} {e:List Kr},StAt u M G H fs e->(∀b∈iS fs,b∉N)->StAt u M' G' H' fs e
 | [], [],_,_=>trivial
 |f::fs,k::e,h,hd=>⟨KrAt.move q h.1 r j p (fun b g=>hd b (by rw[cz];exact aH _ g)),StAt.move q r j p h.2 fun b g=>hd b (by rw[cz];exact aM _ g)⟩
 | [],_::_,h,_=>h.elim
 |_::_, [],h,_=>h.elim
theorem StAt.len{g:aa}{M:List aa}{G:List Fm}{H:Hp} :∀ {fs:List Fm} {e:List Kr},StAt g M G H fs e->fs.length=e.length
 | [], [],_=>rfl
 |f::fs,k::e,h=>by rw[ae,ae,StAt.len h.2]
 | [],_::_,h=>h.elim
 |_::_, [],h=>h.elim
def D5(p j h r l nd:aa)(g:List Fm)(q:List aa)(o:Option ((Kr×List (List Nat))×List Tk))(H:Hp)(Q:VK)(E:XK):Prop:=match o with
 |some x=>∀(a:aa) (e:List Fm) (H':Hp),KAt h q e H' a x.1.1.fin->RdAt p H' r l x.2->NmAt h H' nd e x.1.2->(∀b∈nu e,b∈nu g\/H b=none)->Gw H g e->Fx [r,nd] H H'->Q (.ref a) H'
 |none=>∀H',E (.ref j) none H'
structure Stk(RC KC r l nd ar:aa)(gs0:List Fm)(M0:List aa)(H H':Hp)(gs:List Fm)(ns:List (List Nat))(stk:List Kr)(k:Kr)(ts:List Tk)(f:Fm)(fs:List Fm):Prop where
 arr:H' ar=some (.lst (fs.reverse.map fun f=>V.ref f.a))
 ndd:NmAt KC H' nd gs ns
 gnw:∀b∈nu gs,b∈nu gs0\/H b=none
 ap1:∀b∈nu gs,b∉ar::iS fs
 ap2:k.waits=true->∀b∈nu gs,b∉f.l
 rd:RdAt RC H' r l ts
 st:StAt KC (M0++ar::iS (f::fs)) gs H' (f::fs) (k::stk)
 dup: (ar::iS (f::fs)).Nodup
 new:∀b∈ar::iS (f::fs),H b=none
 fx:Fx [r,nd] H H'
 fit:k.fit ts.length
 fits:∀o∈stk,o.fit (ts.length+1)
 deep:stk.length+ts.length<=65536
 few:ns.length+ts.length<=65536
 gpn:Gw H gs0 gs
 nmd:k.form="a name"->f∈gs
 nnm:k.form≠"a name"->∀b∈nu gs,b∉f.l
 wnm:k.waits=true->k.form≠"a name"
 fos:∀o∈stk,o.form≠"a name"
theorem sY{e:List Fm}{b:aa}(h:b∈oK e):b∈nu e:=by
 obtain⟨g,j,rfl⟩:=bA.mp h;exact List.mem_flatMap.mpr ⟨g,j,by simp⟩
theorem mv{k:Kr}{ts:List Tk}{y: (Unit×Kr)×List Tk}(h:fw k ts=some y):y.1.2.form=k.form:=by
 unfold fw at h;split at h
 ·cases h
 ·rename_i x e;have:=(fE e).2.2.2.1;cases h;exact this
theorem sZ{k:Kr}{e:Kd}{ts:List Tk}{y: (Unit×Kr)×List Tk}(h:f7 k e ts=some y):y.1.2.form=k.form:=by
 unfold f7 at h;split at h
 ·cases h;rfl
 ·split at h
  ·split at h
   ·have:=mv h;exact this
   ·have:=mv h;exact this
  ·have:=mv h;exact this
theorem Gw.snoc{H:Hp}{G G':List Fm}{f:Fm}{p:Prop}{q:Prop}(j:H f.pa=none)(h: (G'=G/\p)\/(G'=G++ [f]/\q)):Gw H G G':=by
 rcases h with⟨z,_⟩ | ⟨z,_⟩
 ·rw[z];exact Gw.refl
 ·rw[z];refine⟨fun g r=>aH _ r,fun b e=>?_⟩;rw[AF]at e;rcases aT.mp e with y|y
  ·exact .inl y
  ·have:b=f.pa:=by simpa[oK]using y
   exact .inr (by rw[this];exact j)
section
variable {P:aZ}{w:bB}{K:PySem.W.Frag}{mg:aQ->Option ag}{base:bH}{WT RC KC:aa}
def tj(h p j:aa):Sp:=fun vs H Q E=>FU fun(r l nd:aa) (ts:List Tk) (g:List Fm) (ns:List (List Nat)) (e:List aa)=>vs= [.ref r, .ref nd]/\RdAt h H r l ts/\NmAt j H nd g ns/\ns.length+ts.length<=65536/\r∈e/\nd∈e/\(∀b∈e,H b≠none)/\nd≠l/\D5 h p j r l nd g e (oR ns ts) H Q E
theorem scReadKind:bf ["reader","named","around","kind","outer"] ["reader","named"] (aA pQ):=fP
theorem wy(D:Df K mg "read_kind" pQ ["reader","named"])(T0:Txt K mg WT)(TK:rA K KC)(GB:Ok P w K mg base (cE P w) 9 "begin_kind" ["reader","named"] (qJ RC WT KC))(GT:Ok P w K mg base (cE P w) 6 "take_inner" ["reader","outer","inner"] (qK RC WT KC)):
  Ok P w K mg base (cE P w) 10 "read_kind" ["reader","named"] (tj RC WT KC):=by
 refine D.okX scReadKind (fun fa cdv A outer s H vs Q E hr h=>?_)
 ·obtain⟨r,l,nd,ts,gs0,ns,M0,rfl,hR,hnd,hz,hrM,hnM,hM0,a7,g⟩:=h;have hr6:=hr.mono (show 6<=9 by decide);refine⟨_,aj (bR (i:=2) scReadKind.nd rfl (Or.inl rfl) (iq ao))
   (aj (bR (i:=3) scReadKind.nd rfl (Or.inl rfl) (cy GB hr aP (ac (pv 0) (ac (pv 1) ao))))
   (aj (ic ma (PW.pt (lr (cB (cp (pv 3) rfl)) (ip (bo lY (cJ d5 (by rfl) T0.len PySem.boot_len (ac (pv 2) ao)) cw (bE _)))))
    (aq (bN (cB (cp (pv 3) rfl))
     (aj (cb (lv PySem.F.plainAttrs_list PySem.F.slot_list_append PySem.F.type_list_append gk (pv 2) (ac (pv 3) ao)))
      (aq (bR (i:=3) scReadKind.nd rfl (Or.inl rfl) (cy GB hr aP (ac (pv 0) (ac (pv 1) ao))))))
     (aj (bR (i:=4) scReadKind.nd rfl (Or.inl rfl) (Iw PySem.F.plainAttrs_list PySem.F.slot_list_pop PySem.F.type_list_pop Ix (pv 2)))
      (aj (cb (cy GT hr6 aP (ac (pv 0) (ac (pv 4) (ac (pv 3) ao)))))
      (aq (bR (i:=3) scReadKind.nd rfl (Or.inl rfl) (pv 4))))))))
   (aq (bb (pv 3))))),?_⟩
  have hll:H l≠none:=by obtain⟨dx,as,all,p,h1,h2,_⟩:=hR.ex;rw[h2];simp
  have hrr:H r≠none:=hM0 r hrM;have hnr:nd≠r:=fun z=>by obtain⟨dx,p,h1⟩:=hR.obj;have:=hnd.lst;rw[z,h1]at this;cases this
  refine⟨by decide,fun q B=>?_⟩;have h0:Fx [r,nd] H (dJ H q (.lst [])):=Fx.new B;have hR0:RdAt RC (dJ H q (.lst [])) r l ts:=hR.keep (M:= []) (Fx.new B) (by simp) (by simp) (by simp);have b7:NmAt KC (dJ H q (.lst [])) nd gs0 ns:=hnd.move (M:= []) (Fx.new B) (by simp) (by simp);refine⟨_,rfl,_,rfl,r,l,nd,ts,gs0,ns,rfl,hR0,b7,by lia,a7,?_⟩;unfold oR at g;unfold vq;cases e0:gC ns ts with
  |none=>rw[e0]at g;exact fun H'=>g H'
  |some x=>
   rw[e0]at g;dsimp only at g;intro f0 gs1 H1 hK1 hn1 hR1 b6 R hF1;obtain⟨b1,b2,b3,b4,b5⟩:=kY (by lia) e0;have J:∀b∈f0.l,H b=none/\b≠q:=fun b j=>by
    have:=hn1 b j;have hba:b≠q:=fun z=>by rw[z,aU]at this;cases this
    rw[aY hba]at this;exact⟨this,hba⟩
   have a0:∀b∈nu gs0,H b≠none:=fun b j=>hnd.full j;have init:Stk RC KC r l nd q gs0 M0 H H1 gs1 x.1.2 [] x.1.1 x.2 f0 []:=by
    obtain⟨dx,as,q1,q2,q3,q4,q5,q6⟩:=hK1.ex;refine⟨hF1 q _ ?_ aU,b6,?_,?_,?_,hR1,⟨hK1.any b3,trivial⟩,?_,?_,h0.trans hF1,b2,by simp,by simp;lia,by lia,Gw.snoc (J f0.pa (by simp[Fm.l])).1 R,?_,?_,?_,by simp⟩
    ·simp only[am,eW,or_false];rintro(z|z)
     ·exact hrr (by rw[<-z];exact B)
     ·exact(hM0 nd hnM) (by rw[<-z];exact B)
    ·intro b j;rcases R with z|z
     ·rw[z.1]at j;exact .inl j
     ·rw[z.1,rB]at j;rcases aT.mp j with y|y
      ·exact .inl y
      ·exact .inr (J b (rC y)).1
    ·intro b j y;have y:b=q:=by simpa[iS]using y
     rcases R with z|z
     ·rw[z.1]at j;exact a0 b j (by rw[y];exact B)
     ·rw[z.1,rB]at j;rcases aT.mp j with u|u
      ·exact a0 b u (by rw[y];exact B)
      ·exact(J b (rC u)).2 y
    ·intro hw b j y;rcases R with z|z
     ·rw[z.1]at j;exact a0 b j (J b y).1
     ·rw[z.2.1]at hw;cases hw
    ·rw[cz,show iS []= []from rfl,aG,cR];exact⟨fun z=>(J q z).2 rfl,q6⟩
    ·intro b j;rw[cz,show iS []= []from rfl,aG]at j;rcases am.mp j with z|z
     ·rw[z];exact B
     ·exact(J b z).1
    ·intro hf;rcases R with z|z
     ·exact absurd hf z.2
     ·rw[z.1];simp
    ·intro hf b j y;rcases R with z|z
     ·rw[z.1]at j;exact a0 b j (J b y).1
     ·exact hf z.2.2
    ·intro hw;rcases R with z|z
     ·exact z.2
     ·rw[z.2.1]at hw;cases hw
   refine whl (fun m σ' H'=>∃(gs:List Fm) (ns:List (List Nat)) (stk:List Kr) (k:Kr) (ts:List Tk) (f:Fm) (fs:List Fm) (oo:Option V),σ'= [some (.ref r),some (.ref nd),some (.ref q),some (.ref f.a),oo]/\Stk RC KC r l nd q gs0 M0 H H' gs ns stk k ts f fs/\2*ts.length+stk.length < m/\
    D5 RC WT KC r l nd gs0 M0 (mRunF m ns stk k ts) H Q E) _ ⟨gs1,x.1.2, [],x.1.1,x.2,f0, [],none,rfl,init,by simp,g⟩ ?_
   rintro m σ' H2 ⟨C,ns2,stk,k,ts2,f,fs,oo,rfl,S,hm,g2⟩ Y0 X0 hY hX;match m,hY,hm with
   |0,_,hm=>lia
   |m+1,hY,hm=>
   obtain⟨dk,as,q1,q2,q3,q4,q5,q6⟩:=S.st.1.ex;rw[gi]at g2;have O:∀b∈M0,b≠q:=fun b j z=>hM0 b j (by rw[z];exact B);have X: (iS (f::fs)).Nodup:=(cR.mp S.dup).2;have Y:q∉iS (f::fs):=(cR.mp S.dup).1;have a8:=StAt.len S.st.2;refine⟨_,rfl,f.a,KC,dk,_,_,rfl,q1,TK.cl,TK.waits,sO,_,rfl,?_⟩;cases hw:k.waits with
   |true=>
    rw[hw,qab rfl]at g2;refine d9 (d9 (hY _ fun N0 R0 B0 hN hR0=>?_));refine⟨_,rfl,f.a,KC,dk,_,_,rfl,q1,TK.cl,TK.waits,sO,_,rfl,?_⟩;rw[hw];refine d9 ?_;refine⟨_,rfl, .inl ⟨rfl,_,SqL.of S.arr⟩,_,rfl,q,_,_,rfl,rfl,S.arr,?_,?_⟩
    ·rw[ah,Bo,a8];have:=S.deep;exact bK (show stk.length<=65536 by lia) (by decide)
    have U:Fx [q] H2 (dJ H2 q (.lst ((fs.reverse.map fun f=>V.ref f.a)++ [.ref f.a]))):=Fx.set af;have hR3:RdAt RC (dJ H2 q (.lst ((fs.reverse.map fun f=>V.ref f.a)++ [.ref f.a]))) r l ts2:=S.rd.keep U (by simpa using(O r hrM)) (fun z=>hll (by rw[aw.mp z];exact B)) (fun b j xs e=>by rw[aw.mp j,S.arr]at e;cases e);have a2:NmAt KC (dJ H2 q (.lst ((fs.reverse.map fun f=>V.ref f.a)++ [.ref f.a]))) nd C ns2:=S.ndd.move U (by simpa using(O nd hnM)) (fun b j z=>S.ap1 b j (by rw[aw.mp z];exact af));refine⟨_,rfl,_,rfl,r,l,nd,ts2,C,ns2,rfl,hR3,a2,by have:=S.few;lia,a7,?_⟩;unfold vq;cases e1:gC ns2 ts2 with
    |none=>rw[e1]at g2;exact fun H'=>g2 H'
    |some y=>
     rw[e1]at g2;intro f' gs4 H4 hK4 hn4 hR4 b0 G Z;obtain⟨c1,c2,c3,c4,c5⟩:=kY (by have:=S.few;lia) e1
     -- the new one is apart from all
     have I:∀b∈f'.l,H2 b=none/\b≠q:=fun b j=>by
      have:=hn4 b j;have hba:b≠q:=fun z=>by rw[z,aU]at this;cases this
      rw[aY hba]at this;exact⟨this,hba⟩
     have a3:∀b∈f'.l,H b=none:=fun b j=>by
      cases e:H b with
      |none=>rfl
      |some o=>
       by_cases hbM:b∈ [r,nd]
       ·simp only[am,eW,or_false]at hbM;have:=(I b j).1;obtain⟨dxr,pr,hrd⟩:=S.rd.obj;rcases hbM with z|z
        ·rw[z,hrd]at this;cases this
        ·rw[z,S.ndd.lst]at this;cases this
       ·have:=S.fx b o hbM e;rw[(I b j).1]at this;cases this
     have W:∀b∈iS (f::fs),H2 b≠none:=by
      have:∀(fs:List Fm) (ks:List Kr),StAt KC (M0++q::iS (f::fs)) C H2 fs ks->True:=fun _ _ _=>trivial;have aux:∀ {M:List aa} {fs:List Fm} {ks:List Kr},StAt KC M C H2 fs ks->∀b∈iS fs,H2 b≠none:=by
       intro M fs;induction fs with
       |nil=>intro ks _ b j;simp[iS]at j
       |cons f fs ih=>
        intro ks hs b j;cases ks with
        |nil=>exact hs.elim
        |cons k ks=>
         rw[cz]at j;rcases aT.mp j with z|z
         ·obtain⟨dk,as,q1,q2,q3,q4,_⟩:=hs.1.ex;have hb':b=f.a\/b=f.pl\/b=f.pa\/b=f.op:=by simpa[Fm.l]using z
          rcases hb' with z|z|z|z
          ·rw[z,q1];simp
          ·rw[z,q2];simp
          ·rw[z,q3];simp
          ·rw[z,q4];simp
         ·exact ih hs.2 b z
      exact aux S.st
     refine hN m _ _ (cS m) ⟨gs4,y.1.2,k::stk,y.1.1,y.2,f',f::fs,oo,rfl,⟨?_,b0,?_,?_,?_,hR4,⟨hK4.any c3,?_⟩,?_,?_,?_,c2,?_,?_,?_,?_,?_,?_,?_,?_⟩,?_,g2⟩
     ·rw[CW,ay];refine Z q _ ?_ aU;simp only[am,eW,or_false];rintro(z|z)
      ·exact O r hrM z.symm
      ·exact O nd hnM z.symm
     ·intro b j;rcases G with z|z
      ·rw[z.1]at j;exact S.gnw b j
      ·rw[z.1,rB]at j;rcases aT.mp j with u|u
       ·exact S.gnw b u
       ·exact .inr (a3 b (rC u))
     ·have ha:∀b∈nu C,b∉q::iS (f::fs):=fun b j z=>by
       rcases am.mp z with u|u
       ·exact S.ap1 b j (by rw[u];exact af)
       ·rw[cz]at u;rcases aT.mp u with u|u
        ·exact S.ap2 hw b j u
        ·exact S.ap1 b j (ak _ u)
      intro b j;rcases G with z|z
      ·rw[z.1]at j;exact ha b j
      ·rw[z.1,rB]at j;rcases aT.mp j with u|u
       ·exact ha b u
       ·intro v;have n1:=I b (rC u);rcases am.mp v with v|v
        ·exact n1.2 v
        ·exact W b v n1.1
     ·intro hw' b j v;rcases G with z|z
      ·rw[z.1]at j;exact S.ndd.full j (I b v).1
      ·rw[z.2.1]at hw';cases hw'
     ·have hs:=StAt.move (G':=C) Gw.refl (M':=M0++q::iS (f::fs)) U (by simp) (fun b j=> .inl j) S.st (fun b j z=>Y (by rw[<-aw.mp z];exact j));refine StAt.move (Gw.snoc (hn4 f'.pa (by simp[Fm.l])) G) (M':=M0++q::iS (f'::f::fs)) Z ?_ ?_ hs ?_
      ·intro b j;simp only[am,eW,or_false]at j;rcases j with z|z
       ·rw[z];exact aH _ hrM
       ·rw[z];exact aH _ hnM
      ·intro b j;rw[cz f' (f::fs)]at j;rcases aT.mp j with z|z
       ·exact .inl (aH _ z)
       ·rcases am.mp z with z|z
        ·exact .inl (aM _ (by rw[z];exact af))
        ·rcases aT.mp z with z|z
         ·exact .inr (hn4 b z)
         ·exact .inl (aM _ (ak _ z))
      ·intro b j z;have hn:=S.new b (ak _ j);simp only[am,eW,or_false]at z;rcases z with z|z
       ·exact hrr (by rw[<-z];exact hn)
       ·exact hM0 nd hnM (by rw[<-z];exact hn)
     ·rw[cz f' (f::fs),cR];refine⟨fun z=>?_,?_⟩
      ·rcases aT.mp z with z|z
       ·exact(I q z).2 rfl
       ·exact Y z
      ·obtain⟨_,_,_,_,_,_,_,hd'⟩:=hK4.ex;exact bJ.mpr ⟨hd',X,fun a ha b j z=>W b j (by rw[<-z];exact(I a ha).1)⟩
     ·intro b j;rw[cz f' (f::fs)]at j;rcases am.mp j with z|z
      ·rw[z];exact B
      ·rcases aT.mp z with z|z
       ·exact a3 b z
       ·exact S.new b (ak _ z)
     ·refine Fx.trans (H1:=dJ H2 q (.lst ((fs.reverse.map fun f=>V.ref f.a)++ [.ref f.a]))) ?_ Z;intro b o n e;rw[aY (br e B)];exact S.fx b o n e
     ·intro o ho;rcases am.mp ho with z|z
      ·rw[z];exact S.fit.mono c1
      ·exact(S.fits o z).mono (by lia)
     ·have:=S.deep;rw[ae];lia
     ·have:=S.few;lia
     ·have g4:=Gw.snoc (a3 f'.pa (by simp[Fm.l])) G;refine⟨fun g hg=>g4.sub g (S.gpn.sub g hg),fun b j=>?_⟩;rcases g4.new b j with z|z
      ·exact S.gpn.new b z
      ·exact .inr z
     ·intro hf;rcases G with z|z
      ·exact absurd hf z.2
      ·rw[z.1];simp
     ·intro hf b j v;rcases G with z|z
      ·rw[z.1]at j;exact S.ndd.full j (I b v).1
      ·exact hf z.2.2
     ·intro hw';rcases G with z|z
      ·exact z.2
      ·rw[z.2.1]at hw';cases hw'
     ·intro o ho;rcases am.mp ho with z|z
      ·rw[z];exact S.wnm hw
      ·exact S.fos o z
     ·rw[ae];lia
   |false=>
    rw[hw,qaa (by decide)]at g2;refine eC ?_;refine⟨_,rfl,q,_,rfl, .inl (SqL.of S.arr),_,_,rfl,rfl,_,rfl,?_⟩;rw[ah,Bo,a8];cases stk with
    |nil=>
     refine eC (hX _ ⟨_,rfl,?_⟩);refine g2 f.a C H2 (S.st.1.fin hw (fun b j=>aH _ j) (fun b j z=>?_) S.nmd (fun e z=>S.nnm e _ (sY z) (by simp[Fm.l]))) S.rd S.ndd S.gnw S.gpn S.fx;exact hM0 b z (S.new b (by rw[cz];exact ak _ (aH _ j)))
    |cons o st=>
     cases fs with
     |nil=>exact S.st.2.elim
     |cons fo fs'=>
     refine du (fun _=>hY _ fun N0 R0 B0 hN hR0=>?_) (fun hc=>absurd (qad (by rw[ae];lia)) hc);refine⟨_,rfl,f.a,KC,dk,_,_,rfl,q1,TK.cl,TK.waits,sO,_,rfl,?_⟩;rw[hw];refine eC ?_;have a6: ((fo::fs').reverse.map fun f=>V.ref f.a)= (fs'.reverse.map fun f=>V.ref f.a)++ [V.ref fo.a]:=by rw[CW,ay];rfl
     have a9: ((fo::fs').reverse.map fun f=>V.ref f.a)[((fo::fs').reverse.map fun f=>V.ref f.a).length - 1]? =some (V.ref fo.a):=by rw[a6];simp
     refine⟨_,rfl, .inl ⟨rfl,_,SqL.of S.arr⟩,q,_,_,rfl,rfl,S.arr,a9,?_⟩;rw[a6,List.dropLast_concat];have U:Fx [q] H2 (dJ H2 q (.lst (fs'.reverse.map fun f=>V.ref f.a))):=Fx.set af;generalize hH3:dJ H2 q (.lst (fs'.reverse.map fun f=>V.ref f.a))=H3 at U ⊢;have b9:H3 q=some (.lst (fs'.reverse.map fun f=>V.ref f.a)):=by rw[<-hH3];exact aU
     have hR3:RdAt RC H3 r l ts2:=S.rd.keep U (by simpa using(O r hrM)) (fun z=>hll (by rw[aw.mp z];exact B)) (fun b j xs e=>by rw[aw.mp j,S.arr]at e;cases e);have a2:NmAt KC H3 nd C ns2:=S.ndd.move U (by simpa using(O nd hnM)) (fun b j z=>S.ap1 b j (by rw[aw.mp z];exact af));have hs3:=StAt.move (G':=C) Gw.refl (M':=M0++q::iS (f::fo::fs')) U (by simp) (fun b j=> .inl j) S.st (fun b j z=>Y (by rw[<-aw.mp z];exact j))
     -- what stays to be read
     have a5:∀b∈M0++q::iS (fo::fs'),b∈M0++q::iS (f::fo::fs'):=fun b j=>by
      rcases aT.mp j with z|z
      ·exact aH _ z
      ·rcases am.mp z with z|z
       ·exact aM _ (by rw[z];exact af)
       ·exact aM _ (ak _ (by rw[cz f];exact aM _ z))
     have hs4:StAt KC (M0++q::iS (fo::fs')) C H3 (fo::fs') (o::st):=StAt.move Gw.refl (N:= []) (M':=M0++q::iS (fo::fs')) Fx.refl (by simp) (fun b j=> .inl (a5 b j)) hs3.2 (by simp);have hd1:∀b∈f.l,b∉iS (fo::fs'):=fun b j z=>by
      rw[cz f]at X;exact(bJ.mp X).2.2 b j b z rfl
     have hap:∀b∈f.l,b∉M0++q::iS (fo::fs'):=fun b j z=>by
      have hn:=S.new b (by rw[cz];exact ak _ (aH _ j));rcases aT.mp z with z|z
      ·exact hM0 b z hn
      ·rcases am.mp z with z|z
       ·exact Y (by rw[<-z,cz];exact aH _ j)
       ·exact hd1 b j z
     have hI:KAt KC (M0++q::iS (fo::fs')) C H3 f.a k.fin:=hs3.1.fin hw a5 hap S.nmd (fun e z=>S.nnm e _ (sY z) (by simp[Fm.l]));have hfo:=S.fits o af;have b8:l∉fo.l:=fun z=>hll (S.new l (by rw[cz,cz];exact ak _ (aM _ (aH _ z))));have hMo:∀b∈r::fo.l,b∈M0++q::iS (fo::fs'):=fun b j=>by
      rcases am.mp j with z|z
      ·rw[z];exact aH _ hrM
      ·exact aM _ (ak _ (by rw[cz];exact aH _ z))
     refine⟨_,rfl,_,rfl,_,rfl,r,l,ts2,fo,o,M0++q::iS (fo::fs'),C,f.a,k.fin,rfl,hR3,hs4.1,hI,b8,hMo,by have:=hfo.1;lia,by have:=hfo.2.1;lia,by have:=hfo.2.2;lia,?_⟩;unfold iE;dsimp only at g2;cases e1:f7 o k.fin ts2 with
     |none=>rw[e1]at g2;exact fun H'=>g2 H'
     |some y=>
      rw[e1]at g2;dsimp only at g2;intro H4 hK4 hR4 Z;obtain⟨c1,c2⟩:=Ce hfo e1;have hd2: (iS (fo::fs')).Nodup:=by rw[cz f]at X;exact(bJ.mp X).2.1
      have hd3:∀b∈fo.l,b∉iS fs':=fun b j z=>by
       rw[cz fo]at hd2;exact(bJ.mp hd2).2.2 b j b z rfl
      have a1:∀b∈q::iS (fo::fs'),H b=none:=fun b j=>S.new b (by
       rcases am.mp j with z|z
       ·rw[z];exact af
       ·exact ak _ (by rw[cz f];exact aM _ z))
      have hnl:∀b∈M0,b≠r->b∉r::fo.l:=fun b j hn z=>by
       rcases am.mp z with z|z
       ·exact hn z
       ·exact hM0 b j (a1 b (by rw[cz];exact ak _ (aH _ z)))
      have a4:q∉iS (fo::fs'):=fun z=>Y (by rw[cz f];exact aM _ z);refine⟨_,rfl,hN m _ _ (cS m) ⟨C,ns2,st,y.1.2,y.2,fo,fs',_,rfl,⟨?_,?_,S.gnw,?_,?_,hR4,⟨hK4,?_⟩,?_,a1,?_,c2,?_,?_,?_,S.gpn,?_,?_,?_,?_⟩,?_,g2⟩⟩
      ·refine Z q _ (fun z=>?_) b9;rcases am.mp z with z|z
       ·exact O r hrM z.symm
       ·exact a4 (by rw[cz];exact aH _ z)
      ·refine a2.move Z (hnl nd hnM hnr) (fun b j z=>?_);rcases am.mp z with z|z
       ·exact a2.r_out hR3 (by rw[<-z];exact j)
       ·exact S.ap1 b j (by rw[cz];exact ak _ (aH _ z))
      ·intro b j z;refine S.ap1 b j ?_;rcases am.mp z with z|z
       ·rw[z];exact af
       ·rw[cz];exact ak _ (aM _ z)
      ·exact fun _ b j z=>S.ap1 b j (by rw[cz];exact ak _ (aH _ z))
      ·refine StAt.move Gw.refl Z hMo (fun b j=> .inl j) hs4.2 (fun b j z=>?_);rcases am.mp z with z|z
       ·exact hrr (by rw[<-z];exact a1 b (by rw[cz];exact ak _ (aM _ j)))
       ·exact hd3 b z j
      ·exact cR.mpr ⟨a4,hd2⟩
      ·intro b oo n e;refine Z b oo (fun z=>?_) (U b oo (by simpa using br e B) (S.fx b oo n e));rcases am.mp z with z|z
       ·exact n (by rw[z];simp)
       ·rw[a1 b (by rw[cz];exact ak _ (aH _ z))]at e;cases e
      ·intro o' ho';exact(S.fits o' (ak _ ho')).mono (by lia)
      ·have:=S.deep;rw[ae]at this;lia
      ·have:=S.few;lia
      ·intro hf;rw[sZ e1]at hf;exact absurd hf (S.fos o af)
      ·exact fun _ b j z=>S.ap1 b j (by rw[cz];exact ak _ (aH _ z))
      ·intro _;rw[sZ e1];exact S.fos o af
      ·exact fun o' ho'=>S.fos o' (ak _ ho')
      ·rw[ae]at hm;lia
end
theorem qb{k:Kr}{ts:List Tk}{y: (Unit×Kr)×List Tk}(h:fw k ts=some y):y.2.length<=ts.length:=by
 unfold fw at h;split at h
 ·cases h
 ·rename_i x e;have:=(fE e).1;cases h;show x.2.length<=_;lia
theorem tm{k:Kr}{g:Kd}{ts:List Tk}{y: (Unit×Kr)×List Tk}(h:f7 k g ts=some y):y.2.length<=ts.length:=by
 unfold f7 at h;split at h
 ·cases h;exact aC _
 ·split at h
  ·split at h
   ·rename_i r e;have:=bT e;have:=qb h
    lia
   ·exact qb h
  ·exact qb h
theorem qc:∀(n:Nat) {ns:List (List Nat)} {stk:List Kr} {k:Kr} {ts:List Tk} {x: (Kr×List (List Nat))×List Tk},ts.length<=65536->mRunF n ns stk k ts=some x->x.2.length<=ts.length/\x.1.2.length+x.2.length<=ns.length+ts.length
 |0,_,_,_,_,_,_,h=>by rw[mRunF.eq_def]at h;cases h
 |n+1,ns,stk,k,ts,x,hz,h=>by
  rw[gi]at h;split at h
  ·split at h
   ·cases h
   ·rename_i y e;obtain⟨p,v,u,r,q⟩:=kY hz e;obtain⟨j,g⟩:=qc n (by lia) h;exact⟨by lia,by lia⟩
  ·split at h
   ·cases h;exact⟨aC _,aC _⟩
   ·split at h
    ·cases h
    ·rename_i y e;have p:=tm e;obtain⟨j,g⟩:=qc n (by lia) h;exact⟨by lia,by lia⟩
theorem Cf{ns:List (List Nat)}{ts:List Tk}{x: (Kr×List (List Nat))×List Tk}(g:ts.length<=65536)(h:oR ns ts=some x):x.2.length < ts.length/\x.1.2.length+x.2.length<=ns.length+ts.length:=by
 unfold oR at h;split at h
 ·cases h
 ·rename_i y e;obtain⟨z,v,u,r,q⟩:=kY g e;obtain⟨p,j⟩:=qc _ (by lia) h;exact⟨by lia,by lia⟩
def mDefsF:Nat->List (List Nat)->List (List Nat×Kd)->List Tk->Option (List (List Nat×Kd)×List (List Nat))
 |0,_,_,_=>none
 |n+1,ns,ds,ts=>match ts with
  | []=>some (ds,ns)
  | .word w::r=>if eF w=true/\w∉ds.map bO then match aJ (.sign (cd "::=")) r with
    |none=>none
    |some r2=>match oR ns r2 with
     |none=>none
     |some x=>mDefsF n x.1.2 (ds++ [(w,x.1.1.fin)]) x.2
   else none
  |_=>none
theorem qM(n:Nat)(ns:List (List Nat))(e:List (List Nat×Kd))(ts:List Tk):mDefsF (n+1) ns e ts= (match ts with
  | []=>some (e,ns)
  | .word w::r=>if eF w=true/\w∉e.map bO then match aJ (.sign (cd "::=")) r with
    |none=>none
    |some r2=>match oR ns r2 with
     |none=>none
     |some x=>mDefsF n x.1.2 (e++ [(w,x.1.1.fin)]) x.2
   else none
  |_=>none):=by rw[mDefsF.eq_def]
def Ge(e:List (List Nat×Kd))(ns:List (List Nat)):Option (List (List Nat×Kd)):=
 if e.length < 1\/256 < e.length then none else if(ns.all fun n=>decide (n∈e.map bO))=true then some e else none
def oS(ts:List Tk):Option (List (List Nat×Kd)):=match mDefsF (ts.length+1) [] [] ts with
 |none=>none
 |some x=>Ge x.1 x.2
def vw(e:List (List Nat×aa)):List (g0×V):=e.map fun p=>(bQ ⟨p.1.toArray⟩, .ref p.2)
theorem oU(n:List Nat):∀l:List (List Nat×aa),(gf (vw l) (bQ (⟨n.toArray⟩:aQ))).isSome=decide (n∈l.map bO)
 | []=>rfl
 |m::r=>by
  by_cases e:m.1=n
  ·subst e;show(gf (_::vw r) _).isSome=_;rw[i9 rfl];simp
  ·have g:¬((bQ ⟨m.1.toArray⟩:g0)=bQ ⟨n.toArray⟩):=fun z=>e (by injection z with z;injection z with z;simpa using z);show(gf (_::vw r) _).isSome=_;rw[ja g,oU n r];have:n∈(m::r).map bO↔n∈r.map bO:=by rw[bg,am];exact⟨fun z=>z.resolve_left (fun z=>e z.symm), .inr⟩
   simp only[this]
theorem Gf{n:List Nat}{l:List (List Nat×aa)}(a:aa)(h:n∉l.map bO):lA (vw l) (bQ (⟨n.toArray⟩:aQ)) (.ref a)=vw (l++ [(n,a)]):=by
 have g:=oU n l;rw[decide_eq_false h]at g;rw[xA]
 ·unfold vw;rw[ay];rfl
 ·cases e:gf (vw l) (bQ (⟨n.toArray⟩:aQ))with
  |none=>rfl
  |some v=>rw[e]at g;cases g
theorem AH(l:List (List Nat×aa)): (vw l).length=l.length:=by unfold vw;rw[ah]
theorem tu(n:List Nat):∀l:List (List Nat×aa),gf (vw l) (bQ (⟨n.toArray⟩:aQ))= (l.lookup n).map V.ref
 | []=>rfl
 |m::r=>by
  obtain⟨a,b⟩:=m;by_cases e:a=n
  ·subst e;show gf (_::vw r) _=_;rw[i9 rfl,bS,qag];rfl
  ·have g:¬((bQ ⟨a.toArray⟩:g0)=bQ ⟨n.toArray⟩):=fun z=>e (by injection z with z;injection z with z;simpa using z);show gf (_::vw r) _=_;rw[ja g,tu n r,bS,qae.mpr (fun z=>e z.symm)]
mutual
/-- a read kind stands at an address;where it names another,that one is in it -/
inductive KJ(KC:aa)(tb:List (List Nat×aa))(H:Hp):aa->Kd->Prop
 |mk {f:Fm} {dx:aa} {as:List aa} {form:aQ} {target:List Nat} {low high:Option Int} {names:List (List Nat)} {roots:Nat} {ext:Bool} {parts:List Kd} {opts:List Bool} :
   H f.a=some (.ins KC dx (kf form target low high f.pl roots ext f.pa f.op false))->H f.pl=some (.dK (nmd names))->H f.pa=some (.lst (as.map V.ref))->H f.op=some (.lst (kU opts))->
   form≠"a name"->KJs KC tb H as parts->KJ KC tb H f.a (.mk form target low high names roots ext parts opts)
 |nm {f:Fm} {dx b:aa} {target:List Nat} {low high:Option Int} {names:List (List Nat)} {roots:Nat} {ext:Bool} {parts:List Kd} {opts:List Bool} :
   H f.a=some (.ins KC dx (kf "a name" target low high f.pl roots ext f.pa f.op false))->H f.pa=some (.lst [.ref b])->tb.lookup target=some b->KJ KC tb H f.a (.mk "a name" target low high names roots ext parts opts)
inductive KJs(KC:aa)(tb:List (List Nat×aa))(H:Hp):List aa->List Kd->Prop
 |nil:KJs KC tb H [] []
 |cons {a:aa} {as:List aa} {k:Kd} {ks:List Kd} :KJ KC tb H a k->KJs KC tb H as ks->KJs KC tb H (a::as) (k::ks)
end
def Jd(tb:List (List Nat×aa))(H':Hp)(e:List Fm)(ns:List (List Nat)):Prop:=∀(j:Nat) (g:Fm) (n:List Nat),e[j]? =some g->ns[j]? =some n->∃b,tb.lookup n=some b/\H' g.pa=some (.lst [.ref b])
mutual
theorem KAt.join{x:aa}{M:List aa}{h:List Fm}{ns:List (List Nat)}{tb:List (List Nat×aa)}{H H':Hp}(u:NmsAt x H h ns)(g:∀b o,b∉oK h->H b=some o->H' b=some o)(C:Jd tb H' h ns):∀ {a:aa} {k:Kd},KAt x M h H a k->KJ x tb H' a k
 |_,_, .mk (f:=f) (form:=form) (target:=target) h1 h2 h3 h4 h5 h7 h8 h6=>by
  have p:∀ {b:aa} {o:HO},H b=some o->o≠ .lst []->b∉oK h:=fun e n z=>by
   rw[u.pa _ z]at e;exact n (aB e).symm
  have v:=g _ _ (p h1 (by intro z;cases z)) h1;by_cases q:form="a name"
  ·subst q;obtain⟨j,D⟩:=dm.mp (h7 rfl);obtain⟨n,G,⟨J,B⟩,O⟩:=u.at D;rw[h1]at B;have F:=aB B;injection F with _ _ q4
   have E:sv target=sv n:=by
    have:=qaf (fun l=>fH ("target":aQ) l) q4;rw[mQ,mQ]at this;exact aB this
   have y:=sv_inj.mp E;obtain⟨b,I,r⟩:=C j f n D G;rw[y]at v;rw[y];exact .nm v r I
  ·exact .mk v (g _ _ (p h2 (by intro z;cases z)) h2) (g _ _ (h8 q) h3) (g _ _ (p h4 (by intro z;injection z with z;have:=qaf cI z;rw[sS]at this;cases this)) h4) q (KsAt.join u g C h6)
theorem KsAt.join{g:aa}{M:List aa}{e:List Fm}{ns:List (List Nat)}{tb:List (List Nat×aa)}{H H':Hp}(q:NmsAt g H e ns)(j:∀b o,b∉oK e->H b=some o->H' b=some o)(p:Jd tb H' e ns):∀ {as:List aa} {h:List Kd},KsAt g M e H as h->KJs g tb H' as h
 |_,_, .nil=> .nil
 |_,_, .cons a b=> .cons (KAt.join q j p a) (KsAt.join q j p b)
end
def D6(h j:aa)(o:Option (List (List Nat×Kd)))(H:Hp)(Q:VK)(E:XK):Prop:=match o with
 |some ds=>∀(g:aa) (e:List (List Nat×aa)) (H':Hp),H' g=some (.dK (vw e))->e.map bO=ds.map bO->KJs j e H' (e.map dS) (ds.map dS)->(∀b o,H b=some o->H' b=some o)->Q (.ref g) H'
 |none=>∀H',E (.ref h) none H'
structure Dfs(RC KC r l nd kd:aa)(H H':Hp)(gs:List Fm)(ns:List (List Nat))(ds:List (List Nat×Kd))(ps:List (List Nat×aa))(ts:List Tk):Prop where
 rd:RdAt RC H' r l ts
 ndd:NmAt KC H' nd gs ns
 nw:∀b∈nu gs,H b=none
 kdk:H' kd=some (.dK (vw ps))
 nms:ps.map bO=ds.map bO
 kin:KsAt KC [r,nd,kd] gs H' (ps.map dS) (ds.map dS)
 old:∀b o,H b=some o->H' b=some o
 few:ns.length+ts.length<=65536
 fed:ds.length+ts.length<=65536
section
variable {P:aZ}{w:bB}{K:PySem.W.Frag}{mg:aQ->Option ag}{base:bH}{WT RC KC:aa}
def kZ(K:PySem.W.Frag)(e g:aa):Sp:=fun vs H Q E=>CL fun(a:aa) (ns:List Nat)=>vs= [.ref a]/\SqL K H a (ns.map fun(n:Nat)=>V.int (n:Int))/\ns.length<=65536/\
 D6 e g (match toks (ns.map lc)with|none=>none|some ts=>oS ts) H Q E
def D7(j p:aa):Sp:=fun vs H Q E=>Ex5 fun(h nd:aa) (e:List (List Nat×aa)) (g:List Fm) (ns:List (List Nat))=>vs= [.ref h, .ref nd]/\H h=some (.dK (vw e))/\NmAt p H nd g ns/\ns.length<=65536/\
 ((ns.all fun n=>decide (n∈e.map bO))=true->∀H',(∀b o,b∉oK g->H b=some o->H' b=some o)->Jd e H' g ns->Q .non H')/\(¬(ns.all fun n=>decide (n∈e.map bO))=true->∀H',E (.ref j) none H')
theorem scJoin:bf ["kinds","named","kind"] ["kinds","named"] (aA nS):=fP
theorem Gg(D:Df K mg "join_named" nS ["kinds","named"])(T0:Txt K mg WT)(W:rA K KC):Ok P w K mg base (cE P w) 1 "join_named" ["kinds","named"] (D7 WT KC):=by
 refine D.okX scJoin (fun fa cdv A outer s H vs Q E hr h=>?_)
 ·obtain⟨kd,nd,O,u,ns,rfl,hkd,p,hns,g1,g2⟩:=h;have hu:=qC hr;refine⟨_,aq (Dk ma rfl (rp (pv 1)) (jv (i:=2) scJoin.nd rfl (Or.inl rfl))
   (aj (bN (r8 (pH hu (cp (pv 2) rfl) (pv 0))) (aq (cX PySem.F.excBase_ValueError T0.exc rfl (by rfl) T0.wt (ac aX ao) ft)) bh)
   (aq (cb (lv PySem.F.plainAttrs_list PySem.F.slot_list_append PySem.F.type_list_append gk (cp (pv 2) rfl) (ac (oF hu (pv 0) (cp (pv 2) rfl) (fun _ _=>rfl)) ao)))))),?_⟩
  have G:∀b∈oK u,H b=some (.lst []):=p.all.pa;have Z:∀b o,H b=some o->o≠ .lst []->b∉oK u:=fun b o e n z=>by
   rw[G b z]at e;exact n (aB e).symm
  have a0:nd∉oK u:=fun z=>p.nd_out (sY z);have a1:=p.all.len;refine⟨_,rfl,nd,rfl,⟨_,SqL.of p.lst⟩,?_⟩;refine Dl (xs:=u.map fun g=>V.ref g.a) (fun i B H'=>(∃o,B= [some (.ref kd),some (.ref nd),o])/\(∀b o,b∉oK u->H b=some o->H' b=some o)/\
    (∀(j:Nat) (g:Fm) (n:List Nat),u[j]? =some g->ns[j]? =some n->(j < i->∃b,O.lookup n=some b/\H' g.pa=some (.lst [.ref b]))/\(i<=j->H' g.pa=some (.lst [])))/\∀n∈ns.take i,n∈O.map bO)
   ⟨⟨_,rfl⟩,fun b o _ e=>e,fun j g n v _=>⟨fun z=>absurd z (mC _),fun _=>G _ (bA.mpr ⟨g,bd v,rfl⟩)⟩,by simp⟩ (fun i B H' _ h=>SqL.of (h.2.1 nd _ a0 p.lst)) (fun i x B H' Y h=>?_) (fun B H' h=>?_)
  ·obtain⟨⟨o,rfl⟩,hk,hp,r⟩:=h;rw[bp]at Y;obtain⟨g,v,rfl⟩:∃g,u[i]? =some g/\V.ref g.a=x:=by
    cases e:u[i]? with
    |none=>rw[e]at Y;cases Y
    |some y=>rw[e]at Y;exact⟨y,rfl,aB Y⟩
   have hgm:g∈u:=bd v;obtain⟨n,I,⟨dx,q1⟩,q2⟩:=p.all.at v;have M:=hk g.a _ (Z _ _ q1 (by intro z;cases z)) q1;have J:=hk kd _ (Z _ _ hkd (by intro z;cases z)) hkd;have X:=(hp i g n v I).2 (aC _);have hin:i < u.length:=(aD.mp v).1;refine⟨_,rfl,g.a,KC,dx,_,_,rfl,M,W.cl,W.target,mQ,_,rfl,kd,_,rfl,DGet.k (k:=bQ ⟨n.toArray⟩) J,_,rfl,?_⟩;have U:=oU n O;by_cases q:n∈O.map bO
   ·rw[qad q]at U;rw[U];refine eC ?_;have S:=tu n O;obtain⟨ba,hba⟩:∃b,O.lookup n=some b:=by
     rw[S,dy]at U;exact dj.mp U
    rw[hba]at S;have hv':gf (vw O) (bQ (⟨n.toArray⟩:aQ))=some (.ref ba):=S;refine⟨_,rfl,g.a,KC,dx,_,_,rfl,M,W.cl,W.parts,fY, .inl ⟨rfl,_,SqL.of X⟩,?_⟩;refine⟨_,rfl,_,rfl,g.a,KC,dx,_,_,rfl,M,W.cl,W.target,mQ,kd, .ref ba,rfl,by rw[<-hv'];exact DGet.k (k:=bQ ⟨n.toArray⟩) J,?_⟩;refine⟨g.pa,_,_,rfl,rfl,X,by decide,?_⟩;refine⟨⟨_,rfl⟩,fun b o hb e=>?_,fun j g' n' C R=>?_,fun m hm=>?_⟩
    ·rw[aY (fun z=>hb (by rw[z];exact bA.mpr ⟨g,hgm,rfl⟩))];exact hk b o hb e
    ·by_cases hji:j=i
     ·subst hji;rw[v]at C;rw[I]at R;cases C;cases R;exact⟨fun _=>⟨ba,hba,by rw[aU];rfl⟩,fun z=>absurd z (Nat.not_succ_le_self _)⟩
     ·have hne:g'.pa≠g.pa:=fun z=>hji (by
       have d:=p.dup;have e1: (oK u)[j]? =some g'.pa:=by unfold oK;rw[bp,C];rfl
       have e2: (oK u)[i]? =some g.pa:=by unfold oK;rw[bp,v];rfl
       rw[z]at e1;have l1:j < (oK u).length:=(aD.mp e1).1;exact(CP l1 d).mp (e1.trans e2.symm))
      obtain⟨p1,p2⟩:=hp j g' n' C R;rw[aY hne];exact⟨fun z=>p1 (by lia),fun z=>p2 (by lia)⟩
    ·rw[gJ,I]at hm;rcases aT.mp hm with z|z
     ·exact r m z
     ·have:m=n:=by simpa using z
      rw[this];exact q
   ·rw[decide_eq_false q]at U;rw[U];refine d9 ⟨by decide,g2 (fun z=>?_) _⟩;exact q (qac (bw.mp z _ (bd I)))
  ·obtain⟨_,hk,hp,r⟩:=h;rw[ah,a1,eV]at r;refine g1 (bw.mpr fun n I=>qad (r n I)) H' hk fun j g n v I=>?_;refine(hp j g n v I).1 ?_;rw[ah];exact(aD.mp v).1
theorem scReadSchema:bf ["text","reader","named","kinds","name"] ["text"] (aA mh):=fP
theorem tz(D:Df K mg "read_schema" mh ["text"])(T0:Txt K mg WT)(T:D2 K mg)(TR:mO K RC)(GR:AC P w K mg base fh 1 "Reader" RC ["self","tokens"] (kR RC))(GO:Ok P w K mg base (cE P w) 4 "tokens_of" ["codes"] (nW K WT))
  (GE:gy P w K mg base fh 1 RC "ended" ["self"] (fX RC)) (GT:gy P w K mg base (cE P w) 2 RC "takes" ["self","sort"] (jz RC WT)) (GC:Ok P w K mg base (cE P w) 1 "checked_kind_name" ["word"] (jL WT)) (GNS:gy P w K mg base (cE P w) 4 RC "needs_sign" ["self","sign"] (df RC WT))
  (GK:Ok P w K mg base (cE P w) 10 "read_kind" ["reader","named"] (tj RC WT KC)) (GJ:Ok P w K mg base (cE P w) 1 "join_named" ["kinds","named"] (D7 WT KC)):Ok P w K mg base (cE P w) 11 "read_schema" ["text"] (kZ K WT KC):=by
 refine D.okX scReadSchema (fun fa cdv A outer s H vs Q E hr h=>?_)
 ·obtain⟨a,cs,rfl,hS,hl,g⟩:=h;have hu:=qC hr;have hr1:=hr.mono (show 1<=10 by decide);have hr2:=hr.mono (show 2<=10 by decide);have hr4:=hr.mono (show 4<=10 by decide);refine⟨_,aj (bR (i:=1) scReadSchema.nd rfl (Or.inl rfl) (jK GR hr2 cD (ac (cy GO hr4 aP (ac (pv 0) ao)) ao)))
   (aj (bR (i:=2) scReadSchema.nd rfl (Or.inl rfl) (iq ao))
   (aj (bR (i:=3) scReadSchema.nd rfl (Or.inl rfl) xE)
   (aj (ic ma (iZ (cB (wk GE TR.cl hr1 cD (pv 1))))
    (aj (bR (i:=4) scReadSchema.nd rfl (Or.inl rfl) (cy GC hr1 aP (ac (cT GT TR.cl hr2 aP (pv 1) (ac (ek T0.word) ao)) ao)))
    (aj (bN (r8 (DA hu (pv 4) (pv 3))) (aq (cX PySem.F.excBase_ValueError T0.exc rfl (by rfl) T0.wt (ac aX ao) ft)) bh)
    (aj (cb (cT GNS TR.cl hr4 aP (pv 1) (ac aX ao)))
    (aq (Ar hu (pv 3) (pv 4) (cy GK hr aP (ac (pv 1) (ac (pv 2) ao))) rfl))))))
   (aj (bN (PW.pt (lr (bo lu (cJ pI (by rfl) T0.len PySem.boot_len (ac (pv 3) ao)) cw (bE _)) (ip (bo lY (cJ pI (by rfl) T0.len PySem.boot_len (ac (pv 3) ao)) (ek T.kinds) (bE _)))))
    (aq (cX PySem.F.excBase_ValueError T0.exc rfl (by rfl) T0.wt (ac aX ao) ft)) bh)
   (aj (cb (cy GJ hr1 aP (ac (pv 3) (ac (pv 2) ao))))
   (aq (bb (pv 3)))))))),?_⟩
  have hlm: (cs.map lc).length<=65536:=by rw[ah];exact hl
  have h8:∀c∈cs.map lc,c < 128:=fun c Z=>by
   obtain⟨n,_,rfl⟩:=bA.mp Z;exact vg n
  refine⟨_,rfl,a,cs,rfl,hS,hl,?_⟩;cases et:toks (cs.map lc)with
  |none=>rw[et]at g;exact fun H'=>g H'
  |some ts=>
   rw[et]at g;dsimp only at g;obtain⟨tok,jF⟩:=j7 _ hlm h8 et;intro p as H1 hp hA B hpn r dx hr0 hdx hne;refine⟨r,dx,p,rfl,aU,fun H2 h2r hF2=>⟨rfl,?_⟩⟩;have O:∀b o,H1 b=some o->H2 b=some o:=fun b o e=>by
    have b1:b≠r:=br e hr0;refine hF2 b o (by simpa using b1) ?_;rw[aY b1,aY (br e hdx)];exact e
   have hR2:RdAt RC H2 r p ts:=⟨dx,as,ts,0,h2r,O p _ hp,hA.mono O,cr _,by lia,tok,rfl⟩;refine⟨by decide,fun nd U=>?_⟩;have hnp:nd≠p:=fun z=>by rw[z,O p _ hp]at U;cases U
   have hR3:RdAt RC (dJ H2 nd (.lst [])) r p ts:=hR2.keep (M:= []) (Fx.new U) (by simp) (by simp) (by simp);have k23:∀b o,H2 b=some o->dJ H2 nd (.lst []) b=some o:=fun b o e=>by rw[aY (br e U)];exact e
   have C:dJ H2 nd (.lst []) nd=some (.lst []):=aU;generalize dJ H2 nd (.lst [])=H3 at hR3 k23 C ⊢;intro u I;have hR4:RdAt RC (dJ H3 u (.dK [])) r p ts:=hR3.keep (M:= []) (Fx.new I) (by simp) (by simp) (by simp);have k34:∀b o,H3 b=some o->dJ H3 u (.dK []) b=some o:=fun b o e=>by rw[aY (br e I)];exact e
   have a7:dJ H3 u (.dK []) u=some (.dK []):=aU;have hkn:u≠nd:=fun z=>by rw[z,C]at I;cases I
   have Y:u≠r:=fun z=>by obtain⟨_,_,q⟩:=hR3.obj;rw[z,q]at I;cases I
   have hnr:nd≠r:=fun z=>by obtain⟨_,_,q⟩:=hR3.obj;rw[z,q]at C;cases C
   have a3:=k34 nd _ C;generalize dJ H3 u (.dK [])=H4 at hR4 k34 a7 a3 ⊢;have init:Dfs RC KC r p nd u H H4 [] [] [] [] ts:=⟨hR4,⟨a3,trivial,by simp[oK]⟩,by simp[nu],a7,rfl, .nil,fun b o e=>k34 b o (k23 b o (O b o (B b o e))),by simp;lia,by simp;lia⟩;unfold oS at g;refine whl (fun m σ' H'=>∃(gs:List Fm) (ns:List (List Nat)) (X:List (List Nat×Kd)) (R:List (List Nat×aa)) (ts:List Tk) (oo:Option V),σ'= [some (.ref a),some (.ref r),some (.ref nd),some (.ref u),oo]/\Dfs RC KC r p nd u H H' gs ns X R ts/\ts.length < m/\
    D6 WT KC (match mDefsF m ns X ts with|none=>none|some x=>Ge x.1 x.2) H Q E) _ ⟨[], [], [], [],ts,none,rfl,init,cS _,g⟩ ?_
   rintro m σ' H5 ⟨gs,ns,X,R,ts5,oo,rfl,S,hm,j⟩ Y0 X0 hY hX;match m,hY,hm with
   |0,_,hm=>lia
   |m+1,hY,hm=>
   rw[qM]at j;obtain⟨dx5,p5,h15⟩:=S.rd.obj;refine⟨_,rfl,r,dx5,_,rfl,h15,cN,r,p,ts5,rfl,S.rd,_,rfl,?_⟩;have hpl:R.length=X.length:=by have:=qaf cI S.nms;rwa [ah,ah]at this
   cases ts5 with
   |nil=>
    refine eC (hX _ ?_);dsimp only at j;unfold Ge at j;have a4: ((vw R).length:Int)= (X.length:Int):=by rw[AH,hpl]
    refine⟨_,rfl,u,_,rfl,S.kdk,_,_,rfl,rfl,_,rfl,?_⟩;rw[a4];refine du (fun Z=>?_) (fun Z=>?_)
    ·rw[qab (.inl (by have:=qac Z;lia))]at j;exact d9 ⟨by decide,j _⟩
    refine⟨_,rfl,u,_,rfl,S.kdk,_,_,rfl,rfl,_,rfl,?_⟩;rw[a4];refine du (fun hc2=>?_) (fun hc2=>?_)
    ·rw[qab (.inr (by have:=qac hc2;lia))]at j;exact⟨by decide,j _⟩
    rw[qaa (fun z=>z.elim (fun z=>Z (qad (by lia))) fun z=>hc2 (qad (by lia)))]at j;refine⟨_,rfl,_,rfl,u,nd,R,gs,ns,rfl,S.kdk,S.ndd,by have:=S.few;simp at this;lia,fun ha H' hk hj=>?_,fun ha H'=>?_⟩
    ·rw[S.nms]at ha;rw[qab ha]at j;refine⟨_,rfl,j u R H' (hk u _ (fun z=>S.ndd.d_out S.kdk (sY z)) S.kdk) S.nms (S.kin.join S.ndd.all hk hj) fun b o e=>hk b o (fun z=>?_) (S.old b o e)⟩;rw[S.nw b (sY z)]at e;cases e
    ·rw[S.nms]at ha;rw[qaa ha]at j;exact j _
   |cons t ts6=>
    refine d9 (hY _ fun N0 R0 B0 hN hR0=>?_);refine⟨_,rfl,r,dx5,_,rfl,h15,cN,r,p,"word",_,rfl,by decide+kernel,S.rd,?_⟩;rw[dP];cases t with
    |num z=>rw[qaa (cF (by intro z e;cases e))];exact fun H'=>j H'
    |bits a=>rw[qaa (cF (by intro z e;cases e))];exact fun H'=>j H'
    |octs a=>rw[qaa (cF (by intro z e;cases e))];exact fun H'=>j H'
    |sign a=>rw[qaa (cF (by intro z e;cases e))];exact fun H'=>j H'
    |word v=>
     rw[qab (oM v)];intro H6 hR6 hF6 hok;dsimp only at j;refine⟨v,rfl,⟨hok.1,hok.2.1⟩,cn hok.2.2.1 (by decide),fun hk=>?_,fun hk=>?_⟩
     ·have a6:=hF6 u _ (by simpa using Y) S.kdk;have hro:∀b∈nu gs,b∉ [r]:=fun b G z=>S.ndd.r_out S.rd (by rw[<-aw.mp z];exact G);have a8:=S.ndd.move hF6 (by simpa using hnr) hro;refine⟨_,rfl,_,rfl,u,_,rfl,DGet.k (k:=bQ ⟨v.toArray⟩) a6,_,rfl,?_⟩;rw[oU,S.nms];refine du (fun Z=>?_) (fun Z=>?_)
      ·rw[qaa (fun z=>z.2 (qac Z))]at j;exact⟨by decide,j _⟩
      have a0:v∉X.map bO:=fun z=>Z (qad z);rw[qab ⟨hk,a0⟩]at j;obtain⟨dx6,p6,h16⟩:=hR6.obj;refine⟨_,rfl,r,dx6,_,rfl,h16,cN,r,p,cd "::=",ts6,rfl,by decide+kernel,hR6,?_⟩;unfold cU;cases e1:aJ (.sign (cd "::=")) ts6 with
      |none=>rw[e1]at j;exact fun H'=>j H'
      |some ts7=>
       rw[e1]at j;dsimp only at j;intro H7 hR7 hF7;have a5:=hF7 u _ (by simpa using Y) a6;have a2:=a8.move hF7 (by simpa using hnr) hro;have l1:=bT e1;have f1:=S.few;have f2:=S.fed;rw[ae]at f1 f2 hm;have W:Fx [r] H5 H7:=hF6.trans hF7;refine⟨_,rfl,_,rfl,r,p,nd,ts7,gs,ns, [r,nd,u],rfl,hR7,a2,by lia,by simp,by simp,?_,hnp,?_⟩
       ·obtain⟨dx7,p7,h17⟩:=hR7.obj;intro b G;simp only[am,eW,or_false]at G;rcases G with z|z|z
        ·rw[z,h17];simp
        ·rw[z,a2.lst];simp
        ·rw[z,a5];simp
       unfold D5;cases e2:oR ns ts7 with
       |none=>rw[e2]at j;exact fun H'=>j H'
       |some x=>
        rw[e2]at j;dsimp only at j;intro ka gs8 H8 hK8 hR8 a1 b0 a9 hF8;obtain⟨c1,c2⟩:=Cf (by lia) e2;have J:=hF8 u _ (by simp[hkn,Y]) a5;refine⟨_,rfl,_,rfl,u,_,rfl,DPut.k (k:=bQ ⟨v.toArray⟩) J ?_,?_⟩
        ·show(vw R).length < aO;rw[AH,hpl];exact bK (show X.length<=65536 by lia) (by decide)
        rw[Gf ka (by rw[S.nms];exact a0)];have hFk:Fx [u] H8 (dJ H8 u (.dK (vw (R++ [(v,ka)])))):=Fx.set af;have hk8:KsAt KC [r,nd,u] gs8 H8 (R.map dS) (X.map dS):=(S.kin.move (W.mono (by simp)) (fun b G=> .inl G)).move (hF8.mono (by simp)) (fun b G=> .inl G) a9;have hk9:KsAt KC [r,nd,u] gs8 H8 ((R++ [(v,ka)]).map dS) ((X++ [(v,x.1.1.fin)]).map dS):=by rw[ay,ay];exact hk8.snoc hK8
        refine hN m _ _ (cS m) ⟨gs8,x.1.2,X++ [(v,x.1.1.fin)],R++ [(v,ka)],x.2,_,rfl,⟨?_,?_,?_,aU,?_,hk9.move (hFk.mono (by simp)) (fun b G=> .inl G),?_,by lia,?_⟩,by lia,j⟩
        ·refine hR8.keep hFk (by simpa using Y.symm) (fun z=>?_) (fun b G xs e=>?_)
         ·obtain⟨_,_,_,_,_,q2,_⟩:=hR8.ex;rw[aw.mp z,J]at q2;cases q2
         ·rw[aw.mp G,J]at e;cases e
        ·exact a1.move hFk (by simpa using hkn.symm) (fun b G z=>a1.d_out J (by rw[<-aw.mp z];exact G))
        ·intro b G;rcases b0 b G with z|z
         ·exact S.nw b z
         ·cases e:H b with
          |none=>rfl
          |some o=>
           have hbr:b≠r:=fun y=>by
            have:=B b o e;rw[y,hr0]at this;cases this
           rw[W b o (by simpa using hbr) (S.old b o e)]at z;cases z
        ·rw[ay,ay,S.nms];rfl
        ·intro b o e;have hbr:b≠r:=fun z=>by
          have:=B b o e;rw[z,hr0]at this;cases this
         have hbn:b≠nd:=fun z=>by
          have:=O b o (B b o e);rw[z,U]at this;cases this
         have hbk:b≠u:=fun z=>by
          have:=k23 b o (O b o (B b o e));rw[z,I]at this;cases this
         refine hFk b o (by simpa using hbk) (hF8 b o (by simp[hbr,hbn]) (W b o (by simpa using hbr) (S.old b o e)))
        ·rw[au,ci];lia
     ·rw[qaa (fun z=>by rw[hk]at z;exact absurd z.1 (by decide))]at j;exact fun H'=>j H'
end
end Th
namespace Sp
open Th
open L2 (v0 upC)
abbrev T(ts:List Tk):List az:=ts.map fk
def Oks(ts:List Tk):Prop:=∀t∈ts,t.ok
theorem Oks.tail{t:Tk}{ts:List Tk}(h:Oks (t::ts)):Oks ts:=fun x e=>h x (ak _ e)
theorem Oks.head{t:Tk}{ts:List Tk}(h:Oks (t::ts)):t.ok:=h t af
theorem iH{l:List Nat}(h:∀c∈l,c < 128): (un l).map aL=l:=by
 unfold un;rw[bV];conv=>rhs;rw[<-m8 l]
 refine bI fun c e=>?_;have:=h c e;show(bW c).toNat=c;rw[eZ]
 lia
theorem la{l m:List Nat}(h:∀c∈l,c < 128)(h':∀c∈m,c < 128)(e:un l=un m):l=m:=by rw[<-iH h,<-iH h',e]
theorem Gh{t:Tk}{b:List UInt8}(h:t.ok)(e:fk t= .sign b):t= .sign (b.map aL):=by
 cases t with
 |sign l=>injection e with e;rw[<-e,iH h]
 |word l=>cases e
 |num z=>cases e
 |bits l=>cases e
 |octs l=>cases e
theorem Gi{t:Tk}{b:List UInt8}(h:t.ok)(e:fk t= .word b):t= .word (b.map aL):=by
 cases t with
 |word l=>injection e with e;rw[<-e,iH h.2.1]
 |sign l=>cases e
 |num z=>cases e
 |bits l=>cases e
 |octs l=>cases e
theorem IV{t:Tk}{z:Int}(e:fk t= .num z):t= .num z:=by
 cases t with
 |num z=>injection e with e;rw[e]
 |sign l=>cases e
 |word z=>cases e
 |bits l=>cases e
 |octs l=>cases e
theorem d6{ts:List Tk}{b:List UInt8}{s:List az}(h:Oks ts)(e:T ts= .sign b::s):∃r,ts= .sign (b.map aL)::r/\T r=s:=by
 cases ts with
 |nil=>cases e
 |cons t r=>injection e with e1 e2;exact⟨r,by rw[Gh h.head e1],e2⟩
theorem wz{ts:List Tk}{b:List UInt8}{s:List az}(h:Oks ts)(e:T ts= .word b::s):∃r,ts= .word (b.map aL)::r/\T r=s:=by
 cases ts with
 |nil=>cases e
 |cons t r=>injection e with e1 e2;exact⟨r,by rw[Gi h.head e1],e2⟩
theorem K5{ts:List Tk}{z:Int}{s:List az}(e:T ts= .num z::s):∃r,ts= .num z::r/\T r=s:=by
 cases ts with
 |nil=>cases e
 |cons t r=>injection e with e1 e2;exact⟨r,by rw[IV e1],e2⟩
theorem bL{t:Tk}{ts r:List Tk}(h:aJ t ts=some r):ts=t::r:=by
 cases ts with
 |nil=>cases h
 |cons u q=>
  rw[jf]at h;split at h
  ·rename_i e;cases h;rw[e]
  ·cases h
theorem bG(t:Tk)(r:List Tk):aJ t (t::r)=some r:=by rw[jf,qab rfl]
theorem cM{t u:Tk}{r:List Tk}(h:u≠t):aJ t (u::r)=none:=by rw[jf,qaa h]
theorem lg{w:List Nat}(h: (Tk.word w).ok):lC (un w)=cW w:=by
 cases w with
 |nil=>rfl
 |cons c r=>
  have g:c < 128:=h.2.1 c af;have e: (bW c).toNat=c:=by rw[eZ];lia
  show lI (bW c)=v0 c;unfold lI v0;rw[e,E1]
theorem AI{w:List Nat}(h: (Tk.word w).ok):ng (un w)=p9 w:=by
 cases w with
 |nil=>rfl
 |cons c r=>
  have g:c < 128:=h.2.1 c af;have e: (bW c).toNat=c:=by rw[eZ];lia
  show qy (bW c)=upC c;unfold qy upC;rw[e,E1]
theorem qd(s:String):bi s=un (cd s):=by unfold bi un cd;rw[bV];rfl
theorem eJ{w:List Nat}(h: (Tk.word w).ok){s:String}(g:∀c∈cd s,c < 128):un w=bi s↔w=cd s:=by
 rw[qd];exact⟨fun e=>la h.2.1 g e,fun e=>by rw[e]⟩
theorem mw{w:List Nat}(h: (Tk.word w).ok):∀ {ws:List String},(∀s∈ws,∀c∈cd s,c < 128)->(ws.map bi).contains (un w)=decide (w∈ws.map fun s=>cd s)
 | [],_=>rfl
 |s::r,hs=>by
  have e:=eJ h (hs s af);have g:=mw h (ws:=r) fun x j=>hs x (ak _ j);rw[bg,pf,g,bg];by_cases q:w=cd s
  ·have: (un w == bi s)=true:=by rw[beq_iff_eq];exact e.mpr q
   rw[this,qx,qad (by rw[q];exact af)]
  ·have: (un w == bi s)=false:=qae.mpr fun z=>q (e.mp z);rw[this,kr];have:w∈cd s::r.map (fun s=>cd s)↔w∈r.map fun s=>cd s:=by rw[am];exact⟨fun z=>z.resolve_left q, .inr⟩
   simp only[this]
theorem vx{ns:List (List Nat)}{ts:List Tk}{x: (Kr×List (List Nat))×List Tk}(h:gC ns ts=some x):x.2.length+1<=ts.length:=by
 unfold gC at h;split at h
 ·rename_i w r;have g:∀ {o:Option (Kr×List Tk)},(∀y,o=some y->y.2.length<=r.length)->gB ns o=some x->x.2.length<=r.length:=by
   intro o j e;cases o with
   |none=>cases e
   |some y=>have:=j y rfl;cases e;exact this
  have go:x.2.length<=r.length:=by
   unfold sV at h;split at h
   ·cases h;exact aC _
   split at h
   ·cases h;exact aC _
   split at h
   ·exact g (fun y e=>(iG e).1) h
   split at h
   ·exact g (fun y e=>(vu e).1) h
   split at h
   ·exact g (fun y e=>(gp e).1) h
   split at h
   ·exact g (fun y e=>(gp e).1) h
   split at h
   ·refine g (fun y e=>?_) h;unfold uv at e;split at e
    ·exact(n0 e).1
    ·rename_i q p;have u:=bT p;have:=(vv e).1
     lia
   split at h
   ·exact g (fun y e=>(qL e).1) h
   split at h
   ·cases h;exact aC _
   ·cases h
  rw[ae];lia
 ·cases h
theorem oV:∀(n:Nat) (ns:List (List Nat)) (stk:List Kr) (k:Kr) (ts:List Tk),2*ts.length+stk.length < n->mRunF n ns stk k ts=mRunF (2*ts.length+stk.length+1) ns stk k ts:=by
 intro n;induction n using fj with
 |ind n ih=>
  intro ns stk k ts h;match n with
  |0=>lia
  |n+1=>
   rw[gi,gi];split
   ·cases e:gC ns ts with
    |none=>rfl
    |some x=>
     have g:=vx e;dsimp only;rw[ih n (by lia) _ _ _ _ (by rw[ae];lia)];rw[ih (2*ts.length+stk.length) (by lia) _ _ _ _ (by rw[ae];lia)]
   ·cases stk with
    |nil=>rfl
    |cons o st=>
     dsimp only;cases e:f7 o k.fin ts with
     |none=>rfl
     |some y=>
      have g:=tm e;dsimp only;rw[ae]at h ⊢;rw[ih n (by lia) _ _ _ _ (by lia)];rw[ih (2*ts.length+ (st.length+1)) (by lia) _ _ _ _ (by lia)]
def gu(ns:List (List Nat))(stk:List Kr)(k:Kr)(ts:List Tk):Option ((Kr×List (List Nat))×List Tk):=mRunF (2*ts.length+stk.length+1) ns stk k ts
def w6(ns:List (List Nat))(stk:List Kr)(ts:List Tk):Option ((Kr×List (List Nat))×List Tk):=match gC ns ts with
 |none=>none
 |some x=>gu x.1.2 stk x.1.1 x.2
theorem mT{ns:List (List Nat)}{stk:List Kr}{k:Kr}{ts:List Tk}(h:k.waits=true):gu ns stk k ts=w6 ns (k::stk) ts:=by
 unfold gu w6;rw[gi,qab h];cases e:gC ns ts with
 |none=>rfl
 |some x=>
  have g:=vx e;dsimp only;rw[oV _ _ _ _ _ (by rw[ae];lia)];rfl
theorem D8{ns:List (List Nat)}{k:Kr}{ts:List Tk}(h:k.waits=false):gu ns [] k ts=some ((k,ns),ts):=by
 unfold gu;rw[gi,qaa (by rw[h];decide)]
theorem qe{ns:List (List Nat)}{o:Kr}{st:List Kr}{k:Kr}{ts:List Tk}(h:k.waits=false):gu ns (o::st) k ts=match f7 o k.fin ts with
  |none=>none
  |some y=>gu ns st y.1.2 y.2:=by
 unfold gu;rw[gi,qaa (by rw[h];decide)];dsimp only;cases e:f7 o k.fin ts with
 |none=>rfl
 |some y=>
  have g:=tm e;dsimp only;rw[oV _ _ _ _ _ (by rw[ae];lia)]
theorem D9(ns:List (List Nat))(ts:List Tk):oR ns ts=w6 ns [] ts:=by
 unfold oR w6 gu;rfl
open Wr (xb lR uH)
inductive yg(r:List Tk):Prop
 |one (z:Int) (q:List Tk) (e:r= .num z:: .sign [41]::q)
 |two (a b:Tk) (q:List Tk) (e:r=a:: .sign [46,46]::b:: .sign [41]::q)
theorem vy{r:List Tk}(h:Oks r)(x:¬yg r):dU (.sign [40]::T r)=none:=by
 have v:=Wr.E5 (.sign [40]::T r);generalize dU (.sign [40]::T r)=o at v ⊢;cases v with
 |one a q e=>
  exfalso;injection e with _ e
  obtain⟨B,y,D⟩:=K5 (ts:=r) e;rw[y]at h;obtain⟨j,g,p⟩:=d6 (Oks.tail h) D;exact x (.one a j (by rw[y,g];rfl))
 |two a b q e=>
  exfalso;injection e with _ e
  cases r with
  |nil=>cases e
  |cons t B=>
   injection e with e0 e
   obtain⟨j,g,p⟩:=d6 h.tail e;cases j with
   |nil=>cases p
   |cons u r3=>
    injection p with e5 e6
    rw[g]at h;obtain⟨z,C,E⟩:=d6 h.tail.tail.tail e6;exact x (.two t u z (by rw[g,C];rfl))
 |no=>rfl
 |nob hz=>exact absurd rfl (hz _)
theorem tD(z:Int)(q:List Tk):dU (.sign [40]::T (.num z:: .sign [41]::q))=if -dC<=z/\z < dC then some ((some z,some z),T q)else none:=rfl
theorem tE(a b:Tk)(q:List Tk):dU (.sign [40]::T (a:: .sign [46,46]::b:: .sign [41]::q))=uH (xb (fk a)) (lR (fk b)) (T q):=by
 cases a<;>rfl
theorem K6:iO "MAX"= .word (un (cd "MAX")):=by unfold iO;rw[qd]
theorem K7:iO "MIN"= .word (un (cd "MIN")):=by unfold iO;rw[qd]
theorem tF{w:List Nat}(h: (Tk.word w).ok):lR (fk (.word w))=if w=cd "MAX" then some none else none:=by
 show(if(fT (un w))=iO "MAX" then some none else none)=_;rw[K6];by_cases e:w=cd "MAX"
 ·rw[qab e,qab (by rw[e])]
 ·rw[qaa e,qaa (fun z=>e (la h.2.1 (by decide) (by injection z)))]
theorem vz{w:List Nat}(h: (Tk.word w).ok):xb (fk (.word w))=if w=cd "MIN" then some none else none:=by
 show(if(fT (un w))=iO "MIN" then some none else none)=_;rw[K7];by_cases e:w=cd "MIN"
 ·rw[qab e,qab (by rw[e])]
 ·rw[qaa e,qaa (fun z=>e (la h.2.1 (by decide) (by injection z)))]
theorem gW{t:Tk}(g:∀z,t≠ .num z)(e:∀w,t≠ .word w):lR (fk t)=none:=by
 cases t with
 |num z=>exact absurd rfl (g z)
 |word w=>exact absurd rfl (e w)
 |bits l=>exact qaa (t:=some none) (show ¬fk (.bits l)=iO "MAX" from fun z=>by cases z)
 |octs l=>exact qaa (t:=some none) (show ¬fk (.octs l)=iO "MAX" from fun z=>by cases z)
 |sign l=>exact qaa (t:=some none) (show ¬fk (.sign l)=iO "MAX" from fun z=>by cases z)
theorem iU{t:Tk}(g:∀z,t≠ .num z)(e:∀w,t≠ .word w):xb (fk t)=none:=by
 cases t with
 |num z=>exact absurd rfl (g z)
 |word w=>exact absurd rfl (e w)
 |bits l=>exact qaa (t:=some none) (show ¬fk (.bits l)=iO "MIN" from fun z=>by cases z)
 |octs l=>exact qaa (t:=some none) (show ¬fk (.octs l)=iO "MIN" from fun z=>by cases z)
 |sign l=>exact qaa (t:=some none) (show ¬fk (.sign l)=iO "MIN" from fun z=>by cases z)
def fF(r:List Tk):Option ((Int×Option Int)×List Tk):=match cG 0 65535 r with
 |none=>none
 |some (z,r4)=>match fM (some z) 0 65535 r4 with
  |none=>none
  |some (h,r5)=>match aJ (.sign (cd ")")) r5 with
   |none=>none
   |some r6=>some ((z,h),r6)
theorem zO{r:List Tk}(q:¬yg r):fF r=none:=by
 unfold fF;cases j:cG 0 65535 r with
 |none=>rfl
 |some x=>
  obtain⟨z,D⟩:=x;have p:r= .num z::D:=by
   unfold cG at j;split at j
   ·split at j
    ·cases j
    ·cases j;rfl
   ·cases j
  dsimp only;cases e:fM (some z) 0 65535 D with
  |none=>rfl
  |some y=>
   obtain⟨h,G⟩:=y;dsimp only;cases J:aJ (.sign (cd ")")) G with
   |none=>rfl
   |some r6=>
    exfalso;have v:=bL J;unfold fM at e;split at e
    ·cases e;exact q (.one z r6 (by rw[p,v];rfl))
    ·rename_i F I;have E:=bL I;split at e
     ·rename_i C g;have u:=bL g;cases e;exact q (.two (.num z) (.word (cd "MAX")) r6 (by rw[p,E,u,v];rfl))
     ·split at e
      ·cases e
      ·rename_i B C g;have u:F= .num B::C:=by
        unfold cG at g;split at g
        ·split at g
         ·cases g
         ·cases g;rfl
        ·cases g
       split at e
       ·cases e
       ·cases e;exact q (.two (.num z) (.num B) r6 (by rw[p,E,u,v];rfl))
def K8(x: (Option Int×Option Int)×List az):Option ((Int×Option Int)×List az):=match x with
 | ((some a,b),q)=>if 0<=a/\a<=dG/\(b.all fun x=>decide (x<=dG))=true then some ((a,b),q)else none
 |_=>none
theorem iV:dC=9223372036854775808:=by decide
theorem gD:dG=65535:=rfl
theorem Cg{r:List Tk}(h:Oks r): (dU (.sign [40]::T r)).bind K8= (fF r).map fun x=>(x.1,T x.2):=by
 by_cases p:yg r
 ·cases p with
  |one z q e=>
   subst e;rw[tD,iV];unfold fF;have B:cG 0 65535 (.num z:: .sign [41]::q)=if z < 0\/65535 < z then none else some (z, .sign [41]::q):=rfl
   rw[B];by_cases g:z < 0\/65535 < z
   ·rw[qab g];dsimp only;split
    ·show(if _ then _ else _)=_;rw[qaa (fun q=>by rw[gD]at q;lia)];rfl
    ·rfl
   ·rw[qaa g];dsimp only;have O:fM (some z) 0 65535 (.sign [41]::q)=some (some z, .sign [41]::q):=by
     unfold fM;rw[cM (by intro z;injection z with z;revert z;decide)]
    rw[O];dsimp only;rw[show aJ (.sign (cd ")")) (.sign [41]::q)=some q from bG _ _];rw[qab ⟨by lia,by lia⟩];show(if _ then _ else _)=_;rw[qab ⟨by lia,by rw[gD];lia,by show decide (z<=dG)=true;rw[gD];exact qad (by lia)⟩];rfl
  |two a b q e=>
   subst e;rw[tE];unfold fF;cases a with
   |num z=>
    have B:cG 0 65535 (.num z:: .sign [46,46]::b:: .sign [41]::q)=if z < 0\/65535 < z then none else some (z, .sign [46,46]::b:: .sign [41]::q):=rfl
    rw[B];have I:fM (some z) 0 65535 (.sign [46,46]::b:: .sign [41]::q)=match aJ (.word (cd "MAX")) (b:: .sign [41]::q)with
     |some r2=>some (none,r2)
     |none=>match cG 0 65535 (b:: .sign [41]::q)with
      |none=>none
      |some (h,r2)=>if((some z).any fun a=>decide (h < a))=true then none else some (some h,r2):=by
     unfold fM;rw[show aJ (.sign (cd "..")) (.sign [46,46]::b:: .sign [41]::q)=some (b:: .sign [41]::q)from bG _ _]<;>rfl
    have C:aJ (.sign (cd ")")) (.sign [41]::q)=some q:=bG _ _;have G:xb (fk (.num z))=if -9223372036854775808<=z/\z < 9223372036854775808 then some (some z)else none:=by rw[<-iV];rfl
    rw[G];by_cases g:z < 0\/65535 < z
    ·rw[qab g];dsimp only;show _=none;split
     ·cases J:lR (fk b)with
      |none=>rfl
      |some y=>
       cases y with
       |none=>
        show K8 ((some z,none),T q)=none;show(if _ then _ else _)=_;rw[qaa (fun q=>by rw[gD]at q;lia)]
       |some v=>
        show(if z<=v then some ((some z,some v),T q)else none).bind K8=none;split
        ·show(if _ then _ else _)=_;rw[qaa (fun q=>by rw[gD]at q;lia)]
        ·rfl
     ·rfl
    ·rw[qaa g,qab ⟨by lia,by lia⟩];dsimp only;rw[I];cases b with
     |num h2=>
      rw[cM (by intro z;cases z)];have M:cG 0 65535 (.num h2:: .sign [41]::q)=if h2 < 0\/65535 < h2 then none else some (h2, .sign [41]::q):=rfl
      rw[M];have u:lR (fk (.num h2))=if -9223372036854775808<=h2/\h2 < 9223372036854775808 then some (some h2)else none:=by rw[<-iV];rfl
      rw[u];dsimp only;by_cases E:h2 < 0\/65535 < h2
      ·rw[qab E];dsimp only;show _=none;split
       ·show(if z<=h2 then some ((some z,some h2),T q)else none).bind K8=none;split
        ·show(if _ then _ else _)=_;rw[qaa (fun y=>?_)];have F:=qac (show decide (h2<=dG)=true from y.2.2);rw[gD]at F
         lia
        ·rfl
       ·rfl
      ·rw[qaa E,qab ⟨by lia,by lia⟩];dsimp only;show(if z<=h2 then some ((some z,some h2),T q)else none).bind K8=_;by_cases D:z<=h2
       ·rw[qab D,qaa (show ¬((some z).any fun a=>decide (h2 < a))=true from fun y=>by
         have:=qac (show decide (h2 < z)=true from y);lia)]
        dsimp only;rw[C];show(if _ then _ else _)=_;rw[qab ⟨by lia,by rw[gD];lia,by show decide (h2<=dG)=true;rw[gD];exact qad (by lia)⟩];rfl
       ·rw[qaa D,qab (show((some z).any fun a=>decide (h2 < a))=true from by show decide (h2 < z)=true;exact qad (by lia))];rfl
     |word w=>
      have j: (Tk.word w).ok:=h.tail.tail.head;rw[tF j];by_cases e:w=cd "MAX"
      ·rw[qab e,e,bG];dsimp only;rw[C];show(if _ then _ else _)=_;rw[qab ⟨by lia,by rw[gD];lia,rfl⟩];rfl
      ·rw[qaa e,cM (fun z=>e (by injection z))];rfl
     |bits l=>rw[gW (by intro z e;cases e) (by intro z e;cases e),cM (by intro z;cases z)];rfl
     |octs l=>rw[gW (by intro z e;cases e) (by intro z e;cases e),cM (by intro z;cases z)];rfl
     |sign l=>rw[gW (by intro z e;cases e) (by intro z e;cases e),cM (by intro z;cases z)];rfl
   |word w=>
    have j: (Tk.word w).ok:=h.head;rw[vz j];show _=none;split
    ·cases J:lR (fk b)with
     |none=>rfl
     |some y=>cases y<;>rfl
    ·rfl
   |bits l=>rw[iU (by intro z e;cases e) (by intro z e;cases e)];rfl
   |octs l=>rw[iU (by intro z e;cases e) (by intro z e;cases e)];rfl
   |sign l=>rw[iU (by intro z e;cases e) (by intro z e;cases e)];rfl
 ·rw[vy h p,zO p];rfl
end Sp
namespace Sp
open Th
open L2 (v0 upC)
theorem n4(k:Kr)(r:List Tk):fZ k r=match aJ (.sign (cd "(")) r with
 |none=>some (((),k),r)
 |some r1=>match aJ (.word (cd "SIZE")) r1 with
  |none=>none
  |some r2=>match aJ (.sign (cd "(")) r2 with
   |none=>none
   |some r3=>match fF r3 with
    |none=>none
    |some x=>match aJ (.sign (cd ")")) x.2 with
     |none=>none
     |some r7=>some (((), { k with low:=some x.1.1,high:=x.1.2 }),r7):=by
 unfold fZ fF;cases aJ (.sign (cd "(")) r with
 |none=>rfl
 |some r1=>
  dsimp only;cases aJ (.word (cd "SIZE")) r1 with
  |none=>rfl
  |some r2=>
   dsimp only;cases aJ (.sign (cd "(")) r2 with
   |none=>rfl
   |some r3=>
    dsimp only;cases cG 0 65535 r3 with
    |none=>rfl
    |some x=>
     obtain⟨z,g⟩:=x;dsimp only;cases fM (some z) 0 65535 g with
     |none=>rfl
     |some y=>
      obtain⟨h,e⟩:=y;dsimp only;cases aJ (.sign (cd ")")) e with
      |none=>rfl
      |some r6=>rfl
theorem Oks.skip{t:Tk}{ts r:List Tk}(h:Oks ts)(e:aJ t ts=some r):Oks r:=by rw[bL e]at h;exact h.tail
theorem zP{w:List UInt8}{l:List az} :fz (.sign [40]:: .word w::l)=if w≠bi "SIZE" then none else Wr.szR l:=rfl
theorem qN{r:List Tk}{x: (Int×Option Int)×List Tk}(h:Oks r)(e:fF r=some x):Oks x.2:=by
 unfold fF at e;split at e
 ·cases e
 ·rename_i z C p;have v:Oks C:=by
   unfold cG at p;split at p
   ·split at p
    ·cases p
    ·cases p;exact h.tail
   ·cases p
  split at e
  ·cases e
  ·rename_i J B g;have E:Oks B:=by
    unfold fM at g;split at g
    ·cases g;exact v
    ·rename_i y F;have u:=v.skip F;split at g
     ·rename_i q j;cases g;exact u.skip j
     ·split at g
      ·cases g
      ·rename_i I q j;have D:Oks q:=by
        unfold cG at j;split at j
        ·split at j
         ·cases j
         ·cases j;exact u.tail
        ·cases j
       split at g
       ·cases g
       ·cases g;exact D
   split at e
   ·cases e
   ·rename_i y G;cases e;exact E.skip G
theorem yh{r:List Tk}(h:Oks r)(k:Kr)(W:k.low=none)(U:k.high=none):fz (T r)= (fZ k r).map fun x=>(((x.1.2.low.getD 0).toNat,x.1.2.high.map bt),T x.2):=by
 rw[n4];cases r with
 |nil=>
  show some ((0,none), [])=_;rw[B9];show _=some (((k.low.getD 0).toNat,k.high.map bt),_);rw[W,U];rfl
 |cons t r1=>
  by_cases O:t= .sign (cd "(")
  ·subst O;rw[bG];dsimp only;cases r1 with
   |nil=>rfl
   |cons u r2=>
    cases u with
    |word w=>
     have S: (Tk.word w).ok:=h.tail.head;show fz (.sign [40]:: .word (un w)::T r2)=_;rw[zP];by_cases G:w=cd "SIZE"
     ·rw[qaa (fun z=>z ((eJ S (by decide)).mpr G)),G,bG];dsimp only;cases r2 with
      |nil=>rfl
      |cons v r3=>
       by_cases M:v= .sign (cd "(")
       ·subst M;rw[bG];dsimp only;have C:=Cg h.tail.tail.tail;have ho:=fun x=>qN (x:=x) h.tail.tail.tail;show Wr.szR (.sign [40]::T r3)=_;rw[Wr.J9];cases X:dU (.sign [40]::T r3)with
        |none=>
         rw[X]at C;cases D:fF r3 with
         |none=>rfl
         |some x=>rw[D]at C;cases C
        |some y=>
         obtain⟨⟨lo,j⟩,l⟩:=y;rw[X]at C;cases lo with
         |none=>
          cases D:fF r3 with
          |none=>rfl
          |some x=>rw[D]at C;cases C
         |some a=>
          have g: (if 0<=a/\a<=dG/\(j.all fun x=>decide (x<=dG))=true then some ((a,j),l)else none)= (fF r3).map fun x=>(x.1,T x.2):=C;cases D:fF r3 with
          |none=>
           rw[D]at g;have F:¬(0<=a/\a<=dG/\(j.all fun x=>decide (x<=dG))=true):=fun z=>by rw[qab z]at g;cases g
           have v:=Wr.E7 (some ((some a,j),l));generalize Wr.J8 (some ((some a,j),l))=o at v ⊢;cases v with
           |ok _ _ _ e=>cases e;exact qaa F
           |no=>rfl
          |some x=>
           rw[D]at g;have F:0<=a/\a<=dG/\(j.all fun x=>decide (x<=dG))=true:=by
            by_cases z:0<=a/\a<=dG/\(j.all fun x=>decide (x<=dG))=true
            ·exact z
            ·rw[qaa z]at g;cases g
           rw[qab F]at g;have B:=aB g;obtain⟨⟨Y,Z⟩,I⟩:=x;have i1:a=Y:=qaf (fun p=>p.1.1) B;have i2:j=Z:=qaf (fun p=>p.1.2) B;have i3:l=T I:=qaf (fun p=>p.2) B;subst i1 i2 i3;have hx:Oks I:=ho _ D;dsimp only;cases I with
           |nil=>rfl
           |cons s r7=>
            by_cases J:s= .sign (cd ")")
            ·subst J;rw[bG];show(if 0<=a/\a<=dG/\(j.all fun x=>decide (x<=dG))=true then some ((a.toNat,j.map bt),T r7)else none)=_;rw[qab F];rfl
            ·rw[cM J];show Wr.J8 (some ((some a,j),T (s::r7)))=none;have v:=Wr.E7 (some ((some a,j),T (s::r7)));generalize Wr.J8 (some ((some a,j),T (s::r7)))=o at v ⊢;cases v with
             |ok _ _ _ e=>
              obtain⟨R,E,Q⟩:=d6 hx (qaf dS (aB e));injection E with q4 q5
              exact absurd (by rw[q4];rfl) J
             |no=>rfl
       ·rw[cM M];exact Wr.Kb fun q e=>by
         obtain⟨R,E,Q⟩:=d6 (ts:=v::r3) h.tail.tail e;injection E with q4 q5
         exact M (by rw[q4];rfl)
     ·rw[qab (fun z=>G ((eJ S (by decide)).mp z)),cM (fun z=>G (by injection z))];rfl
    |num z=>rfl
    |bits l=>rfl
    |octs l=>rfl
    |sign l=>rfl
  ·rw[cM O];show _=some (((k.low.getD 0).toNat,k.high.map bt),_);rw[W,U];have no:∀ {q},T (t::r1)≠ .sign [40]::q:=fun e=>by
    obtain⟨R,E,Q⟩:=d6 h e;injection E with q4 q5
    exact O (by rw[q4];rfl)
   have v:=Wr.E6 (T (t::r1));generalize fz (T (t::r1))=o at v ⊢;cases v with
   |ok _ _ e=>exact absurd e no
   |no _ e=>exact absurd e no
   |nob=>rfl
def fy(o:Kr)(r:List Tk):Option (Kr×List Tk):=fR (r.length+1) o r
theorem gX(o:Kr)(r:List Tk):fy o r=match gK o r with
  |none=>none
  |some x=>if x.1.1=true then fy x.1.2 x.2 else some (x.1.2,x.2):=by
 unfold fy;rw[fR];cases e:gK o r with
 |none=>rfl
 |some x=>
  dsimp only;split
  ·rw[jM _ _ _ (fE e).1]
  ·rfl
def oW(r:List Tk):Prop:=∀v q,r≠ .sign (cd ","):: .word v::q
theorem dQ(o:Kr)(v:List Nat)(q:List Tk):ca o (.word v::q)=if cW v=true/\v∉o.names then some (((), { o with names:=o.names++ [v],roots:=if o.ext=true then o.roots else o.roots+1 }),q)else none:=rfl
theorem yi{o:Kr}{r:List Tk}(h:∀v q,r≠ .word v::q):ca o r=none:=by
 cases r with
 |nil=>rfl
 |cons t q=>
  cases t with
  |word v=>exact absurd rfl (h v q)
  |num z=>rfl
  |bits l=>rfl
  |octs l=>rfl
  |sign l=>rfl
theorem AJ{a b:List Nat}(h:a≠b):Tk.sign a≠Tk.sign b:=fun z=>h (by injection z)
theorem tG(o:Kr)(v:List Nat)(q:List Tk):gK o (.sign (cd ","):: .word v::q)= (ca o (.word v::q)).map fun x=>((true,x.1.2),x.2):=by
 unfold gK;rw[cM (AJ (by decide)),bG];dsimp only;have: (if o.ext=true then none else aJ (.sign (cd "...")) (.word v::q))=none:=by
  split
  ·rfl
  ·exact cM (by intro z;cases z)
 rw[this]
def iy(o:Kr)(r:List Tk):Option ((Bool×Kr)×List Tk):=match aJ (.sign (cd "}")) r with
 |some s=>some ((false,o),s)
 |none=>if o.ext=true then none else match aJ (.sign (cd ",")) r with
  |none=>none
  |some r1=>match aJ (.sign (cd "...")) r1 with
   |none=>none
   |some r2=>match aJ (.sign (cd "}")) r2 with
    |some r3=>some ((false, { o with ext:=true }),r3)
    |none=>match aJ (.sign (cd ",")) r2 with
     |none=>none
     |some r3=>(ca { o with ext:=true } r3).map fun x=>((true,x.1.2),x.2)
theorem dg{o:Kr}{r:List Tk}(h:oW r):gK o r=iy o r:=by
 unfold gK iy;cases x:aJ (.sign (cd "}")) r with
 |some s=>rfl
 |none=>
  dsimp only;cases j:aJ (.sign (cd ",")) r with
  |none=>dsimp only;split<;>rfl
  |some r1=>
   have g:=bL j;have no:∀o:Kr,ca o r1=none:=fun o=>yi fun v q e=>h v q (by rw[g,e]);dsimp only;cases p:o.ext with
   |true=>rw[qab rfl];dsimp only;rw[no];rfl
   |false=>
    rw[qaa (by decide)];cases u:aJ (.sign (cd "...")) r1 with
    |none=>dsimp only;rw[no];rfl
    |some r2=>rfl
def Kr.more(o:Kr)(ns:List (List Nat)):Kr:= { o with names:=o.names++ns,roots:=if o.ext=true then o.roots else o.roots+ns.length }
theorem yj(o:Kr):Kr.more o []=o:=by
 unfold Kr.more;cases o;dsimp only;rw[aG];congr;split<;>rfl
theorem qf(o:Kr)(a b:List (List Nat)):Kr.more (Kr.more o a) b=Kr.more o (a++b):=by
 unfold Kr.more;dsimp only;rw[bD,au];congr 1;split
 ·rfl
 ·lia
theorem qg{k:Nat}{w:List UInt8}{r:List az} :cY (k+1) (.word w::r)=if lC w=false then none else(match r with
   | .sign [44]:: .word v::q=>(cY k (.word v::q)).map fun x=>(w::x.1,x.2)
   |_=>some ([w],r)):=rfl
theorem oX:∀(K:Nat) {o:Kr} {n:List Nat} {r:List Tk},r.length+1 < K->Oks (.word n::r)->cW n=true->o.names.Nodup->
  match cY K (.word (un n)::T r)with
  |none=>fy o r=none
  |some (a,E)=>∃(ns:List (List Nat)) (g:List Tk),a=un n::ns.map un/\E=T g/\g.length<=r.length/\Oks g/\oW g/\(∀v∈ns,(Tk.word v).ok)/\
   ((o.names++ns).Nodup->fy o r=fy (Kr.more o ns) g)/\(¬(o.names++ns).Nodup->fy o r=none)
 |0,o,n,r,h,ho,hn,hd=>by lia
 |K+1,o,n,r,h,ho,hn,hd=>by
  rw[qg,lg ho.head,hn,qaa (by decide)];have u:oW r->∃(ns:List (List Nat)) (g:List Tk), [un n]=un n::ns.map un/\T r=T g/\g.length<=r.length/\Oks g/\oW g/\(∀v∈ns,(Tk.word v).ok)/\
    ((o.names++ns).Nodup->fy o r=fy (Kr.more o ns) g)/\(¬(o.names++ns).Nodup->fy o r=none):=fun C=>
   ⟨[],r,rfl,rfl,aC _,ho.tail,C,by simp,fun _=>by rw[yj],fun z=>absurd (by rw[aG];exact hd) z⟩
  by_cases C:oW r
  ·have e: (match T r with
     | .sign [44]:: .word v::q=>(cY K (.word v::q)).map fun x=>(un n::x.1,x.2)
     |_=>some ([un n],T r))=some ([un n],T r):=by
    split
    ·rename_i v q e;exfalso;obtain⟨r1,Y,e2⟩:=d6 ho.tail e;have X:=ho.tail;rw[Y]at X;obtain⟨Z,e3,e4⟩:=wz X.tail e2;exact C _ Z (by rw[Y,e3];rfl)
    ·rfl
   rw[e];exact u C
  ·obtain⟨v,q,rfl⟩:∃v q,r= .sign (cd ","):: .word v::q:=bz fun z=>C fun v q e=>z ⟨v,q,e⟩;have Q: (Tk.word v).ok:=ho.tail.tail.head;have e: (match T (.sign (cd ","):: .word v::q)with
     | .sign [44]:: .word v::q=>(cY K (.word v::q)).map fun x=>(un n::x.1,x.2)
     |_=>some ([un n],T (.sign (cd ","):: .word v::q)))= (cY K (.word (un v)::T q)).map fun x=>(un n::x.1,x.2):=rfl
   rw[e];have hm:fy o (.sign (cd ","):: .word v::q)=if cW v=true/\v∉o.names then fy (Kr.more o [v]) q else none:=by
    rw[gX,tG,dQ];by_cases z:cW v=true/\v∉o.names
    ·rw[qab z,qab z];rfl
    ·rw[qaa z,qaa z];rfl
   rw[hm];simp only[ae]at h;by_cases B:cW v=true
   ·by_cases j:v∈o.names
    ·rw[qaa (fun z=>z.2 j)];cases D:cY K (.word (un v)::T q)with
     |none=>rfl
     |some x=>
      obtain⟨a,E⟩:=x;have p:=oX K (o:= { form:="",names:= [v] }) (n:=v) (r:=q) (by lia) (ho.tail.tail) B (by simp);rw[D]at p;obtain⟨ns,g,M,J,i3,I,G,F,_⟩:=p;refine⟨v::ns,g,by show un n::a=_;rw[M];rfl,J,by simp;lia,I,G,fun x O=>?_,fun z=>?_,fun _=>rfl⟩
      ·rcases am.mp O with y|y
       ·rw[y];exact Q
       ·exact F x y
      ·exfalso;exact(bJ.mp z).2.2 v j v af rfl
    ·rw[qab ⟨B,j⟩];have S: (Kr.more o [v]).names.Nodup:=by
      show(o.names++ [v]).Nodup;rw[bJ];exact⟨hd,by simp,fun a ha b hb e=>j (by rw[<-aw.mp hb,<-e];exact ha)⟩
     have p:=oX K (o:=Kr.more o [v]) (n:=v) (r:=q) (by lia) (ho.tail.tail) B S;cases D:cY K (.word (un v)::T q)with
     |none=>rw[D]at p;exact p
     |some x=>
      obtain⟨a,E⟩:=x;rw[D]at p;obtain⟨ns,g,M,J,i3,I,G,F,W,U⟩:=p;have en: (Kr.more o [v]).names++ns=o.names++v::ns:=by show(o.names++ [v])++ns=_;rw[bD];rfl
      rw[en]at W U;refine⟨v::ns,g,by show un n::a=_;rw[M];rfl,J,by simp;lia,I,G,fun x O=>?_,fun z=>?_,fun z=>U z⟩
      ·rcases am.mp O with y|y
       ·rw[y];exact Q
       ·exact F x y
      ·rw[W z,qf];rfl
   ·have R:cW v=false:=by simpa using B
    rw[qaa (fun z=>B z.1)];match K,h with
    |0,h=>lia
    |K+1,h=>rw[qg,lg Q,R,qab rfl];rfl
def eP{g e:Type}(A B C:g->List az->Option e)(x:Option (g×List az)):Option e:=match x with
 |some (a, .sign [125]::s)=>A a s
 |some (a, .sign [44]:: .sign [46,46,46]:: .sign [125]::s)=>B a s
 |some (a, .sign [44]:: .sign [46,46,46]:: .sign [44]::s)=>C a s
 |_=>none
def gb{g e:Type}(A:g->List az->Option e)(x:Option (g×List az)):Option e:=match x with
 |some (a, .sign [125]::s)=>A a s
 |_=>none
inductive HI{α β:Type}(A B C:α->List az->Option β)(x:Option (α×List az)):Option β->Prop
 |fin (a s):x=some (a, .sign [125]::s)->HI A B C x (A a s)
 |dots (a s):x=some (a, .sign [44]:: .sign [46,46,46]:: .sign [125]::s)->HI A B C x (B a s)
 |more (a s):x=some (a, .sign [44]:: .sign [46,46,46]:: .sign [44]::s)->HI A B C x (C a s)
 |no:HI A B C x none
def IW{e g:Type}(A B C:e->List az->Option g)(x:Option (e×List az)):Prop:=HI A B C x (eP A B C x)
inductive JS{α β:Type}(A:α->List az->Option β)(x:Option (α×List az)):Option β->Prop
 |fin (a s):x=some (a, .sign [125]::s)->JS A x (A a s)
 |no:JS A x none
def SeP{e g:Type}(A:e->List az->Option g)(x:Option (e×List az)):Prop:=JS A x (gb A x)
section
variable {α β:Type}{A B C:α->List az->Option β}{a:α}{c:UInt8}{b:List UInt8}{l:List az}
theorem fN{x:Option (α×List az)}(e:eP A B C x=none):IW A B C x:=Eq.substr (p:=HI A B C x) e .no
theorem vA{x:Option (α×List az)}(e:gb A x=none):SeP A x:=Eq.substr (p:=JS A x) e .no
set_option smartUnfolding false in
theorem sc_1(h:c≠125)(h':c≠44):IW A B C (some (a, .sign (c::b)::l)):=fN ((qah h).trans (qah h'))
set_option smartUnfolding false in
theorem sc_2(h:c≠46):IW A B C (some (a, .sign [44]:: .sign (c::b)::l)):=fN (qah h)
set_option smartUnfolding false in
theorem sc_3(h:c≠46):IW A B C (some (a, .sign [44]:: .sign (46::c::b)::l)):=fN (qah h)
set_option smartUnfolding false in
theorem sc_4(h:c≠46):IW A B C (some (a, .sign [44]:: .sign (46::46::c::b)::l)):=fN (qah h)
set_option smartUnfolding false in
theorem sc_5(h:c≠125)(h':c≠44):IW A B C (some (a, .sign [44]:: .sign [46,46,46]:: .sign (c::b)::l)):=fN ((qah h).trans (qah h'))
set_option smartUnfolding false in
theorem se_1(h:c≠125):SeP A (some (a, .sign (c::b)::l)):=vA (qah h)
theorem AK(x:Option (α×List az)):SeP A x:=by
 cases x with
 |none=>exact vA rfl
 |some x=>
 cases x with
 |mk a l=>
 cases l with
 |nil=>exact vA rfl
 |cons t l=>
 cases t with
 |sign b=>
  cases b with
  |nil=>exact vA rfl
  |cons c b=>
  by_cases h:c=125
  ·subst h;cases b with
   |nil=>exact .fin a l rfl
   |cons=>exact vA rfl
  exact se_1 h
 |_=>exact vA rfl
theorem AL(x:Option (α×List az)):IW A B C x:=by
 cases x with
 |none=>exact fN rfl
 |some x=>
 cases x with
 |mk a l=>
 cases l with
 |nil=>exact fN rfl
 |cons t l=>
 cases t with
 |sign b=>
  cases b with
  |nil=>exact fN rfl
  |cons c b=>
  by_cases h:c=125
  ·subst h;cases b with
   |nil=>exact .fin a l rfl
   |cons=>exact fN rfl
  by_cases h':c=44
  ·subst h';cases b with
   |cons=>exact fN rfl
   |nil=>
   cases l with
   |nil=>exact fN rfl
   |cons t l=>
   cases t with
   |sign b=>
    cases b with
    |nil=>exact fN rfl
    |cons c b=>
    by_cases h:c=46
    ·subst h;cases b with
     |nil=>exact fN rfl
     |cons c b=>
     by_cases h:c=46
     ·subst h;cases b with
      |nil=>exact fN rfl
      |cons c b=>
      by_cases h:c=46
      ·subst h;cases b with
       |cons=>exact fN rfl
       |nil=>
       cases l with
       |nil=>exact fN rfl
       |cons t l=>
       cases t with
       |sign b=>
        cases b with
        |nil=>exact fN rfl
        |cons c b=>
        by_cases h:c=125
        ·subst h;cases b with
         |nil=>exact .dots a l rfl
         |cons=>exact fN rfl
        by_cases h':c=44
        ·subst h';cases b with
         |nil=>exact .more a l rfl
         |cons=>exact fN rfl
        exact sc_5 h h'
       |_=>exact fN rfl
      exact sc_4 h
     exact sc_3 h
    exact sc_2 h
   |_=>exact fN rfl
  exact sc_1 h h'
 |_=>exact fN rfl
end
inductive Gj(r:List Tk):Prop
 |fin (s:List Tk) (e:r= .sign (cd "}")::s)
 |dots (s:List Tk) (e:r= .sign (cd ","):: .sign (cd "..."):: .sign (cd "}")::s)
 |more (s:List Tk) (e:r= .sign (cd ","):: .sign (cd "..."):: .sign (cd ",")::s)
section
variable {α β:Type}{A B C:α->List az->Option β}{a:α}(s:List Tk)
theorem Ea:eP A B C (some (a,T (.sign (cd "}")::s)))=A a (T s):=rfl
theorem AM:eP A B C (some (a,T (.sign (cd ","):: .sign (cd "..."):: .sign (cd "}")::s)))=B a (T s):=rfl
theorem AN:eP A B C (some (a,T (.sign (cd ","):: .sign (cd "..."):: .sign (cd ",")::s)))=C a (T s):=rfl
theorem wA:gb A (some (a,T (.sign (cd "}")::s)))=A a (T s):=rfl
end
theorem Eb{D E:Type}{A B C:D->List az->Option E}{a:D}{r:List Tk}(h:Oks r)(x:¬Gj r):eP A B C (some (a,T r))=none:=by
 have v:HI A B C (some (a,T r)) (eP A B C (some (a,T r))):=AL _;generalize eP A B C (some (a,T r))=o at v ⊢;cases v with
 |no=>rfl
 |fin _ s e=>
  obtain⟨u,g,p⟩:=d6 h (qaf dS (aB e));exact absurd (.fin u (by rw[g];rfl)) x
 |dots _ s e=>
  obtain⟨u,g,p⟩:=d6 h (qaf dS (aB e));rw[g]at h;obtain⟨F,j,z⟩:=d6 h.tail p;rw[j]at h;obtain⟨q,y,G⟩:=d6 h.tail.tail z;exact absurd (.dots q (by rw[g,j,y];rfl)) x
 |more _ s e=>
  obtain⟨u,g,p⟩:=d6 h (qaf dS (aB e));rw[g]at h;obtain⟨F,j,z⟩:=d6 h.tail p;rw[j]at h;obtain⟨q,y,G⟩:=d6 h.tail.tail z;exact absurd (.more q (by rw[g,j,y];rfl)) x
theorem wB{g j:Type}{A:g->List az->Option j}{a:g}{r:List Tk}(h:Oks r)(q:∀s,r≠ .sign (cd "}")::s):gb A (some (a,T r))=none:=by
 have v:JS A (some (a,T r)) (gb A (some (a,T r))):=AK _;generalize gb A (some (a,T r))=o at v ⊢;cases v with
 |no=>rfl
 |fin _ s e=>
  obtain⟨p,u,x⟩:=d6 h (qaf dS (aB e));exact absurd (by rw[u];rfl) (q p)
theorem wC(o:Kr)(s:List Tk):iy o (.sign (cd "}")::s)=some ((false,o),s):=by
 unfold iy;rw[bG]
theorem AO(o:Kr)(s:List Tk)(h:o.ext=false):iy o (.sign (cd ","):: .sign (cd "..."):: .sign (cd "}")::s)=some ((false, { o with ext:=true }),s):=by
 unfold iy;rw[cM (AJ (by decide)),bG,h];dsimp only;rw[qaa (by decide),bG];dsimp only;rw[bG]
theorem rD(o:Kr)(s:List Tk)(h:o.ext=false):iy o (.sign (cd ","):: .sign (cd "..."):: .sign (cd ",")::s)= (ca { o with ext:=true } s).map fun x=>((true,x.1.2),x.2):=by
 unfold iy;rw[cM (AJ (by decide)),bG,h];dsimp only;rw[qaa (by decide),bG];dsimp only;rw[cM (AJ (by decide)),bG]
theorem Ec{o:Kr}{r:List Tk}(h:o.ext=true)(g:∀s,r≠ .sign (cd "}")::s):iy o r=none:=by
 unfold iy;cases e:aJ (.sign (cd "}")) r with
 |some s=>exact absurd (bL e) (g s)
 |none=>dsimp only;rw[qab h]
theorem Ed{o:Kr}{r:List Tk}(g:¬Gj r):iy o r=none:=by
 unfold iy;cases e:aJ (.sign (cd "}")) r with
 |some s=>exact absurd (.fin s (bL e)) g
 |none=>
  dsimp only;split
  ·rfl
  ·cases j:aJ (.sign (cd ",")) r with
   |none=>rfl
   |some r1=>
    dsimp only;cases h:aJ (.sign (cd "...")) r1 with
    |none=>rfl
    |some r2=>
     dsimp only;cases q:aJ (.sign (cd "}")) r2 with
     |some r3=>exact absurd (.dots r3 (by rw[bL j,bL h,bL q])) g
     |none=>
      dsimp only;cases p:aJ (.sign (cd ",")) r2 with
      |none=>rfl
      |some r3=>exact absurd (.more r3 (by rw[bL j,bL h,bL p])) g
def Sz(e g:Option Int):Prop:=(∀a,e=some a->0<=a)/\∀b,g=some b->0<=b
theorem qO{e g:Int}{ts:List Tk}{x:Int×List Tk}(h:cG e g ts=some x):e<=x.1:=by
 unfold cG at h;split at h
 ·split at h
  ·cases h
  ·cases h;rename_i z;exact CO.mp fun q=>z (.inl q)
 ·cases h
theorem yk{k:Kr}{r:List Tk}{x: (Unit×Kr)×List Tk}(y:k.low=none)(v:k.high=none)(e:fZ k r=some x):Sz x.1.2.low x.1.2.high:=by
 unfold fZ at e;split at e
 ·cases e;exact⟨fun a z=>(by rw[y]at z;cases z),fun a z=>(by rw[v]at z;cases z)⟩
 ·split at e
  ·cases e
  ·split at e
   ·cases e
   ·split at e
    ·cases e
    ·rename_i z E C;have h:=qO C;split at e
     ·cases e
     ·rename_i u D g;have p:∀b,u=some b->0<=b:=by
       unfold fM at g;split at g
       ·cases g;intro b q;cases q;exact h
       ·split at g
        ·cases g;intro b q;cases q
        ·split at g
         ·cases g
         ·rename_i B;have j:=qO B;split at g
          ·cases g
          ·cases g;intro b q;cases q;exact j
      split at e
      ·cases e
      ·split at e
       ·cases e
       ·cases e;exact⟨fun a q=>(by cases q;exact h),p⟩
mutual
inductive KT:Kd->aS->Prop
 |bool:KT (.mk ⟨(cd "BOOLEAN").toArray⟩ [] none none [] 0 false [] []) .bool
 |null:KT (.mk ⟨(cd "NULL").toArray⟩ [] none none [] 0 false [] []) .null
 |int (lo hi:Option Int):KT (.mk "INTEGER" [] lo hi [] 0 false [] []) (.int lo hi)
 |bits (lo hi:Option Int):Sz lo hi->KT (.mk ⟨(cd "BIT").toArray⟩ [] lo hi [] 0 false [] []) (.bits (lo.getD 0).toNat (hi.map bt))
 |octets (lo hi:Option Int):Sz lo hi->KT (.mk ⟨(cd "OCTET").toArray⟩ [] lo hi [] 0 false [] []) (.octets (lo.getD 0).toNat (hi.map bt))
 |named (w:List Nat): (Tk.word w).ok->KT (.mk "a name" w none none [] 0 false [] []) (.ref (un w))
 |enum (na nb:List (List Nat)) (ext:Bool): (ext=false->nb= [])->(∀n∈na++nb,(Tk.word n).ok)->KT (.mk "ENUMERATED" [] none none (na++nb) na.length ext [] []) (.names (na.map un) (if ext=true then some (nb.map un)else none))
 |many (lo hi:Option Int) (k:Kd) (t:aS):Sz lo hi->KT k t->KT (.mk "SEQUENCE OF" [] lo hi [] 0 false [k] []) (.many (lo.getD 0).toNat (hi.map bt) t)
 |one (na nb:List (List Nat)) (ext:Bool) (pa pb:List Kd) (a b:List (bP×aS)): (ext=false->nb= []/\pb= []/\b= [])->a.map (·.1)=na.map un->b.map (·.1)=nb.map un->KTs pa (a.map (·.2))->KTs pb (b.map (·.2))->(∀n∈na++nb,(Tk.word n).ok)->
   KT (.mk "CHOICE" [] none none (na++nb) na.length ext (pa++pb) []) (.one a (if ext=true then some b else none))
 |row (na nb:List (List Nat)) (ext:Bool) (pa pb:List Kd) (a b:List (bP×Bool×aS)): (ext=false->nb= []/\pb= []/\b= [])->a.map (·.1)=na.map un->b.map (·.1)=nb.map un->KTs pa (a.map (·.2.2))->KTs pb (b.map (·.2.2))->(∀n∈na++nb,(Tk.word n).ok)->
   KT (.mk "SEQUENCE" [] none none (na++nb) na.length ext (pa++pb) ((a++b).map (·.2.1))) (.row a (if ext=true then some b else none))
inductive KTs:List Kd->List aS->Prop
 |nil:KTs [] []
 |cons {k:Kd} {t:aS} {ks:List Kd} {ts:List aS} :KT k t->KTs ks ts->KTs (k::ks) (t::ts)
end
inductive Gd:aS->Prop
 |bool:Gd .bool
 |null:Gd .null
 |int (lo hi:Option Int):Gd (.int lo hi)
 |bits (lo:Nat) (hi:Option Nat):Gd (.bits lo hi)
 |octets (lo:Nat) (hi:Option Nat):Gd (.octets lo hi)
 |named (n:bP):Gd (.ref n)
 |enum (l:List bP) (m:Option (List bP)): (l++m.getD []).Nodup->Gd (.names l m)
 |many (lo:Nat) (hi:Option Nat) (t:aS):Gd t->Gd (.many lo hi t)
 |one (l:List (bP×aS)) (m:Option (List (bP×aS))): ((l++m.getD []).map (·.1)).Nodup->(∀x∈l++m.getD [],Gd x.2)->Gd (.one l m)
 |row (l:List (bP×Bool×aS)) (m:Option (List (bP×Bool×aS))): ((l++m.getD []).map (·.1)).Nodup->(∀x∈l++m.getD [],Gd x.2.2)->Gd (.row l m)
inductive Rf(n:bP):aS->Prop
 |named:Rf n (.ref n)
 |many (lo:Nat) (hi:Option Nat) (t:aS):Rf n t->Rf n (.many lo hi t)
 |one (l:List (bP×aS)) (m:Option (List (bP×aS))) (x:bP×aS):x∈l++m.getD []->Rf n x.2->Rf n (.one l m)
 |row (l:List (bP×Bool×aS)) (m:Option (List (bP×Bool×aS))) (x:bP×Bool×aS):x∈l++m.getD []->Rf n x.2.2->Rf n (.row l m)
theorem oY{e g:Type}{f:e->g} :∀ {l:List e},(l.map f).Nodup->l.Nodup
 | [],_=>by simp
 |a::r,h=>by
  rw[bg,cR]at h;rw[cR];exact⟨fun z=>h.1 (bA.mpr ⟨a,z,rfl⟩),oY h.2⟩
theorem kh{l:List (List Nat)}(h:∀v∈l,(Tk.word v).ok): (l.map un).Nodup↔l.Nodup:=by
 constructor
 ·intro g;exact oY g
 ·intro g;induction l with
  |nil=>simp
  |cons v r ih=>
   rw[cR]at g;rw[bg,cR];refine⟨fun z=>?_,ih (fun x p=>h x (ak _ p)) g.2⟩;obtain⟨w,j,e⟩:=bA.mp z;have:=la (h w (ak _ j)).2.1 (h v af).2.1 e;exact g.1 (by rw[<-this];exact j)
def wD(q:List Tk):Option (Kr×List Tk):=match ca { form:="ENUMERATED" } q with
 |none=>none
 |some x=>fy x.1.2 x.2
def jB{e:Type}(P:List az->Option (List e×List az))(f:List e->Option (List e)->aS)(q:List az):Option (aS×List az):=
 eP (fun a s=>some (f a none,s)) (fun a s=>some (f a (some []),s)) (fun a s=>gb (fun b t=>some (f a (some b),t)) (P s)) (P q)
inductive BrV{α:Type}(P:List az->Option (List α×List az))(f:List α->Option (List α)->aS)(q:List az)(l:List az):aS->Prop
 |fin (a):P q=some (a, .sign [125]::l)->BrV P f q l (f a none)
 |dots (a):P q=some (a, .sign [44]:: .sign [46,46,46]:: .sign [125]::l)->BrV P f q l (f a (some []))
 |more (a s b):P q=some (a, .sign [44]:: .sign [46,46,46]:: .sign [44]::s)->P s=some (b, .sign [125]::l)->BrV P f q l (f a (some b))
theorem wE{g:Type}{P:List az->Option (List g×List az)}{f:List g->Option (List g)->aS}{q:List az}{t:aS}{l:List az}(h:jB P f q=some (t,l)):BrV P f q l t:=by
 have v:HI _ _ _ (P q) (jB P f q):=AL (P q);generalize jB P f q=o at v h;cases v with
 |no=>cases h
 |fin a s e=>cases h;exact .fin a e
 |dots a s e=>cases h;exact .dots a e
 |more a s e=>
  have v:JS (fun b t=>some (f a (some b),t)) (P s) (gb (fun b t=>some (f a (some b),t)) (P s)):=AK _;generalize gb (fun b t=>some (f a (some b),t)) (P s)=o at v h;cases v with
  |no=>cases h
  |fin b s' e'=>cases h;exact .more a s b e e'
abbrev oZ(k:Nat):List az->Option (aS×List az):=jB (cY k) .names
end Sp
namespace Th
open PySem L2 Sp Wr
def K9:HO->Prop
 | .ins _ _ fs=>∃l p,fs=rf l p
 |_=>False
def Ky(H H':Hp):Prop:=∀b o,¬K9 o->H b=some o->H' b=some o
theorem Ky.trans{H H1 g:Hp}(a:Ky H H1)(b:Ky H1 g):Ky H g:=fun x o n e=>b x o n (a x o n e)
theorem Ky.old{H H':Hp}(h:∀b o,H b=some o->H' b=some o):Ky H H':=fun b o _ e=>h b o e
theorem Ky.of{q:aa}{H H':Hp}{r l:aa}{ts:List Tk}(g:RdAt q H r l ts)(h:Fx [r] H H'):Ky H H':=fun b o n e=>h b o (fun z=>by
 obtain⟨dx,p,j⟩:=g.obj;rw[aw.mp z,j]at e;cases e;exact n ⟨l,p,rfl⟩) e
theorem zQ{g dx pl pa op:aa}{form:aQ}{target:List Nat}{low high:Option Int}{roots:Nat}{ext waits:Bool} :¬K9 (.ins g dx (kf form target low high pl roots ext pa op waits)):=fun⟨l,p,e⟩=>by
 have:=qaf cI e;cases this
mutual
theorem KJ.keep{g:aa}{tb:List (List Nat×aa)}{H H':Hp}(e:Ky H H'):∀ {a:aa} {k:Kd},KJ g tb H a k->KJ g tb H' a k
 |_,_, .mk h1 h2 h3 h4 h5 h6=> .mk (e _ _ zQ h1) (e _ _ id h2) (e _ _ id h3) (e _ _ id h4) h5 (KJs.keep e h6)
 |_,_, .nm h1 h2 h3=> .nm (e _ _ zQ h1) (e _ _ id h2) h3
theorem KJs.keep{h:aa}{tb:List (List Nat×aa)}{H H':Hp}(g:Ky H H'):∀ {as:List aa} {e:List Kd},KJs h tb H as e->KJs h tb H' as e
 |_,_, .nil=> .nil
 |_,_, .cons a b=> .cons (KJ.keep g a) (KJs.keep g b)
end
theorem KJs.at{h:aa}{tb:List (List Nat×aa)}{H:Hp} :∀ {as:List aa} {g:List Kd} {i:Nat} {k:Kd},KJs h tb H as g->g[i]? =some k->∃a,as[i]? =some a/\KJ h tb H a k
 |_,_,i,k, .nil,e=>by simp at e
 |_,_,0,k, .cons (a:=a) x y,e=>by
  have j:_=k:=aB e;exact⟨a,rfl,j ▸ x⟩
 |_,_,i+1,k, .cons x y,e=>KJs.at (i:=i) y e
theorem KJs.len{g:aa}{tb:List (List Nat×aa)}{H:Hp} :∀ {as:List aa} {e:List Kd},KJs g tb H as e->as.length=e.length
 |_,_, .nil=>rfl
 |_,_, .cons _ b=>by rw[ae,ae,b.len]
mutual
/-- a value that has been read,apart from M -/
inductive VAt(M:List aa)(H:Hp):V->cA->Prop
 |bool (b:Bool):VAt M H (.bl b) (.bool b)
 |null:VAt M H .non .null
 |int (z:Int): -dC<=z->z < dC->VAt M H (.int z) (.int z)
 |name (w:List Nat): (Tk.word w).ok->VAt M H (sv w) (.name (un w))
 |bits (l:List Nat): (Tk.bits l).ok->VAt M H (sv l) (.bits ((un l).map fun c=>c == 49))
 |octs (l:List Nat): (Tk.octs l).ok->VAt M H (sv l) (.octets ((((un l).mapM cQ).bind dh).getD []))
 |row {a:aa} {as:List aa} {l:List (bP×cA)} :H a=some (.lst (as.map V.ref))->a∉M->RAts M H as l->VAt M H (.ref a) (.row l)
 |many {a:aa} {xs:List V} {l:List cA} :H a=some (.lst xs)->a∉M->VsAt M H xs l->VAt M H (.ref a) (.many l)
 |one {a:aa} {w:List Nat} {x:V} {v:cA} :H a=some (.tup [sv w,x])->a∉M->(Tk.word w).ok->VAt M H x v->VAt M H (.ref a) (.one (un w) v)
inductive RAts(M:List aa)(H:Hp):List aa->List (bP×cA)->Prop
 |nil:RAts M H [] []
 |cons {a:aa} {w:List Nat} {x:V} {v:cA} {as:List aa} {l:List (bP×cA)} :H a=some (.tup [sv w,x])->a∉M->(Tk.word w).ok->VAt M H x v->RAts M H as l->RAts M H (a::as) ((un w,v)::l)
inductive VsAt(M:List aa)(H:Hp):List V->List cA->Prop
 |nil:VsAt M H [] []
 |cons {x:V} {v:cA} {xs:List V} {l:List cA} :VAt M H x v->VsAt M H xs l->VsAt M H (x::xs) (v::l)
end
section
variable {M M':List aa}{H H':Hp}
mutual
theorem VAt.move(g:Fx M H H')(e:∀b,b∈M'->b∈M\/H b=none):∀ {x:V} {v:cA},VAt M H x v->VAt M' H' x v
 |_,_, .bool b=> .bool b
 |_,_, .null=> .null
 |_,_, .int z h1 h2=> .int z h1 h2
 |_,_, .name w h=> .name w h
 |_,_, .bits l h=> .bits l h
 |_,_, .octs l h=> .octs l h
 |_,_, .row h1 h2 h3=> .row (g _ _ h2 h1) (fun z=>(e _ z).elim h2 fun q=>by rw[q]at h1;cases h1) (RAts.move g e h3)
 |_,_, .many h1 h2 h3=> .many (g _ _ h2 h1) (fun z=>(e _ z).elim h2 fun q=>by rw[q]at h1;cases h1) (VsAt.move g e h3)
 |_,_, .one h1 h2 h3 h4=> .one (g _ _ h2 h1) (fun z=>(e _ z).elim h2 fun q=>by rw[q]at h1;cases h1) h3 (VAt.move g e h4)
theorem RAts.move(g:Fx M H H')(e:∀b,b∈M'->b∈M\/H b=none):∀ {as:List aa} {l:List (bP×cA)},RAts M H as l->RAts M' H' as l
 |_,_, .nil=> .nil
 |_,_, .cons h1 h2 h3 h4 h5=> .cons (g _ _ h2 h1) (fun z=>(e _ z).elim h2 fun q=>by rw[q]at h1;cases h1) h3 (VAt.move g e h4) (RAts.move g e h5)
theorem VsAt.move(g:Fx M H H')(e:∀b,b∈M'->b∈M\/H b=none):∀ {xs:List V} {l:List cA},VsAt M H xs l->VsAt M' H' xs l
 |_,_, .nil=> .nil
 |_,_, .cons h1 h2=> .cons (VAt.move g e h1) (VsAt.move g e h2)
end
theorem RAts.snoc{a:aa}{w:List Nat}{x:V}{v:cA}(p:H a=some (.tup [sv w,x]))(j:a∉M)(h: (Tk.word w).ok)(g:VAt M H x v):∀ {as:List aa} {l:List (bP×cA)},RAts M H as l->RAts M H (as++ [a]) (l++ [(un w,v)])
 |_,_, .nil=> .cons p j h g .nil
 |_,_, .cons a b c d e=> .cons a b c d (RAts.snoc p j h g e)
theorem RAts.len:∀ {as:List aa} {l:List (bP×cA)},RAts M H as l->as.length=l.length
 |_,_, .nil=>rfl
 |_,_, .cons _ _ _ _ e=>by rw[ae,ae,e.len]
theorem VsAt.snoc{x:V}{v:cA}(h:VAt M H x v):∀ {xs:List V} {l:List cA},VsAt M H xs l->VsAt M H (xs++ [x]) (l++ [v])
 |_,_, .nil=> .cons h .nil
 |_,_, .cons a b=> .cons a (VsAt.snoc h b)
theorem VsAt.len:∀ {xs:List V} {l:List cA},VsAt M H xs l->xs.length=l.length
 |_,_, .nil=>rfl
 |_,_, .cons _ e=>by rw[ae,ae,e.len]
end
def eQ(g e r l:aa)(M:List aa)(o:Option (cA×List az))(H:Hp)(Q:VK)(E:XK):Prop:=match o with
 |some x=>∀(y:V) (ts:List Tk) (H':Hp),x.2=T ts->VAt M H' y x.1->RdAt g H' r l ts->Fx [r] H H'->Q y H'
 |none=>∀H',E (.ref e) none H'
theorem RdAt.oks{j:aa}{H:Hp}{r l:aa}{ts:List Tk}(h:RdAt j H r l ts):Oks ts:=by
 obtain⟨dx,as,all,p,_,_,_,_,_,g,rfl⟩:=h.ex;exact fun t e=>g t (bM e)
theorem RdAt.few{e:aa}{H:Hp}{r l:aa}{ts:List Tk}(h:RdAt e H r l ts):ts.length<=65536:=by
 obtain⟨dx,as,all,p,_,_,_,_,g,_,rfl⟩:=h.ex;rw[aF];lia
theorem gL{i:Nat}{x y:aQ}{tb u:TS}{D:nH}{σ:St}{H:Hp}(g:σ[i]? =some (some (.str x)))(e:x≠y)(k:u D σ H):xq (Io (Do (JR rEq (lz i) (tC (.str y)))) tb tNext) u D σ H:=
 ⟨_,g,rfl,_,rfl,du (fun h=>absurd (qac h) fun z=>e (by injection z)) (fun _=>k)⟩
theorem fS{i:Nat}{x y:aQ}{tb u:TS}{D:nH}{σ:St}{H:Hp}(e:σ[i]? =some (some (.str x)))(g:x=y)(k:tb { D with nx:=u D } σ H):xq (Io (Do (JR rEq (lz i) (tC (.str y)))) tb tNext) u D σ H:=
 ⟨_,e,rfl,_,rfl,du (fun _=>k) (fun h=>absurd (qad (by rw[g])) h)⟩
structure Txv(mg:aQ->Option ag):Prop where
 depth:ou mg "MOST_DEPTH" (.int 64)
 dob:ou mg "DIGITS_OF_A_BYTE" (.int 2)
theorem Ee(l:List Nat): (Tk.bits l).sort="bits":=rfl
theorem Ef(l:List Nat): (Tk.octs l).sort="octets":=rfl
theorem iI{t:Tk}(h:∀z,t≠ .bits z):¬t.sort="bits":=by
 cases t with
 |bits z=>exact absurd rfl (h z)
 |word z=>show ¬(ai "word"=_);decide+kernel
 |num z=>show ¬(ai "number"=_);decide+kernel
 |octs z=>show ¬(ai "octets"=_);decide+kernel
 |sign z=>show ¬(ai "sign"=_);decide+kernel
theorem iJ{t:Tk}(h:∀z,t≠ .octs z):¬t.sort="octets":=by
 cases t with
 |octs z=>exact absurd rfl (h z)
 |word z=>show ¬(ai "word"=_);decide+kernel
 |num z=>show ¬(ai "number"=_);decide+kernel
 |bits z=>show ¬(ai "bits"=_);decide+kernel
 |sign z=>show ¬(ai "sign"=_);decide+kernel
def KfAt(e:aa)(H:Hp)(a:aa)(form:aQ)(target:List Nat)(low high:Option Int)(pl:aa)(roots:Nat)(ext:Bool)(pa op:aa):Prop:=∃dx,H a=some (.ins e dx (kf form target low high pl roots ext pa op false))
theorem KfAt.keep{g:aa}{H H':Hp}{a:aa}{form:aQ}{target:List Nat}{low high:Option Int}{pl:aa}{roots:Nat}{ext:Bool}{pa op:aa}(h:KfAt g H a form target low high pl roots ext pa op)(j:Ky H H'):KfAt g H' a form target low high pl roots ext pa op:=by
 obtain⟨dx,e⟩:=h;exact⟨dx,j _ _ zQ e⟩
def zR(low high:Option Int)(n:Int):Bool:=(low.any fun a=>decide (n < a)) ||(high.any fun b=>decide (b < n))
section
variable {P:aZ}{w:bB}{K:PySem.W.Frag}{mg:aQ->Option ag}{base:bH}{WT RC KC:aa}
def mx(e:aa):Sp:=fun vs H Q E=>∃d:Nat,vs= [.int (((64 - d:Nat)):Int)]/\d<=64/\(d≠0->Q (.int ((64 - (d - 1):Nat):Int)) H)/\(d=0->∀H',E (.ref e) none H')
theorem Eg:bf ["depth"] ["depth"] (aA wb):=fP
theorem Ch(D:Df K mg "deeper" wb ["depth"])(p:Txt K mg WT)(T:Txv mg):Ok P w K mg base (cE P w) 1 "deeper" ["depth"] (mx WT):=by
 refine D.okX Eg (fun y v A outer s H vs Q E x h=>?_)
 ·obtain⟨d,rfl,hd,r,q⟩:=h;refine⟨_,aj (bN (bo dR (pv 0) (ek T.depth) (bE _)) (aq (cX PySem.F.excBase_ValueError p.exc rfl (by rfl) p.wt (ac aX ao) ft)) bh)
   (aq (bb (fU lX (pv 0) cw))),?_⟩
  refine⟨_,rfl,rfl,_,rfl,?_⟩;refine du (fun j=>?_) (fun j=>?_)
  ·have e:V.int ((64 - d:Nat):Int)=V.int 64:=qac j;injection e with e
   exact⟨by decide,q (by lia) _⟩
  ·have e:¬V.int ((64 - d:Nat):Int)=V.int 64:=fun z=>j (qad z);have g:d≠0:=fun z=>e (by rw[z];rfl);refine⟨_,rfl,_,_,rfl,rfl,?_⟩;have u: ((64 - d:Nat):Int)+1= ((64 - (d - 1):Nat):Int):=by lia
   show Q (V.int (((64 - d:Nat):Int)+1)) H;rw[u];exact r g
def ff(e g:aa):Sp:=fun vs H Q E=>FV fun(a:aa) (n:Int) (form:aQ) (target:List Nat) (low high:Option Int) (pl:aa) (roots:Nat) (ext:Bool) (pa op:aa)=>vs= [.ref a, .int n]/\KfAt g H a form target low high pl roots ext pa op/\
 (zR low high n=false->Q .non H)/\(zR low high n=true->∀H',E (.ref e) none H')
theorem uA:bf ["kind","number"] ["kind","number"] (aA kM):=fP
theorem rg(D:Df K mg "check_bounds" kM ["kind","number"])(u:Txt K mg WT)(g:rA K KC):Ok P w K mg base (cE P w) 1 "check_bounds" ["kind","number"] (ff WT KC):=by
 refine D.okX uA (fun B y A outer s H vs Q E z h=>?_)
 ·obtain⟨a,n,form,target,low,high,pl,roots,ext,pa,op,rfl,⟨dx,p⟩,r,q⟩:=h;refine⟨_,aj (bN (PW.pt (kz (bo vP (cp (pv 0) rfl) lW (bE _)) (ju (bo lu (pv 1) (cp (pv 0) rfl) (bE _))))) (aq (cX PySem.F.excBase_ValueError u.exc rfl (by rfl) u.wt (ac aX ao) ft)) bh)
   (aq (bN (PW.pt (kz (bo vP (cp (pv 0) rfl) lW (bE _)) (ju (bo lY (pv 1) (cp (pv 0) rfl) (bE _))))) (aq (cX PySem.F.excBase_ValueError u.exc rfl (by rfl) u.wt (ac aX ao) ft)) bh)),?_⟩
  unfold zR at r q;refine je fun R v=>?_;have e: (low.any fun a=>decide (n < a))=false->R [some (.ref a),some (.int n)] H:=by
   intro x;rw[x,kr]at r q;rw[v];refine⟨_,rfl,a,KC,dx,_,_,rfl,p,g.cl,g.high,AE,rfl,_,rfl,?_⟩;cases high with
   |none=>exact eC (eC (r rfl))
   |some b=>
    refine d9 ⟨_,rfl,_,rfl,a,KC,dx,_,_,rfl,p,g.cl,g.high,AE,_,_,rfl,rfl,_,rfl,?_⟩;refine du (fun j=>?_) (fun j=>?_)
    ·exact⟨by decide,q j _⟩
    ·exact r (by simpa using j)
  refine⟨_,rfl,a,KC,dx,_,_,rfl,p,g.cl,g.low,wn,rfl,_,rfl,?_⟩;cases low with
  |none=>exact eC (eC (e rfl))
  |some b=>
   refine d9 ⟨_,rfl,_,rfl,a,KC,dx,_,_,rfl,p,g.cl,g.low,wn,_,_,rfl,rfl,_,rfl,?_⟩;refine du (fun j=>?_) (fun j=>?_)
   ·refine⟨by decide,q ?_ _⟩;show(decide (n < b) || _)=true;rw[j];rfl
   ·exact e (by simpa using j)
end
theorem Ci{ts:List Tk}(h:Oks ts):rv [] 1 0 .bool (T ts)=match aJ (.word (cd "TRUE")) ts with
  |some r=>some (.bool true,T r)
  |none=>match aJ (.word (cd "FALSE")) ts with
   |some r=>some (.bool false,T r)
   |none=>none:=by
 rw[mD];cases ts with
 |nil=>rfl
 |cons t r=>
  cases t with
  |word w=>
   show(if un w=bi "TRUE" then _ else if un w=bi "FALSE" then _ else none)=_;by_cases e:w=cd "TRUE"
   ·rw[qab ((eJ h.head (by decide)).mpr e),e,bG]
   ·rw[qaa (fun z=>e ((eJ h.head (by decide)).mp z)),cM (fun z=>e (by injection z))];by_cases g:w=cd "FALSE"
    ·rw[qab ((eJ h.head (by decide)).mpr g),g,bG]
    ·rw[qaa (fun z=>g ((eJ h.head (by decide)).mp z)),cM (fun z=>g (by injection z))]
  |num z=>rfl
  |bits z=>rfl
  |octs z=>rfl
  |sign z=>rfl
theorem Cj{ts:List Tk}(h:Oks ts):rv [] 1 0 .null (T ts)=match aJ (.word (cd "NULL")) ts with
  |some r=>some (.null,T r)
  |none=>none:=by
 rw[mE];cases ts with
 |nil=>rfl
 |cons t r=>
  cases t with
  |word w=>
   show(if un w=bi "NULL" then _ else none)=_;by_cases e:w=cd "NULL"
   ·rw[qab ((eJ h.head (by decide)).mpr e),e,bG]
   ·rw[qaa (fun z=>e ((eJ h.head (by decide)).mp z)),cM (fun z=>e (by injection z))]
  |num z=>rfl
  |bits z=>rfl
  |octs z=>rfl
  |sign z=>rfl
theorem Eh{w:List Nat}{l:List (List Nat)}(h: (Tk.word w).ok)(j:∀n∈l,(Tk.word n).ok):un w∈l.map un↔w∈l:=by
 refine⟨fun z=>?_,fun z=>bA.mpr ⟨w,z,rfl⟩⟩;obtain⟨n,g,e⟩:=bA.mp z;rw[<-la (j n g).2.1 h.2.1 e];exact g
theorem ki{e g:Option Int}(h:Sz e g)(n:Nat):zR e g (n:Int)=false↔pw (e.getD 0).toNat (g.map bt) n:=by
 unfold zR pw;have p: (e.any fun a=>decide ((n:Int) < a))=true↔n < (e.getD 0).toNat:=by
  cases e with
  |none=>simp
  |some a=>have:=h.1 a rfl;simp<;>lia
 have j: (g.any fun b=>decide (b < (n:Int)))=true↔((g.map bt).any fun h=>decide (h < n))=true:=by
  cases g with
  |none=>simp
  |some b=>have:=h.2 b rfl;simp<;>lia
 rw[<-p,<-j,Ab,not_or,lq,lq]
theorem yl{e g:Option Int}{z:Int}(j: -dC<=z)(h:z < dC):zR e g z=false↔CJ e g z:=by
 unfold zR CJ;rw[Ab,not_or,not_or,not_or,lq,lq];exact⟨fun q=>⟨q.1,q.2,by lia,by lia⟩,fun q=>⟨q.1,q.2.1⟩⟩
section
variable {P:aZ}{w:bB}{K:PySem.W.Frag}{mg:aQ->Option ag}{base:bH}{WT RC KC:aa}
def ny(e g:aa):Sp:=fun vs H Q E=>CM fun(r l:aa) (ts:List Tk) (M:List aa)=>vs= [.ref r]/\RdAt e H r l ts/\eQ e g r l M (rv [] 1 0 .bool (T ts)) H Q E
theorem uB:bf ["reader"] ["reader"] (aA kN):=fP
theorem rh(D:Df K mg "read_boolean" kN ["reader"])(G:mO K RC)(R:gy P w K mg base fh 3 RC "skips_word" ["self","word"] (gm RC))(S:gy P w K mg base (cE P w) 4 RC "needs_word" ["self","word"] (gn RC WT)):
  Ok P w K mg base (cE P w) 5 "read_boolean" ["reader"] (ny RC WT):=by
 refine D.okX uB (fun W J A outer s H vs Q E C h=>?_)
 ·obtain⟨r,l,ts,M,rfl,x,g⟩:=h;have u:=C.mono (show 3<=4 by decide);refine⟨_,aj (bN (cB (cT R G.cl u cD (pv 0) (ac aX ao))) (aq (bb ib)) bh)
   (aj (cb (cT S G.cl C aP (pv 0) (ac aX ao))) (aq (bb ib))),?_⟩
  rw[Ci x.oks]at g;obtain⟨dx,p,I⟩:=x.obj;refine⟨_,rfl,r,dx,_,rfl,I,cN,r,l,cd "TRUE",ts,rfl,by decide+kernel,x,?_⟩;unfold c9;cases e:aJ (.word (cd "TRUE")) ts with
  |some ts1=>
   rw[e]at g;intro H1 j q;exact⟨_,rfl,d9 (g _ ts1 H1 rfl (.bool true) j q)⟩
  |none=>
   rw[e]at g;dsimp only at g;intro H1 j q;refine⟨_,rfl,eC ?_⟩;obtain⟨B,U,z⟩:=j.obj;refine⟨_,rfl,r,B,_,rfl,z,cN,r,l,cd "FALSE",ts,rfl,by decide+kernel,j,?_⟩;unfold cU;cases F:aJ (.word (cd "FALSE")) ts with
   |some ts2=>
    rw[F]at g;intro O v y;exact g _ ts2 O rfl (.bool false) v (q.trans y)
   |none=>
    rw[F]at g;exact fun H'=>g H'
def tH(e g:aa):Sp:=fun vs H Q E=>CM fun(r l:aa) (ts:List Tk) (M:List aa)=>vs= [.ref r]/\RdAt e H r l ts/\eQ e g r l M (rv [] 1 0 .null (T ts)) H Q E
theorem zS:bf ["reader"] ["reader"] (aA pR):=fP
theorem wF(D:Df K mg "read_null" pR ["reader"])(z:mO K RC)(C:gy P w K mg base (cE P w) 4 RC "needs_word" ["self","word"] (gn RC WT)):
  Ok P w K mg base (cE P w) 5 "read_null" ["reader"] (tH RC WT):=by
 refine D.okX zS (fun F y A outer s H vs Q E v h=>?_)
 ·obtain⟨r,l,ts,M,rfl,j,g⟩:=h;refine⟨_,aj (cb (cT C z.cl v aP (pv 0) (ac aX ao))) (aq (bb lW)),?_⟩;rw[Cj j.oks]at g;obtain⟨dx,p,x⟩:=j.obj;refine⟨_,rfl,r,dx,_,rfl,x,cN,r,l,cd "NULL",ts,rfl,by decide+kernel,j,?_⟩;unfold cU;cases u:aJ (.word (cd "NULL")) ts with
  |some ts2=>
   rw[u]at g;intro B e q;exact g _ ts2 B rfl .null e q
  |none=>
   rw[u]at g;exact fun H'=>g H'
def my(e g h:aa):Sp:=fun vs H Q E=>zm fun(r l a:aa) (ts:List Tk) (M:List aa) (form:aQ) (target:List Nat) (low high:Option Int) (pl:aa) (roots:Nat) (ext:Bool) (pa op:aa)=>vs= [.ref r, .ref a]/\RdAt e H r l ts/\
 KfAt h H a form target low high pl roots ext pa op/\eQ e g r l M (rv [] 1 0 (.int low high) (T ts)) H Q E
theorem scReadInteger2:bf ["reader","kind","number"] ["reader","kind"] (aA jI):=fP
theorem qh(D:DfA K mg "read_integer_values" "read_integer" jI ["reader","kind"])(T:D2 K mg)(X:mO K RC)(Y:gy P w K mg base (cE P w) 3 RC "takes_number" ["self","least","most"] (gz RC WT))(Z:Ok P w K mg base (cE P w) 1 "check_bounds" ["kind","number"] (ff WT KC)):
  Ok P w K mg base (cE P w) 4 "read_integer_values" ["reader","kind"] (my RC WT KC):=by
 refine D.okX scReadInteger2 (fun fa W A outer s H vs Q E J h=>?_)
 ·obtain⟨r,l,a,ts,M,form,target,low,high,pl,roots,ext,pa,op,rfl,B,S,g⟩:=h;have x:=J.mono (show 1<=3 by decide);refine⟨_,aj (bR (i:=2) scReadInteger2.nd rfl (Or.inl rfl) (cT Y X.cl J aP (pv 0) (ac (ek T.least) (ac (ek T.most) ao))))
   (aj (cb (cy Z x aP (ac (pv 1) (ac (pv 2) ao)))) (aq (bb (pv 2)))),?_⟩
  rw[px]at g;obtain⟨dx,p,U⟩:=B.obj;refine⟨_,rfl,r,dx,_,rfl,U,cN,r,l,eY,ig,ts,rfl,B,?_⟩;unfold mn;cases ts with
  |nil=>exact fun H'=>g H'
  |cons t ts'=>
   cases t with
   |word z=>exact fun H'=>g H'
   |bits z=>exact fun H'=>g H'
   |octs z=>exact fun H'=>g H'
   |sign z=>exact fun H'=>g H'
   |num z=>
    have O:cG eY ig (.num z::ts')=if z < eY\/ig < z then none else some (z,ts'):=rfl
    have e:eQ RC WT r l M (if CJ low high z then some (.int z,Sp.T ts')else none) H Q E:=g;rw[O];have F:dC=9223372036854775808:=by decide+kernel
    by_cases j:z < eY\/ig < z
    ·rw[qab j];have R:¬CJ low high z:=fun q=>by
      unfold CJ at q;refine q (.inr (.inr ?_));rw[F];unfold eY ig at j
      lia
     rw[qaa R]at e;exact fun H'=>e H'
    ·rw[qaa j];have I: -dC<=z:=by rw[F];unfold eY at j;lia
     have G:z < dC:=by rw[F];unfold ig at j;lia
     intro H1 y u;have C:=S.keep (Ky.of B u);refine⟨_,rfl,_,rfl,a,z,form,target,low,high,pl,roots,ext,pa,op,rfl,C,fun v=>?_,fun v=>?_⟩
     ·rw[qab ((yl I G).mp v)]at e;exact⟨_,rfl,e _ ts' H1 rfl (.int z I G) y u⟩
     ·rw[qaa (fun q=>by rw[(yl I G).mpr q]at v;cases v)]at e;exact fun H'=>e H'
end
def jg(c:Nat):Nat:=if c<=57 then c - 48 else c - 55
theorem Gk{c:Nat}(h:c∈mX):cQ (bW c)=some (jg c):=by
 have:∀c∈mX,cQ (bW c)=some (jg c):=by decide+kernel
 exact this c h
theorem AQ:∀ {l:List Nat},(∀c∈l,c∈mX)->(un l).mapM cQ=some (l.map jg)
 | [],_=>rfl
 |c::r,h=>by
  show List.mapM cQ (bW c::un r)=_;rw[m3,Gk (h c af),AQ fun x e=>h x (ak _ e)];rfl
def two:List Nat->List Nat
 |a::b::r=>(16*a+b)::two r
 |_=> []
theorem qi:∀ {l:List Nat},l.length % 2=0->dh l=some (two l)/\(two l).length=l.length / 2
 | [],_=>⟨rfl,rfl⟩
 | [a],h=>by cases h
 |a::b::r,h=>by
  have h':r.length % 2=0:=by simp only[ae]at h;lia
  obtain⟨g,e⟩:=qi h';refine⟨?_,?_⟩
  ·show(dh r).map _=_;rw[g];rfl
  ·show(two r).length+1=_;rw[e];simp only[ae];lia
theorem AR{l:List Nat}(h: (Tk.octs l).ok): ((((un l).mapM cQ).bind dh).getD [])=two (l.map jg):=by
 rw[AQ h.2.2.2,eh,(qi (by rw[ah];exact h.2.2.1)).1];rfl
theorem ym{l:List Nat}(h: (Tk.octs l).ok): ((((un l).mapM cQ).bind dh).getD []).length=l.length / 2:=by
 rw[AR h,(qi (by rw[ah];exact h.2.2.1)).2,ah]
section
variable {P:aZ}{w:bB}{K:PySem.W.Frag}{mg:aQ->Option ag}{base:bH}{WT RC KC:aa}
def IX(g e r l:aa)(names:List (List Nat))(ts:List Tk)(H:Hp)(Q:VK)(E:XK):Prop:=match ts with
 | .word w::ts'=>if w∈names then ∀H',RdAt g H' r l ts'->Fx [r] H H'->(Tk.word w).ok->Q (sv w) H' else ∀H',E (.ref e) none H'
 |_=>∀H',E (.ref e) none H'
def lh(e g h:aa):Sp:=fun vs H Q E=>zm fun(r l a:aa) (ts:List Tk) (form:aQ) (target:List Nat) (low high:Option Int) (pl:aa) (roots:Nat) (ext:Bool) (pa op:aa) (names:List (List Nat))=>vs= [.ref r, .ref a]/\RdAt e H r l ts/\
 KfAt h H a form target low high pl roots ext pa op/\H pl=some (.dK (nmd names))/\IX e g r l names ts H Q E
theorem scReadName:bf ["reader","kind","name"] ["reader","kind"] (aA pS):=fP
theorem wG(D:Df K mg "read_name" pS ["reader","kind"])(I:Txt K mg WT)(Z:mO K RC)(O:rA K KC)(GT:gy P w K mg base (cE P w) 2 RC "takes" ["self","sort"] (jz RC WT)):
  Ok P w K mg base (cE P w) 3 "read_name" ["reader","kind"] (lh RC WT KC):=by
 refine D.okX scReadName (fun fa Y A outer s H vs Q E M h=>?_)
 ·obtain⟨r,l,a,ts,form,target,low,high,pl,roots,ext,pa,op,names,rfl,G,U,y,g⟩:=h;have S:=qC M;refine⟨_,aj (bR (i:=2) scReadName.nd rfl (Or.inl rfl) (cT GT Z.cl M aP (pv 0) (ac (ek I.word) ao)))
   (aj (bN (r8 (pH S (pv 2) (cp (pv 1) rfl))) (aq (cX PySem.F.excBase_ValueError I.exc rfl (by rfl) I.wt (ac aX ao) ft)) bh)
   (aq (bb (pv 2)))),?_⟩
  obtain⟨dx,p,W⟩:=G.obj;refine⟨_,rfl,r,dx,_,rfl,W,cN,r,l,"word",ts,rfl,by decide+kernel,G,?_⟩;cases ts with
  |nil=>exact fun H'=>g H'
  |cons t ts'=>
   rw[dP];cases t with
   |num z=>rw[qaa (cF (by intro z e;cases e))];exact fun H'=>g H'
   |bits z=>rw[qaa (cF (by intro z e;cases e))];exact fun H'=>g H'
   |octs z=>rw[qaa (cF (by intro z e;cases e))];exact fun H'=>g H'
   |sign z=>rw[qaa (cF (by intro z e;cases e))];exact fun H'=>g H'
   |word v=>
    rw[qab (oM v)];intro H1 C q hok;have J:=Ky.of G q;obtain⟨X,B⟩:=U.keep J;have j:=J _ _ id y;have u:if v∈names then ∀H',RdAt RC H' r l ts'->Fx [r] H H'->(Tk.word v).ok->Q (sv v) H' else ∀H',E (.ref WT) none H':=g
    refine⟨_,rfl,_,rfl,a,KC,X,_,_,rfl,B,O.cl,O.places,gV,pl,_,rfl,DGet.k (k:=bQ ⟨v.toArray⟩) j,_,rfl,?_⟩;have R:=oJ v names 0;show if(!(gf (nmd names) (bQ (⟨v.toArray⟩:aQ))).isSome)=true then _ else _
    unfold nmd;rw[R];by_cases x:v∈names
    ·rw[qab x]at u;rw[qad x];exact eC ⟨_,rfl,u H1 C q hok⟩
    ·rw[qaa x]at u;rw[decide_eq_false x];exact d9 ⟨by decide,u _⟩
def tI(e g h:aa):Sp:=fun vs H Q E=>zm fun(r l a:aa) (ts:List Tk) (M:List aa) (form:aQ) (target:List Nat) (low high:Option Int) (pl:aa) (roots:Nat) (ext:Bool) (pa op:aa)=>vs= [.ref r, .ref a]/\RdAt e H r l ts/\
 KfAt h H a form target low high pl roots ext pa op/\Sz low high/\eQ e g r l M (rv [] 1 0 (.bits (low.getD 0).toNat (high.map bt)) (T ts)) H Q E
theorem scReadBits:bf ["reader","kind","digits"] ["reader","kind"] (aA pT):=fP
theorem wH(D:Df K mg "read_bits" pT ["reader","kind"])(O:Txt K mg WT)(X:mO K RC)(Y:gy P w K mg base (cE P w) 2 RC "takes" ["self","sort"] (jz RC WT))(Z:Ok P w K mg base (cE P w) 1 "check_bounds" ["kind","number"] (ff WT KC)):
  Ok P w K mg base (cE P w) 3 "read_bits" ["reader","kind"] (tI RC WT KC):=by
 refine D.okX scReadBits (fun fa W A outer s H vs Q E I h=>?_)
 ·obtain⟨r,l,a,ts,M,form,target,low,high,pl,roots,ext,pa,op,rfl,F,R,x,g⟩:=h;have B:=I.mono (show 1<=2 by decide);refine⟨_,aj (bR (i:=2) scReadBits.nd rfl (Or.inl rfl) (cT Y X.cl I aP (pv 0) (ac (ek O.bits) ao)))
   (aj (cb (cy Z B aP (ac (pv 1) (ac (cJ c8 (by rfl) O.len PySem.boot_len (ac (pv 2) ao)) ao)))) (aq (bb (pv 2)))),?_⟩
  rw[mF]at g;obtain⟨dx,p,S⟩:=F.obj;refine⟨_,rfl,r,dx,_,rfl,S,cN,r,l,"bits",ts,rfl,by decide+kernel,F,?_⟩;cases ts with
  |nil=>exact fun H'=>g H'
  |cons t ts'=>
   rw[dP];cases t with
   |num z=>rw[qaa (iI (by intro z e;cases e))];exact fun H'=>g H'
   |word z=>rw[qaa (iI (by intro z e;cases e))];exact fun H'=>g H'
   |octs z=>rw[qaa (iI (by intro z e;cases e))];exact fun H'=>g H'
   |sign z=>rw[qaa (iI (by intro z e;cases e))];exact fun H'=>g H'
   |bits v=>
    rw[qab (Ee v)];intro H1 C y hok;have G:=R.keep (Ky.of F y);have u:eQ RC WT r l M (if pw (low.getD 0).toNat (high.map bt) ((un v).map fun c=>c == 49).length then some (.bits ((un v).map fun c=>c == 49),Sp.T ts')else none) H Q E:=g;have U: ((un v).map fun c=>c == 49).length=v.length:=by unfold un;rw[ah,ah]
    rw[U]at u;have J: ((⟨v.toArray⟩:aQ).length:Int)= (v.length:Int):=by rw[cK]
    refine⟨_,rfl,_,rfl,_,rfl,gl hok.2.1,a,((⟨v.toArray⟩:aQ).length:Int),form,target,low,high,pl,roots,ext,pa,op,rfl,G,fun j=>?_,fun j=>?_⟩
    ·rw[J]at j;rw[qab ((ki x _).mp j)]at u;exact⟨_,rfl,u _ ts' H1 rfl (.bits v hok) C y⟩
    ·rw[J]at j;rw[qaa (fun q=>by rw[(ki x _).mpr q]at j;cases j)]at u;exact fun H'=>u H'
def o0(e g h:aa):Sp:=fun vs H Q E=>zm fun(r l a:aa) (ts:List Tk) (M:List aa) (form:aQ) (target:List Nat) (low high:Option Int) (pl:aa) (roots:Nat) (ext:Bool) (pa op:aa)=>vs= [.ref r, .ref a]/\RdAt e H r l ts/\
 KfAt h H a form target low high pl roots ext pa op/\Sz low high/\eQ e g r l M (rv [] 1 0 (.octets (low.getD 0).toNat (high.map bt)) (T ts)) H Q E
theorem scReadOctets:bf ["reader","kind","digits"] ["reader","kind"] (aA mj):=fP
theorem tJ(D:Df K mg "read_octets" mj ["reader","kind"])(O:Txt K mg WT)(X:Txv mg)(W:mO K RC)(Y:gy P w K mg base (cE P w) 2 RC "takes" ["self","sort"] (jz RC WT))(Z:Ok P w K mg base (cE P w) 1 "check_bounds" ["kind","number"] (ff WT KC)):
  Ok P w K mg base (cE P w) 3 "read_octets" ["reader","kind"] (o0 RC WT KC):=by
 refine D.okX scReadOctets (fun fa U A outer s H vs Q E I h=>?_)
 ·obtain⟨r,l,a,ts,M,form,target,low,high,pl,roots,ext,pa,op,rfl,F,R,x,g⟩:=h;have B:=I.mono (show 1<=2 by decide);refine⟨_,aj (bR (i:=2) scReadOctets.nd rfl (Or.inl rfl) (cT Y W.cl I aP (pv 0) (ac (ek O.octets) ao)))
   (aj (cb (cy Z B aP (ac (pv 1) (ac (fU FA (cJ c8 (by rfl) O.len PySem.boot_len (ac (pv 2) ao)) (ek X.dob)) ao)))) (aq (bb (pv 2)))),?_⟩
  rw[iP]at g;obtain⟨dx,p,S⟩:=F.obj;refine⟨_,rfl,r,dx,_,rfl,S,cN,r,l,"octets",ts,rfl,by decide+kernel,F,?_⟩;cases ts with
  |nil=>exact fun H'=>g H'
  |cons t ts'=>
   rw[dP];cases t with
   |num z=>rw[qaa (iJ (by intro z e;cases e))];exact fun H'=>g H'
   |word z=>rw[qaa (iJ (by intro z e;cases e))];exact fun H'=>g H'
   |bits z=>rw[qaa (iJ (by intro z e;cases e))];exact fun H'=>g H'
   |sign z=>rw[qaa (iJ (by intro z e;cases e))];exact fun H'=>g H'
   |octs v=>
    rw[qab (Ef v)];intro H1 C y hok;have G:=R.keep (Ky.of F y);have u:eQ RC WT r l M (if pw (low.getD 0).toNat (high.map bt) ((((un v).mapM cQ).bind dh).getD []).length then some (.octets ((((un v).mapM cQ).bind dh).getD []),Sp.T ts')else none) H Q E:=g;rw[ym hok]at u;have J: ((⟨v.toArray⟩:aQ).length:Int) / 2= ((v.length / 2:Nat):Int):=by rw[cK];lia
    have hz:=hok.2.1;refine⟨_,rfl,_,rfl,_,rfl,gl hok.2.1,_,_,rfl,rfl,?_,a,((⟨v.toArray⟩:aQ).length:Int) / 2,form,target,low,high,pl,roots,ext,pa,op,rfl,G,fun j=>?_,fun j=>?_⟩
    ·exact⟨by decide,by decide⟩
    ·rw[J]at j;rw[qab ((ki x _).mp j)]at u;exact⟨_,rfl,u _ ts' H1 rfl (.octs v hok) C y⟩
    ·rw[J]at j;rw[qaa (fun q=>by rw[(ki x _).mpr q]at j;cases j)]at u;exact fun H'=>u H'
end
theorem Ei{l:List Nat}{t:Tk}(j:l.length<=65536)(p:∀c∈l,c < 128)(hok:t.ok)(h:eL l=some t):wt (fk t)<=24*l.length:=by
 match l with
 | []=>cases h
 |c::r=>
  rw[eL]at h;have g:1<=(c::r).length:=by simp
  split at h
  ·unfold jd at h;split at h
   ·cases h
   ·cases h;show(un (c::r)).length+2<=_;unfold un;rw[ah];lia
  ·split at h
   ·unfold j4 at h;split at h
    ·cases h
    ·split at h
     ·cases h
     ·cases h;show 24<=_;lia
   ·split at h
    ·have e: (gH (c::r)).length<=(c::r).length:=by unfold gH;rw[cg,aF];lia
     unfold iD at h;split at h
     ·cases h;show((un (gH (c::r))).map fun c=>c == 49).length+5<=_;unfold un;rw[ah,ah];lia
     ·split at h
      ·cases h;show 2* ((((un (gH (c::r))).mapM cQ).bind dh).getD []).length+5<=_;rw[ym hok];lia
      ·cases h
    ·cases h;show 3<=_;lia
theorem yn:∀(k:Nat) {l:List Nat} {ts:List Tk},l.length<=65536->(∀c∈l,c < 128)->gx k l=some ts->Wt (T ts)<=24*l.length
 |0,l,ts,_,_,h=>by cases h
 |k+1,l,ts,hl,h8,h=>by
  have q:=(j7 (k+1) hl h8 h).1;rw[gx]at h;split at h
  ·cases h;exact cr _
  ·rename_i c r e;have g:∀x∈c::r,x∈l:=fun x j=>bM (by rw[e];exact j);have u: (c::r).length<=l.length:=by rw[<-e,aF];lia
   split at h
   ·cases h
   ·rename_i n D;split at h
    ·cases h
    ·rename_i t C;cases p:gx k ((c::r).drop n)with
     |none=>rw[p]at h;cases h
     |some ts'=>
      rw[p]at h;cases h;have B:=yn k (by rw[aF];lia) (fun x j=>h8 x (g x (bM j))) p;have z:=Ei (by rw[cg];lia) (fun y v=>h8 y (g y (nc v))) (q t af) C;show Wt (fk t::T ts')<=_;rw[gZ];rw[aF]at B;rw[cg]at z
      lia
theorem Ej{l:List Nat}{t:Tk}(h:eL l=some t):8*xm (fk t)<=l.length:=by
 unfold xm;split
 ·rename_i e;match l with
  | []=>cases h
  |c::r=>
   rw[eL]at h;have no:∀g,some g=some t->(∀w,fk g≠ .word w)->False:=fun g q n=>by cases q;exact n _ e
   split at h
   ·unfold jd at h;split at h
    ·cases h
    ·cases h;have:un (c::r)=bi "OPTIONAL":=by injection e
     have:=qaf cI this;unfold un at this;rw[ah]at this;rw[this];decide
   ·exfalso;split at h
    ·unfold j4 at h;split at h
     ·cases h
     ·split at h
      ·cases h
      ·exact no _ h (fun w z=>by cases z)
    ·split at h
     ·unfold iD at h;split at h
      ·exact no _ h (fun w z=>by cases z)
      ·split at h
       ·exact no _ h (fun w z=>by cases z)
       ·cases h
     ·exact no _ h (fun w z=>by cases z)
 ·lia
theorem yo:∀(k:Nat) {l:List Nat} {ts:List Tk},gx k l=some ts->8*ow (T ts)<=l.length
 |0,l,ts,h=>by cases h
 |k+1,l,ts,h=>by
  rw[gx]at h;split at h
  ·cases h;exact cr _
  ·rename_i c r e;have j: (c::r).length<=l.length:=by rw[<-e,aF];lia
   split at h
   ·cases h
   ·rename_i n v;split at h
    ·cases h
    ·rename_i t u;cases g:gx k ((c::r).drop n)with
     |none=>rw[g]at h;cases h
     |some ts'=>
      rw[g]at h;cases h;have q:=yo k g;have p:=Ej u;show 8*ow (fk t::T ts')<=_;rw[gO];rw[aF]at q;rw[cg]at p
      lia
theorem Ek(s:aI)(t:aS){cs:List Nat}{ts:List Tk}{k:Nat}{v:cA}{q:List az}(e:cs.length<=65536)(r:toks (cs.map lc)=some ts)(h:rv s k 64 t (T ts)=some (v,q)): (dY gE v).length<=8388608:=by
 have p:=yn _ (by rw[ah];exact e) (fun c g=>by obtain⟨n,_,rfl⟩:=bA.mp g;exact vg n) r;have j:=(Fd s k).1 64 t _ v q (by decide) h;unfold jF at j;rw[ah]at p
 lia
def tx(v:cA):List Nat:=(dY gE v).map aL
theorem fG:gE=399999+1:=rfl
theorem gY(s:String)(h:∀c∈cd s,c < 128): (bi s).map aL=cd s:=by rw[qd,iH h]
theorem Gm(b:Bool):tx (.bool b)=if b=true then cd "TRUE" else cd "FALSE":=by
 unfold tx;rw[fG];show(bi (if b=true then "TRUE" else "FALSE")).map aL=_;cases b with
 |true=>exact gY "TRUE" (by decide)
 |false=>exact gY "FALSE" (by decide)
theorem Gn:tx .null=cd "NULL":=by
 unfold tx;rw[fG];exact gY "NULL" (by decide)
theorem Go{w:List Nat}(h: (Tk.word w).ok):tx (.name (un w))=w:=by
 unfold tx;rw[fG];exact iH h.2.1
theorem Gp{c:Nat}(h:c∈qY): (if(bW c == 49)=true then(49:UInt8)else 48).toNat=c:=by
 have:∀c∈qY,(if(bW c == 49)=true then(49:UInt8)else 48).toNat=c:=by decide+kernel
 exact this c h
theorem Gq{l:List Nat}(h: (Tk.bits l).ok):tx (.bits ((un l).map fun c=>c == 49))=39::(l++ [39,66]):=by
 unfold tx;rw[fG];show(39::((((un l).map fun c=>c == 49).map fun b=>if b=true then(49:UInt8)else 48)++ [39,66])).map aL=_;rw[bg,ay];have e: (((un l).map fun c=>c == 49).map fun b=>if b=true then(49:UInt8)else 48).map aL=l:=by
  unfold un;rw[bV,bV,bV];conv=>rhs;rw[<-m8 l]
  exact bI fun c g=>Gp (h.2.2 c g)
 rw[e];rfl
def Gr(n:Nat):Nat:=(bW (if n < 10 then 48+n else 55+n)).toNat
theorem El{c:Nat}(h:c∈mX):Gr (jg c)=c/\jg c < 16:=by
 have:∀c∈mX,Gr (jg c)=c/\jg c < 16:=by decide+kernel
 exact this c h
theorem qP:∀ {l:List Nat},l.length % 2=0->(∀c∈l,c∈mX)->(jS (two (l.map jg))).map aL=l
 | [],_,_=>rfl
 | [a],h,_=>by cases h
 |a::b::r,h,ho=>by
  have h':r.length % 2=0:=by simp only[ae]at h;lia
  have e:=qP h' fun c g=>ho c (by simp[g]);obtain⟨u,x⟩:=El (ho a (by simp));obtain⟨q,v⟩:=El (ho b (by simp));show(jS ((16*jg a+jg b)::two (r.map jg))).map aL=_;unfold jS at e ⊢;rw[CN,ay,e];have p: (16*jg a+jg b) / 16=jg a:=by lia
  have j: (16*jg a+jg b) % 16=jg b:=by lia
  show Gr ((16*jg a+jg b) / 16)::Gr ((16*jg a+jg b) % 16)::([]++r)=_;rw[p,j,u,q];rfl
theorem Gs{l:List Nat}(h: (Tk.octs l).ok):tx (.octets ((((un l).mapM cQ).bind dh).getD []))=39::(l++ [39,72]):=by
 rw[AR h];unfold tx;rw[fG];show(39::(jS (two (l.map jg))++ [39,72])).map aL=_;rw[bg,ay,qP h.2.2.1 h.2.2.2];rfl
theorem vB:∀l:List bP,(lJ l).map aL=TL.DE (cd ", ") (l.map fun b=>b.map aL)
 | []=>rfl
 | [b]=>by
  unfold lJ;show([b]:List bP).flatten.map _=_;rw[yK];rfl
 |a::b::r=>by
  have e:=vB (b::r);unfold lJ at e ⊢;rw[yL,jQ,jQ,ay,ay,e,gY ", " (by decide)];rfl
def brk(ls:List (List Nat)):List Nat:=if ls= []then cd "{ }" else cd "{ "++(TL.DE (cd ", ") ls++cd " }")
theorem AS{ls:List (List Nat)}(l:List bP)(h:l.map (fun b=>b.map aL)=ls): (if l= []then bi "{ }" else bi "{ "++(lJ l++bi " }")).map aL=brk ls:=by
 unfold brk;subst h;by_cases e:l= []
 ·rw[qab e,qab (by rw[e];rfl)];exact gY "{ }" (by decide)
 ·rw[qaa e,qaa (fun z=>e (iY.mp z)),ay,ay,vB,gY "{ " (by decide),gY " }" (by decide)]
theorem IY(s:aI){d:Nat}{t:aS}{w:List Nat}{v:cA}(e: (Tk.word w).ok)(hd:d<=64)(h:Ft s d t v):tx (.one (un w) v)=w++(58::32::tx v):=by
 unfold tx;rw[fG];show(un w++(58::32::dY 399999 v)).map aL=_;rw[ay,iH e.2.1,jV s d t v h 399999 (399999+1) (by lia) (by lia)];rfl
theorem br1: (hW [dZ 123,dZ 32,dZ 125])="{ }":=by decide
theorem br2: (hW [dZ 123,dZ 32])="{ ":=by decide
theorem br3: (hW [dZ 32,dZ 125])=" }":=by decide
theorem IZ(s:aI){d:Nat}{l:List (bP×cA)}(hd:d<=64)(h:∀x∈l,∃t,Ft s d t x.2):tx (.row l)=brk (l.map fun x=>x.1.map aL++(32::tx x.2)):=by
 unfold tx;rw[fG,Ql51.told.eq_def];dsimp only;rw[br1,br2,br3];have e:=AS (ls:=l.map fun x=>x.1.map aL++(32::tx x.2)) (l.map fun x=>x.1++(32::dY 399999 x.2)) (by
  rw[bV];refine bI fun x j=>?_;obtain⟨t,p⟩:=h x j;show(x.1++(32::dY 399999 x.2)).map aL=_;rw[ay,jV s d t x.2 p 399999 (399999+1) (by lia) (by lia)];rfl)
 refine Eq.trans ?_ (e.trans ?_)
 ·congr 1;by_cases g:l= []
  ·rw[qab g,qab (by rw[g];rfl)]
  ·rw[qaa g,qaa (fun z=>g (iY.mp z))]
 ·rfl
theorem Gt(s:aI){d:Nat}{t:aS}{l:List cA}(hd:d<=64)(h:∀x∈l,Ft s d t x):tx (.many l)=brk (l.map tx):=by
 unfold tx;rw[fG,Ql51.told.eq_def];dsimp only;rw[br1,br2,br3];have e:=AS (ls:=l.map tx) (l.map (dY 399999)) (by
  rw[bV];refine bI fun x j=>?_;show(dY 399999 x).map aL=_;rw[jV s d t x (h x j) 399999 (399999+1) (by lia) (by lia)];rfl)
 refine Eq.trans ?_ (e.trans ?_)
 ·congr 1;by_cases g:l= []
  ·rw[qab (by rw[g];rfl),qab (by rw[g];rfl)]
  ·rw[qaa (fun z=>g (List.isEmpty_iff.mp z)),qaa (fun z=>g (iY.mp z))]
 ·rfl
theorem qj(S:List Nat):∀e:List (List Nat),e≠ []->(TL.DE S e).length+S.length= (e.map cI).sum+e.length*S.length
 | [],h=>absurd rfl h
 | [a],_=>by show a.length+S.length=a.length+0+1*S.length;lia
 |a::b::r,_=>by
  have g:=qj S (b::r) (by simp);show(a++(S++TL.DE S (b::r))).length+S.length=_;rw[au,au,bg,eN,ae,Nat.succ_mul]
  lia
theorem rE{ls:List (List Nat)}(h:ls≠ []): (brk ls).length= (ls.map cI).sum+2*ls.length+2:=by
 unfold brk;rw[qaa h,au,au];have:=qj (cd ", ") ls h;have j: (cd ", ").length=2:=by decide
 have g: (cd "{ ").length=2:=by decide
 have e: (cd " }").length=2:=by decide
 rw[j]at this;rw[g,e]
 lia
theorem AT{ls:List (List Nat)}{x:List Nat}(h:x∈ls):x.length<=(brk ls).length:=by
 have e:ls≠ []:=fun z=>by rw[z]at h;cases h
 rw[rE e];have:x.length<=(ls.map cI).sum:=by
  clear e;induction ls with
  |nil=>cases h
  |cons a r ih=>
   rw[bg,eN];rcases am.mp h with z|z
   ·rw[z];lia
   ·have:=ih z;lia
 lia
def jC(n:Nat)(ts:List Tk):Option (Bool×List Tk):=match aJ (.sign (cd "}")) ts with
 |some r=>some (false,r)
 |none=>if n=0 then some (true,ts)else match aJ (.sign (cd ",")) ts with
  |some r=>some (true,r)
  |none=>none
def La(opts:List Bool)(i j:Nat):Bool:=decide (i<=j)&&decide (ly (opts.take j)<=ly (opts.take i))
theorem yp(opts:List Bool){i:Nat}(h:i<=opts.length):BL (kU opts) (i:Int)=some (V.int ((ly (opts.take i):Nat):Int)):=by
 refine f8 ?_;unfold kU;rw[bp,List.getElem?_range (by lia)];rfl
theorem Ck(opts:List Bool){i j:Nat}(h:i<=j):ly (opts.take j)=ly (opts.take i)+ly ((opts.drop i).take (j - i)):=by
 unfold ly;rw[<-CG];congr 1;have e:j=i+ (j - i):=by lia
 conv=>lhs;rw[e,List.take_add]
theorem Em{l:List Bool} :ly l=0↔∀b∈l,b=true:=by
 unfold ly;rw[List.countP_eq_zero];exact⟨fun h b e=>by have:=h b e;simpa using this,fun h b e=>by rw[h b e];decide⟩
theorem iW(a:List eD)(i j:Nat):La (a.map (·.2.1)) i j=true↔gw a i j:=by
 unfold La gw;rw[bY,decide_eq_true_eq,decide_eq_true_eq];refine and_congr_right fun p=>?_;rw[Ck _ p];have e:ly ((a.map (·.2.1)).take i)+ly (((a.map (·.2.1)).drop i).take (j - i))<=ly ((a.map (·.2.1)).take i)↔ly (((a.map (·.2.1)).drop i).take (j - i))=0:=by lia
 rw[e,Em];rw[<-HY,<-List.map_take];exact⟨fun h x g=>h _ (bA.mpr ⟨x,g,rfl⟩),fun h b q=>by obtain⟨x,g,rfl⟩:=bA.mp q;exact h x g⟩
section
variable {P:aZ}{w:bB}{K:PySem.W.Frag}{mg:aQ->Option ag}{base:bH}{WT RC KC:aa}
def li(e g:aa):Sp:=fun vs H Q E=>CM fun(r l:aa) (ts:List Tk) (n:Nat)=>vs= [.ref r, .int (n:Int)]/\RdAt e H r l ts/\mn e g r l (jC n ts) V.bl H Q E
theorem zT:bf ["reader","count"] ["reader","count"] (aA pU):=fP
theorem wI(D:Df K mg "next_item" pU ["reader","count"])(O:mO K RC)(W:gy P w K mg base fh 3 RC "skips_sign" ["self","sign"] (eX RC))(G:gy P w K mg base (cE P w) 4 RC "needs_sign" ["self","sign"] (df RC WT)):
  Ok P w K mg base (cE P w) 5 "next_item" ["reader","count"] (li RC WT):=by
 refine D.okX zT (fun Y S A outer s H vs Q E I h=>?_)
 ·obtain⟨r,l,ts,n,rfl,J,g⟩:=h;have u:=I.mono (show 3<=4 by decide);refine⟨_,aj (bN (cB (cT W O.cl u cD (pv 0) (ac aX ao))) (aq (bb ib)) bh)
   (aj (bN (bo lY (pv 1) cw (bE _)) (aq (cb (cT G O.cl I aP (pv 0) (ac aX ao)))) bh) (aq (bb ib))),?_⟩
  obtain⟨dx,p,R⟩:=J.obj;refine⟨_,rfl,r,dx,_,rfl,R,cN,r,l,cd "}",ts,rfl,by decide+kernel,J,?_⟩;unfold jC at g;unfold c9;cases e:aJ (.sign (cd "}")) ts with
  |some ts1=>
   rw[e]at g;intro H1 j q;exact⟨_,rfl,d9 (g H1 j q)⟩
  |none=>
   rw[e]at g;dsimp only at g;intro H1 j q;refine⟨_,rfl,eC ?_⟩;refine⟨_,rfl,_,_,rfl,rfl,_,rfl,?_⟩;refine du (fun x=>?_) (fun x=>?_)
   ·have v:¬n=0:=by have:=qac x;lia
    rw[qaa v]at g;obtain⟨F,X,C⟩:=j.obj;refine⟨_,rfl,r,F,_,rfl,C,cN,r,l,cd ",",ts,rfl,by decide+kernel,j,?_⟩;unfold cU;cases M:aJ (.sign (cd ",")) ts with
    |some ts2=>
     rw[M]at g;intro U y B;exact g U y (q.trans B)
    |none=>
     rw[M]at g;exact fun H'=>g H'
   ·have v:n=0:=bz fun z=>x (qad (by lia));rw[qab v]at g;exact g H1 j q
def jh(e g:aa):Sp:=fun vs H Q E=>ID fun(a:aa) (i j:Nat) (form:aQ) (target:List Nat) (low high:Option Int) (pl:aa) (roots:Nat) (ext:Bool) (pa op:aa) (opts:List Bool)=>vs= [.ref a, .int (i:Int), .int (j:Int)]/\
 KfAt g H a form target low high pl roots ext pa op/\H op=some (.lst (kU opts))/\i<=opts.length/\j<=opts.length/\(La opts i j=true->Q .non H)/\(La opts i j=false->∀H',E (.ref e) none H')
theorem tK:bf ["kind","start","end"] ["kind","start","end"] (aA jJ):=fP
theorem o4(D:Df K mg "check_left_out" jJ ["kind","start","end"])(B:Txt K mg WT)(r:rA K KC):Ok P w K mg base (cE P w) 1 "check_left_out" ["kind","start","end"] (jh WT KC):=by
 refine D.okX tK (fun M I A outer s H vs Q E J h=>?_)
 ·obtain⟨a,i,j,form,target,low,high,pl,roots,ext,pa,op,opts,rfl,⟨dx,y⟩,p,G,C,x,q⟩:=h;refine⟨_,aq (bN (PW.pt (lr (bo lu (pv 2) (pv 1) (bE _)) (ip (bo lY (fb fD (cp (pv 0) rfl) (pv 2) (fun _ _=>rfl)) (fb fD (cp (pv 0) rfl) (pv 1) (fun _ _=>rfl)) (bE _)))))
   (aq (cX PySem.F.excBase_ValueError B.exc rfl (by rfl) B.wt (ac aX ao) ft)) bh),?_⟩
  unfold La at x q;refine⟨_,rfl,_,rfl,_,_,rfl,rfl,_,rfl,?_⟩;refine du (fun u=>?_) (fun u=>?_)
  ·have e:¬i<=j:=by have:=qac u;lia
   rw[decide_eq_false e,m6]at q;exact d9 ⟨by decide,q rfl _⟩
  ·have e:i<=j:=bz fun z=>u (qad (by lia));rw[qad e,wY]at x q;refine⟨_,rfl,a,KC,dx,_,_,rfl,y,r.cl,r.opt,pZ,_,rfl,op,_,_,_,rfl,rfl,SqL.of p,yp opts C,?_⟩;refine⟨_,rfl,a,KC,dx,_,_,rfl,y,r.cl,r.opt,pZ,_,rfl,op,_,_,_,rfl,rfl,SqL.of p,yp opts G,_,_,rfl,rfl,_,rfl,?_⟩;refine du (fun g=>?_) (fun g=>?_)
   ·have v:¬ly (opts.take j)<=ly (opts.take i):=by have:=qac g;lia
    exact⟨by decide,q (decide_eq_false v) _⟩
   ·have v:ly (opts.take j)<=ly (opts.take i):=bz fun z=>g (qad (by lia));exact x (qad v)
end
def TbAt(e:aa)(tb:List (List Nat×aa))(H:Hp)(s:aI):Prop:=∀(w:List Nat) (b:aa),(Tk.word w).ok->tb.lookup w=some b->∃(t:aS) (k:Kd),s.lookup (un w)=some t/\KJ e tb H b k/\KT k t
theorem TbAt.keep{g:aa}{tb:List (List Nat×aa)}{H H':Hp}{s:aI}(h:TbAt g tb H s)(p:Ky H H'):TbAt g tb H' s:=fun w b j e=>by
 obtain⟨t,k,u,r,q⟩:=h w b j e;exact⟨t,k,u,r.keep p,q⟩
def spV(e h g:aa)(n:Nat):Sp:=fun vs H Q E=>FV fun(r l a:aa) (d:Nat) (ts:List Tk) (M:List aa) (tb:List (List Nat×aa)) (s:aI) (k:Kd) (t:aS) (F:Nat)=>
 vs= [.ref r, .ref a, .int ((64 - d:Nat):Int)]/\d < n/\d<=64/\RdAt e H r l ts/\KJ g tb H a k/\KT k t/\TbAt g tb H s/\(∀b∈M,H b≠none)/\2*d+ts.length+1<=F/\eQ e h r l M (rv s F d t (T ts)) H Q E
theorem yq:un (cd "}")= [125]:=by decide+kernel
theorem En:un (cd ",")= [44]:=by decide+kernel
theorem Gu:un (cd "{")= [123]:=by decide+kernel
theorem Eo:un (cd ":")= [58]:=by decide+kernel
theorem Gv{b:String}{ts:List Tk}(h:aJ (.sign (cd b)) ts=none)(r:List Tk):ts≠ .sign (cd b)::r:=fun e=>by rw[e,bG]at h;cases h
theorem vC{b:String}{c:List UInt8}(q:c.map aL=cd b){ts:List Tk}(p:Oks ts)(h:aJ (.sign (cd b)) ts=none)(r:List az):T ts≠ .sign c::r:=fun e=>by
 obtain⟨j,g,_⟩:=d6 p e;rw[q]at g;exact Gv h j g
theorem Ep{ts:List Tk}(j:Oks ts)(n:Nat)(f:Bool)(h:f=decide (n=0))(p:aJ (.sign (cd "}")) ts=none):item f (T ts)=match jC n ts with
  |some (_,r)=>some (T r)
  |none=>none:=by
 unfold jC item;rw[p];dsimp only;by_cases g:n=0
 ·rw[h,qad g,qab rfl,qab g]
 ·rw[h,decide_eq_false g,qaa (by decide),qaa g];cases e:aJ (.sign (cd ",")) ts with
  |some r=>
   rw[bL e];show(match(jt (un (cd ","))::T r)with
    | .sign [44]::r=>some r
    |_=>none)=_
   rw[En];rfl
  |none=>
   split
   ·rename_i r q;exact absurd q (vC (by decide) j e r)
   ·rfl
theorem jD{n:Nat}{ts r:List Tk}(h:aJ (.sign (cd "}")) ts=some r):jC n ts=some (false,r):=by unfold jC;rw[h]
theorem lj{n:Nat}{ts:List Tk}{x:Bool×List Tk}(h:aJ (.sign (cd "}")) ts=none)(e:jC n ts=some x):x.1=true/\x.2.length<=ts.length:=by
 unfold jC at e;rw[h]at e;dsimp only at e;split at e
 ·cases e;exact⟨rfl,aC _⟩
 ·split at e
  ·rename_i r g;cases e;have:=bT g;exact⟨rfl,by show r.length<=_;lia⟩
  ·cases e
theorem Ja(s:aI)(k d:Nat)(t:aS)(acc:List cA){ts:List Tk}(g:Oks ts):rall s (k+1) d t acc (T ts)=match jC acc.length ts with
  |none=>none
  |some (false,r)=>some (acc,T r)
  |some (true,r)=>if d=0 then none else match rv s k (d - 1) t (T r)with
   |some (v,q)=>rall s k d t (acc++ [v]) q
   |none=>none:=by
 rw[iR];cases e:aJ (.sign (cd "}")) ts with
 |some r=>
  rw[jD e,bL e];show(match(jt (un (cd "}"))::T r)with
   | .sign [125]::r=>some (acc,r)
   |l=>match item acc.isEmpty l with
    |some l=>if d=0 then none else match rv s k (d - 1) t l with
     |some (v,q)=>rall s k d t (acc++ [v]) q
     |none=>none
    |none=>none)=_
  rw[yq];rfl
 |none=>
  have h:=Ep g acc.length acc.isEmpty (by cases acc<;>simp) e;split
  ·rename_i r p;exact absurd p (vC (by decide) g e r)
  ·rw[h];cases j:jC acc.length ts with
   |none=>rfl
   |some x=>
    obtain⟨b,r⟩:=x;have:=(lj e j).1;dsimp only at this;subst this;rfl
theorem mI(s:aI)(k d e:Nat)(g:Option Nat)(t:aS)(r:List az):rv s (k+1) d (.many e g t) (.sign [123]::r)= (rall s k d t [] r).bind fun x=>if pw e g x.1.length then some (jE x.1,x.2)else none:=by rw[mG];rfl
theorem zU(s:aI)(k d e:Nat)(g:Option Nat)(t:aS){l:List az}(h:∀r,l≠ .sign [123]::r):rv s (k+1) d (.many e g t) l=none:=by
 rw[mG];split
 ·rename_i r;exact absurd rfl (h r)
 ·rfl
theorem Er(ts:List Tk):T (.sign (cd "{")::ts)= .sign [123]::T ts:=by show jt (un (cd "{"))::_=_;rw[Gu]
theorem KJ.inv{g:aa}{tb:List (List Nat×aa)}{H:Hp}{a:aa}{form:aQ}{target:List Nat}{low high:Option Int}{names:List (List Nat)}{roots:Nat}{ext:Bool}{parts:List Kd}{opts:List Bool}(h:KJ g tb H a (.mk form target low high names roots ext parts opts))(p:form≠"a name"):
  ∃(pl pa op:aa) (as:List aa),KfAt g H a form target low high pl roots ext pa op/\H pl=some (.dK (nmd names))/\H pa=some (.lst (as.map V.ref))/\H op=some (.lst (kU opts))/\KJs g tb H as parts:=by
 generalize j:Kd.mk form target low high names roots ext parts opts=k at h;cases h with
 |mk h1 h2 h3 h4 h5 h6=>cases j;exact⟨_,_,_,_,⟨_,h1⟩,h2,h3,h4,h6⟩
 |nm h1 h2 h3=>injection j with e;exact absurd e p
theorem KJ.inv_nm{j:aa}{tb:List (List Nat×aa)}{H:Hp}{a:aa}{target:List Nat}{low high:Option Int}{names:List (List Nat)}{roots:Nat}{ext:Bool}{parts:List Kd}{opts:List Bool}(h:KJ j tb H a (.mk "a name" target low high names roots ext parts opts)):
  ∃(pl pa op b:aa),KfAt j H a "a name" target low high pl roots ext pa op/\H pa=some (.lst [.ref b])/\tb.lookup target=some b:=by
 generalize p: (ai "a name")=form at h;generalize g:Kd.mk form target low high names roots ext parts opts=k at h;cases h with
 |mk h1 h2 h3 h4 h5 h6=>injection g with e;exact absurd (e.symm.trans p.symm) h5
 |nm h1 h2 h3=>cases g;exact⟨_,_,_,_,⟨_,h1⟩,h2,h3⟩
theorem wJ{v:aa}{H H1:Hp}{r l h:aa}{ts:List Tk}(j:RdAt v H1 r l ts)(p:Fx [r] H H1)(g:H1 h=none):H h=none:=by
 cases e:H h with
 |none=>rfl
 |some o=>
  by_cases u:h=r
  ·obtain⟨_,_,q⟩:=j.obj;rw[u,q]at g;cases g
  ·rw[p h o (by simpa using u) e]at g;cases g
theorem RdAt.app{j:aa}{v H:Hp}{r l g:aa}{ts:List Tk}{xs x:List V}(C:RdAt j H r l ts)(y:H g=some (.lst xs))(p:v g=none){h:List Tk}(D:RdAt j v r l h):RdAt j (dJ H g (.lst x)) r l ts:=by
 obtain⟨_,_,_,_,u,q,_⟩:=D.ex;refine C.keep (M:= [g]) (Fx.set af) (fun z=>?_) (fun z=>?_) (fun b B xs e=>?_)
 ·rw[aw.mp z,p]at u;cases u
 ·rw[aw.mp z,p]at q;cases q
 ·rw[aw.mp B,y]at e;cases e
theorem JT(x:V)(xs:List V):BL (x::xs) 0=some x:=f8 (xs:=x::xs) (j:=0) rfl
section
variable {P:aZ}{w:bB}{K:PySem.W.Frag}{mg:aQ->Option ag}{base:bH}{WT RC KC:aa}
def spSO(h p j:aa)(n:Nat):Sp:=fun vs H Q E=>ID fun(r l a:aa) (d:Nat) (ts:List Tk) (M:List aa) (tb:List (List Nat×aa)) (s:aI) (k:Kd) (t:aS) (e g:Option Int) (F:Nat)=>
 vs= [.ref r, .ref a, .int ((64 - d:Nat):Int)]/\d < n+1/\d<=64/\RdAt h H r l ts/\KJ j tb H a (.mk "SEQUENCE OF" [] e g [] 0 false [k] [])/\Sz e g/\KT k t/\TbAt j tb H s/\(∀b∈M,H b≠none)/\2*d+ts.length+1<=F+1/\
 eQ h p r l M (rv s (F+1) d (.many (e.getD 0).toNat (g.map bt) t) (T ts)) H Q E
theorem scReadSequenceOf:bf ["reader","kind","depth","values"] ["reader","kind","depth"] (aA f9):=fP
theorem mY{n:Nat}(D:Df K mg "read_sequence_of" f9 ["reader","kind","depth"])(T0:Txt K mg WT)(TR:mO K RC)(TK:rA K KC)(GNS:gy P w K mg base (cE P w) 4 RC "needs_sign" ["self","sign"] (df RC WT))(GI:Ok P w K mg base (cE P w) 5 "next_item" ["reader","count"] (li RC WT))
  (GD:Ok P w K mg base (cE P w) 1 "deeper" ["depth"] (mx WT)) (GB:Ok P w K mg base (cE P w) 1 "check_bounds" ["kind","number"] (ff WT KC)) (GV:Ok P w K mg base (cE P w) (2*n+6) "read_value" ["reader","kind","depth"] (spV RC WT KC n)):
  Ok P w K mg base (cE P w) (2*n+6+1) "read_sequence_of" ["reader","kind","depth"] (spSO RC WT KC n):=by
 refine D.okX scReadSequenceOf (fun fa cdv A outer s0 H vs Q E hr h=>?_)
 ·obtain⟨r,l,a,d,ts,M,tb,s,k,t,lo,hi,F,rfl,hdn,hd,hR,hK,hsz,hT,hTb,hM,hF,g⟩:=h;have hr1:=hr.mono (show 1<=2*n+6 by lia);have hr4:=hr.mono (show 4<=2*n+6 by lia);have hr5:=hr.mono (show 5<=2*n+6 by lia);refine⟨_,aj (cb (cT GNS TR.cl hr4 aP (pv 0) (ac aX ao)))
   (aj (bR (i:=3) scReadSequenceOf.nd rfl (Or.inl rfl) (iq ao))
   (aj (ic ma (cB (cy GI hr5 aP (ac (pv 0) (ac (cJ d5 (by rfl) T0.len PySem.boot_len (ac (pv 3) ao)) ao))))
    (aq (cb (lv PySem.F.plainAttrs_list PySem.F.slot_list_append PySem.F.type_list_append gk (pv 3) (ac (cy GV hr aP (ac (pv 0) (ac (fb fD (cp (pv 1) rfl) cw (fun _ _=>rfl)) (ac (cy GD hr1 aP (ac (pv 2) ao)) ao)))) ao)))))
   (aj (cb (cy GB hr1 aP (ac (pv 1) (ac (cJ d5 (by rfl) T0.len PySem.boot_len (ac (pv 3) ao)) ao))))
   (aq (bb (pv 3)))))),?_⟩
  obtain⟨dx,p,h1⟩:=hR.obj;refine⟨_,rfl,r,dx,_,rfl,h1,cN,r,l,cd "{",ts,rfl,by decide+kernel,hR,?_⟩;unfold cU;cases e0:aJ (.sign (cd "{")) ts with
  |none=>
   rw[zU s F d _ _ t (vC (by decide) hR.oks e0)]at g;exact fun H'=>g H'
  |some ts1=>
   rw[bL e0,Er,mI]at g;have l0:=bT e0;intro H1 hR1 hF1;refine⟨by decide,fun j hva=>?_⟩;have B:H j=none:=wJ hR1 hF1 hva;have hR2:RdAt RC (dJ H1 j (.lst [])) r l ts1:=hR1.new hva;have hF2:Fx [r] H (dJ H1 j (.lst [])):=fun b o nb e=>by rw[aY (br e B)];exact hF1 b o nb e
   refine whl (fun m σ' H'=>∃(acc:List cA) (xs:List V) (O:List Tk),σ'= [some (.ref r),some (.ref a),some (.int ((64 - d:Nat):Int)),some (.ref j)]/\RdAt RC H' r l O/\H' j=some (.lst xs)/\VsAt (r::j::M) H' xs acc/\Fx [r] H H'/\acc.length+O.length<=65536/\2*d+O.length+1<=m/\
    eQ RC WT r l M ((rall s m d t acc (T O)).bind fun x=>if pw (lo.getD 0).toNat (hi.map bt) x.1.length then some (jE x.1,x.2)else none) H Q E)
    F ⟨[], [],ts1,rfl,hR2,aU, .nil,hF2,by have:=hR1.few;simp;lia,by lia,g⟩ ?_
   rintro m σ' H3 ⟨acc,xs,J,rfl,hR3,S,hV3,hF3,hz3,Z,g3⟩ Y0 X0 hY hX;match m,hY,Z with
   |0,_,Z=>lia
   |m+1,hY,Z=>
   rw[Ja s m d t acc hR3.oks]at g3;have R:=hV3.len;refine⟨_,rfl,_,rfl,j,_,rfl, .inl (SqL.of S),r,l,J,acc.length,by rw[R];rfl,hR3,?_⟩;unfold mn;cases em:jC acc.length J with
   |none=>rw[em]at g3;exact fun H'=>g3 H'
   |some x=>
    obtain⟨b,u⟩:=x;rw[em]at g3;intro H4 W hF4;have C:=hF3.trans hF4;have hvr:j≠r:=fun z=>by obtain⟨_,_,q⟩:=hR3.obj;rw[z,q]at S;cases S
    have G:=hF4 j _ (by simpa using hvr) S;have ky4:Ky H H4:=Ky.of hR C;have upM:∀ {X Y:Hp},Fx [r] X Y->Fx (r::j::M) X Y:=fun h=>h.mono (by simp);have hV4:VsAt (r::j::M) H4 xs acc:=hV3.move (upM hF4) (fun b U=> .inl U);obtain⟨pl,pa,op,as,hkf,_,hpa,_,hks⟩:=(hK.keep ky4).inv (by decide+kernel);cases b with
    |false=>
     refine⟨_,rfl,eC (hX _ ?_)⟩;have I:eQ RC WT r l M (if pw (lo.getD 0).toNat (hi.map bt) acc.length then some (jE acc,T u)else none) H Q E:=g3;refine⟨_,rfl,_,rfl,j,_,rfl, .inl (SqL.of G),a,_,_,_,lo,hi,pl,_,_,pa,op,rfl,hkf,fun ho=>?_,fun ho=>?_⟩
     ·rw[R]at ho;rw[qab ((ki hsz _).mp ho)]at I;refine⟨_,rfl,I _ u H4 rfl (.many G (fun z=>hM j z B) (hV4.move (H':=H4) Fx.refl fun b U=> .inl (by simp[U]))) W C⟩
     ·rw[R]at ho;rw[qaa (fun q=>by rw[(ki hsz _).mpr q]at ho;cases ho)]at I;exact fun H'=>I H'
    |true=>
     refine⟨_,rfl,d9 (hY _ fun N0 R0 B0 hN hR0=>?_)⟩;obtain⟨dk,hdk⟩:=hkf;cases hks with
     |cons hk0 hks0=>
      rename_i ka as0;refine⟨_,rfl, .inl ⟨rfl,_,SqL.of G⟩,_,rfl,_,rfl,a,KC,dk,_,_,rfl,hdk,TK.cl,TK.parts,fY,pa,_,_, .ref ka,rfl,rfl,SqL.of hpa,JT _ _,_,rfl,d,rfl,hd,fun h0=>?_,fun h0=>?_⟩
      ·have I:eQ RC WT r l M ((match rv s m (d - 1) t (T u)with
         |some (v,q)=>rall s m d t (acc++ [v]) q
         |none=>none).bind fun x=>if pw (lo.getD 0).toNat (hi.map bt) x.1.length then some (jE x.1,x.2)else none) H Q E:=by
        have g5:eQ RC WT r l M ((if d=0 then none else match rv s m (d - 1) t (T u)with
         |some (v,q)=>rall s m d t (acc++ [v]) q
         |none=>none).bind fun x=>if pw (lo.getD 0).toNat (hi.map bt) x.1.length then some (jE x.1,x.2)else none) H Q E:=g3
        rw[qaa h0]at g5;exact g5
       have lt4:u.length<=J.length:=by
        cases ec:aJ (.sign (cd "}")) J with
        |none=>exact(lj ec em).2
        |some r'=>rw[jD ec]at em;cases em
       refine⟨r,l,ka,d - 1,u,r::j::M,tb,s,k,t,m,rfl,by lia,by lia,W,hk0,hT,hTb.keep ky4,?_,by lia,?_⟩
       ·intro b U;rcases am.mp U with z|z
        ·obtain⟨_,_,q⟩:=W.obj;rw[z,q];simp
        ·rcases am.mp z with z|z
         ·rw[z,G];simp
         ·cases e:H b with
          |none=>exact absurd e (hM b z)
          |some o=>
           by_cases hbr:b=r
           ·obtain⟨_,_,q⟩:=W.obj;rw[hbr,q];simp
           ·rw[C b o (by simpa using hbr) e];simp
       unfold eQ;cases er:rv s m (d - 1) t (T u)with
       |none=>rw[er]at I;exact fun H'=>I H'
       |some x=>
        obtain⟨v,q⟩:=x;rw[er]at I;intro y ts5 H5 hq hy hR5 hF5;dsimp only at hq;subst hq;have hv5:=hF5 j _ (by simpa using hvr) G;have a0:=(lV s m).1 _ _ _ _ er;rw[ah,ah]at a0;refine⟨j,_,_,rfl,rfl,hv5,?_,?_⟩
        ·rw[R];exact bK (show acc.length<=65536 by lia) (by decide)
        have a1:Fx (r::j::M) H5 (dJ H5 j (.lst (xs++ [y]))):=Fx.set (by simp);refine hN m _ _ (cS m) ⟨acc++ [v],xs++ [y],ts5,rfl,hR5.app hv5 B hR,aU,?_,?_,?_,by lia,I⟩
        ·exact((hV4.move (upM hF5) fun b U=> .inl U).snoc hy).move a1 fun b U=> .inl U
        ·intro b o nb e;rw[aY (br e B)];exact(C.trans hF5) b o nb e
        ·rw[au,ci];lia
      ·have I:eQ RC WT r l M none H Q E:=by
        have g5:eQ RC WT r l M ((if d=0 then none else match rv s m (d - 1) t (T u)with
         |some (v,q)=>rall s m d t (acc++ [v]) q
         |none=>none).bind fun x=>if pw (lo.getD 0).toNat (hi.map bt) x.1.length then some (jE x.1,x.2)else none) H Q E:=g3
        rw[qab h0]at g5;exact g5
       exact fun H'=>I H'
end
theorem rF(n:List Nat):∀(l:List (List Nat)) (i:Nat),gf (kT i l) (bQ (⟨n.toArray⟩:aQ))= (l.findIdx? fun x=>x == n).map fun(j:Nat)=>V.int ((i+j:Nat):Int)
 | [],i=>rfl
 |m::r,i=>by
  by_cases e:m=n
  ·subst e;rw[kT,i9 rfl,ey,qag];rfl
  ·have g:¬((bQ ⟨m.toArray⟩:g0)=bQ ⟨n.toArray⟩):=fun z=>e (by injection z with z;injection z with z;simpa using z);rw[kT,ja g,rF n r (i+1),ey,qae.mpr e];cases ox (fun x=>x == n) r with
   |none=>rfl
   |some j=>
    show some (V.int ((i+1+j:Nat):Int))=some (V.int ((i+ (j+1):Nat):Int));rw[show i+1+j=i+ (j+1) by lia]
theorem o5{g:Type}{nm:g->bP}{n:List Nat}(j: (Tk.word n).ok):∀ {names:List (List Nat)} {a:List g},a.map nm=names.map un->(∀m∈names,(Tk.word m).ok)->(a.findIdx? fun x=>nm x == un n)=names.findIdx? fun x=>x == n
 | [], [],_,_=>rfl
 |m::names,x::a,e,h=>by
  rw[bg,bg]at e;injection e with e1 e2
  rw[ey,ey,o5 j e2 fun y p=>h y (ak _ p),e1];by_cases q:m=n
  ·rw[q];simp
  ·have:¬un m=un n:=fun z=>q (la (h m af).2.1 j.2.1 z);rw[qae.mpr q,qae.mpr this]
 | [],x::a,e,_=>by cases e
 |m::names, [],e,_=>by cases e
theorem yr{n:List Nat}{l:List (List Nat)} : (l.findIdx? fun x=>x == n).isSome=decide (n∈l):=by
 rw[List.findIdx?_isSome];by_cases h:n∈l
 ·rw[qad h,rk];exact⟨n,h,by simp⟩
 ·rw[decide_eq_false h,CS];intro x e z;exact h (by rw[<-qac (p:=x=n) (by simpa using z)];exact e)
theorem qk{g h:Type}[BEq g]{w:g} :∀ {a:List (g×h)},a.lookup w= (a.findIdx? fun x=>w == x.1).bind fun i=>(a[i]?).map (·.2)
 | []=>rfl
 | (x,y)::r=>by
  rw[bS,ey];cases e: (w == x)with
  |true=>rfl
  |false=>
   show r.lookup w=_;rw[qk (a:=r)];cases ox (fun x=>w == x.1) r with
   |none=>rfl
   |some i=>rfl
theorem KTs.at':∀ {g:List Kd} {ts:List aS} {i:Nat} {t:aS},KTs g ts->ts[i]? =some t->∃k,g[i]? =some k/\KT k t
 |_,_,i,t, .nil,e=>by simp at e
 |_,_,0,t, .cons (k:=k) x y,e=>by
  have h:_=t:=aB e;exact⟨k,rfl,h ▸ x⟩
 |_,_,i+1,t, .cons x y,e=>KTs.at' (i:=i) y e
theorem KTs.app:∀ {j g:List Kd} {ts e:List aS},KTs j ts->KTs g e->KTs (j++g) (ts++e)
 |_,_,_,_, .nil,h=>h
 |_,_,_,_, .cons x y,h=> .cons x (KTs.app y h)
section
variable {P:aZ}{w:bB}{K:PySem.W.Frag}{mg:aQ->Option ag}{base:bH}{WT RC KC:aa}
def spRC(h p j:aa)(n:Nat):Sp:=fun vs H Q E=>KS fun(r l a:aa) (d:Nat) (ts:List Tk) (M:List aa) (tb:List (List Nat×aa)) (s:aI) (names:List (List Nat)) (roots:Nat) (ext:Bool) (parts:List Kd) (g:List (bP×aS)) (e:Option (List (bP×aS))) (F:Nat)=>
 vs= [.ref r, .ref a, .int ((64 - d:Nat):Int)]/\d < n+1/\d<=64/\RdAt h H r l ts/\KJ j tb H a (.mk "CHOICE" [] none none names roots ext parts [])/\(g++e.getD []).map (·.1)=names.map un/\KTs parts ((g++e.getD []).map (·.2))/\(∀m∈names,(Tk.word m).ok)/\
 TbAt j tb H s/\(∀b∈M,H b≠none)/\2*d+ts.length+1<=F+1/\eQ h p r l M (rv s (F+1) d (.one g e) (T ts)) H Q E
theorem Es(s:aI)(k d:Nat)(a:List (bP×aS))(m:Option (List (bP×aS))){ts:List Tk}(j:Oks ts):rv s (k+1) d (.one a m) (T ts)=match ts with
  | .word w::r=>(match aJ (.sign (cd ":")) r with
   |none=>none
   |some r=>if d=0 then none else((a++m.getD []).lookup (un w)).bind fun t=>(rv s k (d - 1) t (T r)).map fun x=>(.one (un w) x.1,x.2))
  |_=>none:=by
 rw[rR];cases ts with
 |nil=>rfl
 |cons t r=>
  cases t with
  |num z=>rfl
  |bits z=>rfl
  |octs z=>rfl
  |sign z=>rfl
  |word w=>
   dsimp only;cases e:aJ (.sign (cd ":")) r with
   |some r2=>
    rw[bL e];show(match(fT (un w):: .sign (un (cd ":"))::T r2)with
     | .word w:: .sign [58]::r=>if d=0 then none else((a++m.getD []).lookup w).bind fun t=>(rv s k (d - 1) t r).map fun(x:cA×List az)=>(JM w x.1,x.2)
     |_=>none)=_
    rw[Eo];rfl
   |none=>
    split
    ·rename_i h g q;have p:T r= .sign [58]::g:=by
      have:fT (un w)::T r= .word h:: .sign [58]::g:=q;injection this
     exact absurd p (vC (by decide) j.tail e g)
    ·rfl
theorem scReadChoice:bf ["reader","kind","depth","name"] ["reader","kind","depth"] (aA jy):=fP
theorem tL{n:Nat}(D:Df K mg "read_choice" jy ["reader","kind","depth"])(TR:mO K RC)(TK:rA K KC)(GNS:gy P w K mg base (cE P w) 4 RC "needs_sign" ["self","sign"] (df RC WT))(GN:Ok P w K mg base (cE P w) 3 "read_name" ["reader","kind"] (lh RC WT KC))
  (GD:Ok P w K mg base (cE P w) 1 "deeper" ["depth"] (mx WT)) (GV:Ok P w K mg base (cE P w) (2*n+6) "read_value" ["reader","kind","depth"] (spV RC WT KC n)):
  Ok P w K mg base (cE P w) (2*n+6+1) "read_choice" ["reader","kind","depth"] (spRC RC WT KC n):=by
 refine D.okX scReadChoice (fun fa cdv A outer s0 H vs Q E S h=>?_)
 ·obtain⟨r,l,a,d,ts,M,tb,s,names,roots,ext,parts,J,G,F,rfl,hdn,hd,hR,hK,Y,hkt,hok,hTb,hM,hF,g⟩:=h;have hr1:=S.mono (show 1<=2*n+6 by lia);have hr3:=S.mono (show 3<=2*n+6 by lia);have hr4:=S.mono (show 4<=2*n+6 by lia);have hu:=qC S;refine⟨_,aj (bR (i:=3) scReadChoice.nd rfl (Or.inl rfl) (cy GN hr3 aP (ac (pv 0) (ac (pv 1) ao))))
   (aj (cb (cT GNS TR.cl hr4 aP (pv 0) (ac aX ao)))
   (aq (bb (kA (ac (pv 3) (ac (cy GV S aP (ac (pv 0) (ac (fb fD (cp (pv 1) rfl) (oF hu (cp (pv 1) rfl) (pv 3) (fun _ _=>rfl)) (fun _ _=>rfl)) (ac (cy GD hr1 aP (ac (pv 2) ao)) ao)))) ao)))))),?_⟩
  rw[Es s F d J G hR.oks]at g;obtain⟨pl,pa,op,as,hkf,W,hpa,_,hks⟩:=hK.inv (by decide+kernel);refine⟨_,rfl,_,rfl,r,l,a,ts,_,_,_,_,pl,_,_,pa,op,names,rfl,hR,hkf,W,?_⟩;cases ts with
  |nil=>exact fun H'=>g H'
  |cons t ts1=>
   cases t with
   |num z=>exact fun H'=>g H'
   |bits z=>exact fun H'=>g H'
   |octs z=>exact fun H'=>g H'
   |sign z=>exact fun H'=>g H'
   |word v=>
    have hv: (Tk.word v).ok:=hR.oks.head;dsimp only at g;have hfu:=o5 (nm:=fun x:bP×aS=>x.1) hv Y hok;show if v∈names then _ else _
    have p: (J++G.getD []).lookup (un v)= (names.findIdx? fun x=>x == v).bind fun i=>((J++G.getD [])[i]?).map (·.2):=by
     rw[qk,<-hfu];congr 2;funext x;by_cases q:un v=x.1
     ·rw[q]
     ·rw[qae.mpr q,qae.mpr (Ne.symm q)]
    have C:=yr (n:=v) (l:=names);by_cases hm:v∈names
    ·rw[qab hm];rw[qad hm]at C;obtain⟨i,hi⟩:=dj.mp C;rw[hi,eh]at p;have hil:i < names.length:=(cx.mp hi).1;have hfl:i < (J++G.getD []).length:=by
      have:=qaf cI Y;rw[ah,ah]at this
      lia
     have hti: ((J++G.getD []).map (·.2))[i]? =some ((J++G.getD [])[i]).2:=by rw[bp,bF hfl];rfl
     rw[bF hfl]at p;obtain⟨k,hki,Z⟩:=KTs.at' hkt hti;obtain⟨ka,hka,hkj⟩:=hks.at hki;intro H1 hR1 hF1 _;obtain⟨dx1,p1,h11⟩:=hR1.obj;refine⟨_,rfl,r,dx1,_,rfl,h11,cN,r,l,cd ":",ts1,rfl,by decide+kernel,hR1,?_⟩;unfold cU;cases e:aJ (.sign (cd ":")) ts1 with
     |none=>rw[e]at g;exact fun H'=>g H'
     |some ts2=>
      rw[e]at g;dsimp only at g;have l2:=bT e;intro H2 hR2 hF2;have u:=hF1.trans hF2;have j:Ky H H2:=Ky.of hR u;obtain⟨dk,hdk⟩:=hkf.keep j;have U:=j _ _ id W;have X:=j _ _ id hpa;have hvi:gf (nmd names) (bQ (⟨v.toArray⟩:aQ))=some (.int ((i:Nat):Int)):=by
       unfold nmd;rw[rF,hi];show some (V.int ((0+i:Nat):Int))=_;rw[eM]
      refine⟨_,rfl,_,rfl,_,rfl,a,KC,dk,_,_,rfl,hdk,TK.cl,TK.parts,fY,_,rfl,a,KC,dk,_,_,rfl,hdk,TK.cl,TK.places,gV,_,rfl,pl, .int ((i:Nat):Int),rfl,by rw[<-hvi];exact DGet.k (k:=bQ ⟨v.toArray⟩) U,
       pa,_,_, .ref ka,rfl,rfl,SqL.of X,f8 (by rw[bp,hka];rfl),_,rfl,d,rfl,hd,fun R=>?_,fun R=>?_⟩
      ·rw[qaa R,p]at g;have g4:eQ RC WT r l M ((rv s F (d - 1) ((J++G.getD [])[i]).2 (T ts2)).map fun x=>(JM (un v) x.1,x.2)) H Q E:=g;simp only[ae]at hF;refine⟨r,l,ka,d - 1,ts2,M,tb,s,k,_,F,rfl,by lia,by lia,hR2,hkj.keep j,Z,hTb.keep j,?_,by lia,?_⟩
       ·intro b hb;cases e:H b with
        |none=>exact absurd e (hM b hb)
        |some o=>
         by_cases hbr:b=r
         ·obtain⟨_,_,q⟩:=hR2.obj;rw[hbr,q];simp
         ·rw[u b o (by simpa using hbr) e];simp
       unfold eQ;cases er:rv s F (d - 1) ((J++G.getD [])[i]).2 (T ts2)with
       |none=>rw[er]at g4;exact fun H'=>g4 H'
       |some x=>
        obtain⟨v',q⟩:=x;rw[er]at g4;intro y ts5 H5 hq hy hR5 hF5;refine⟨by show 2<=aO;decide,fun tp O=>?_⟩;have I:=u.trans hF5;have hHt:H tp=none:=wJ hR5 I O;refine g4 _ ts5 _ hq (.one aU (fun z=>hM tp z hHt) hv (hy.move (M':=M) (Fx.new O) fun b hb=> .inl hb)) (hR5.new O) ?_;intro b o nb e;rw[aY (br e hHt)];exact I b o nb e
      ·rw[qab R]at g;exact fun H'=>g H'
    ·rw[qaa hm];have hno: (names.findIdx? fun x=>x == v)=none:=by
      rw[decide_eq_false hm]at C;exact ud.mp (by rw[<-Bp,C];rfl)
     rw[hno]at p;have hg:∀H',E (.ref WT) none H':=by
      cases e:aJ (.sign (cd ":")) ts1 with
      |none=>rw[e]at g;exact fun H'=>g H'
      |some ts2=>
       rw[e]at g;dsimp only at g;by_cases R:d=0
       ·rw[qab R]at g;exact fun H'=>g H'
       ·rw[qaa R,p]at g;exact fun H'=>g H'
     exact hg
end
theorem jN(a b:List Nat): (⟨a.toArray⟩:aQ)++(⟨b.toArray⟩:aQ)= ⟨(a++b).toArray⟩:=TL.ext_tl (by rw[TL.u7])
theorem RAts.at{M:List aa}{H:Hp} :∀ {as:List aa} {l:List (bP×cA)} {i:Nat} {a:aa},RAts M H as l->as[i]? =some a->∃(w:List Nat) (x:V) (v:cA),l[i]? =some (un w,v)/\H a=some (.tup [sv w,x])/\(Tk.word w).ok/\VAt M H x v
 |_,_,i,a, .nil,e=>by simp at e
 |_,_,0,a, .cons (w:=w) (x:=x) (v:=v) h1 h2 h3 h4 h5,e=>by
  have g:_=a:=aB e;exact⟨w,x,v,rfl,g ▸ h1,h3,h4⟩
 |_,_,i+1,a, .cons h1 h2 h3 h4 h5,e=>RAts.at (i:=i) h5 e
theorem VsAt.at{M:List aa}{H:Hp} :∀ {xs:List V} {l:List cA} {i:Nat} {x:V},VsAt M H xs l->xs[i]? =some x->∃v,l[i]? =some v/\VAt M H x v
 |_,_,i,x, .nil,e=>by simp at e
 |_,_,0,x, .cons (v:=v) h1 h2,e=>by
  have g:_=x:=aB e;exact⟨v,rfl,g ▸ h1⟩
 |_,_,i+1,x, .cons h1 h2,e=>VsAt.at (i:=i) h2 e
theorem Gx(S:List Nat)(ls:List (List Nat)):Txt.join (⟨S.toArray⟩:aQ) (ls.map fun l=>(⟨l.toArray⟩:aQ))= ⟨(TL.DE S ls).toArray⟩:=by
 refine TL.ext_tl ?_;rw[TL.join_eq,TL.FS,bV];have e:TL.tl (⟨S.toArray⟩:aQ)=S:=fL S;have g:ls.map (TL.tl∘fun l=>(⟨l.toArray⟩:aQ))=ls:=by
  conv=>rhs;rw[<-m8 ls]
  exact bI fun l _=>fL l
 rw[e,g]
section
variable {P:aZ}{w:bB}{K:PySem.W.Frag}{mg:aQ->Option ag}{base:bH}{KC:aa}
def AU(K:PySem.W.Frag):Sp:=fun vs H Q _=>CL fun(a:aa) (e:List (List Nat))=>vs= [.ref a]/\SqL K H a (e.map sv)/\(brk e).length<=8388608/\Q (sv (brk e)) H
theorem Lb:bf ["items"] ["items"] (aA mi):=fP
theorem tM(D:Df K mg "in_brackets" mi ["items"])(p:mg "len"=none):Ok P w K mg base fh 1 "in_brackets" ["items"] (AU K):=by
 refine D.ok Lb (fun f M A outer s H vs Q E R h=>?_)
 ·obtain⟨a,g,rfl,v,O,k⟩:=h;refine⟨_,aj (bN (bo dR (cJ d5 (by rfl) p PySem.boot_len (ac (pv 0) ao)) cw (bE _)) (aq (bb aX)) bh)
   (aq (bb (fU eI (fU eI aX (Au aX (pv 0))) aX))),?_⟩
  refine⟨_,rfl,a,_,rfl, .inl v,rfl,_,rfl,?_⟩;rw[ah];refine du (fun q=>?_) (fun q=>?_)
  ·have e:g= []:=by
    have:=qac q;injection this with this
    exact lp.mp (by lia)
   subst e;exact k
  ·have e:g≠ []:=fun z=>q (by rw[z];rfl);have S:=rE e;have F:=qj (cd ", ") g e;have J: (cd ", ").length=2:=by decide
   rw[J]at F;have C:∀l:List (List Nat),((l.map fun x=>(⟨x.toArray⟩:aQ)).map (·.length)).sum= (l.map cI).sum:=fun l=>by
    rw[bV];exact qaf List.sum (bI fun x _=>cK x)
   have r:SqL K H a ((g.map fun l=>(⟨l.toArray⟩:aQ)).map V.str):=by rw[bV];exact v
   refine⟨⟨_,rfl⟩,_,rfl,_,a,_,rfl,rfl, .inl r,?_,?_⟩
   ·rw[C,ah,show(ai ", ").length=2 by decide+kernel];lia
   have u:Txt.join (ai ", ") (g.map fun l=>(⟨l.toArray⟩:aQ))= ⟨(TL.DE (cd ", ") g).toArray⟩:=Gx (cd ", ") g;rw[u];have B: (ai "{ ").length=2:=by decide+kernel
   have y: (ai " }").length=2:=by decide+kernel
   have j:aO=16777216:=by decide
   refine⟨_,_,rfl,rfl,by rw[B,cK,j];lia,?_⟩;have I:ai "{ "++(⟨(TL.DE (cd ", ") g).toArray⟩:aQ)= ⟨(cd "{ "++TL.DE (cd ", ") g).toArray⟩:=jN (cd "{ ") _;rw[I];refine⟨_,_,rfl,rfl,by rw[y,cK,au,show(cd "{ ").length=2 by decide,j];lia,?_⟩;have G: (⟨(cd "{ "++TL.DE (cd ", ") g).toArray⟩:aQ)++ai " }"= ⟨(brk g).toArray⟩:=by
    have:=jN (cd "{ "++TL.DE (cd ", ") g) (cd " }");rw[bD]at this;unfold brk;rw[qaa e];exact this
   rw[G];exact k
def zV(e:aa)(n:Nat):Sp:=fun vs H Q _=>Ex8 fun(a:aa) (y:V) (d:Nat) (tb:List (List Nat×aa)) (s:aI) (k:Kd) (t:aS) (v:cA)=>
 vs= [.ref a,y]/\d < n/\d<=64/\KJ e tb H a k/\KT k t/\TbAt e tb H s/\VAt [] H y v/\Ft s d t v/\(tx v).length<=8388608/\∀H',(∀b o,H b=some o->H' b=some o)->Q (sv (tx v)) H'
def zW(e:aa)(n:Nat):Sp:=fun vs H Q _=>KW fun(a g:aa) (y:V) (w:List Nat) (p d:Nat) (tb:List (List Nat×aa)) (s:aI) (k:Kd) (t:aS) (v:cA) (form:aQ) (target:List Nat) (low high:Option Int) (pl:aa) (roots:Nat) (ext:Bool) (pa op:aa) (as:List aa) (names:List (List Nat))=>
 vs= [.ref a,sv w,y]/\d < n/\d<=64/\KfAt e H a form target low high pl roots ext pa op/\H pl=some (.dK (nmd names))/\(names.findIdx? fun x=>x == w)=some p/\H pa=some (.lst (as.map V.ref))/\as[p]? =some g/\
 KJ e tb H g k/\KT k t/\TbAt e tb H s/\VAt [] H y v/\Ft s d t v/\(tx v).length<=8388608/\∀H',(∀b o,H b=some o->H' b=some o)->Q (sv (tx v)) H'
theorem zX:bf ["kind","name","value"] ["kind","name","value"] (aA mK):=fP
theorem wK{n:Nat}(D:Df K mg "told_part" mK ["kind","name","value"])(j:rA K KC)(Y:Ok P w K mg base fh (3*n+2) "told_value" ["kind","value"] (zV KC n)):Ok P w K mg base fh (3*n+2+1) "told_part" ["kind","name","value"] (zW KC n):=by
 refine D.ok zX (fun f X A outer Z H vs Q E G h=>?_)
 ·obtain⟨a,F,y,C,p,d,tb,s,k,t,v,form,target,low,high,pl,roots,ext,pa,op,as,names,rfl,z,hd,⟨I,e⟩,r,O,u,x,W,U,B,S,R,J,g⟩:=h;have M:=qC G;refine⟨_,aq (bb (cy Y G cD (ac (fb fD (cp (pv 0) rfl) (oF M (cp (pv 0) rfl) (pv 1) (fun _ _=>rfl)) (fun _ _=>rfl)) (ac (pv 2) ao)))),?_⟩;have q:gf (nmd names) (bQ (⟨C.toArray⟩:aQ))=some (.int ((p:Nat):Int)):=by
   unfold nmd;rw[rF,O];show some (V.int ((0+p:Nat):Int))=_;rw[eM]
  exact⟨_,rfl,a,KC,I,_,_,rfl,e,j.cl,j.parts,fY,_,rfl,a,KC,I,_,_,rfl,e,j.cl,j.places,gV,_,rfl,pl, .int ((p:Nat):Int),rfl,by rw[<-q];exact DGet.k (k:=bQ ⟨C.toArray⟩) r,
   pa,_,_, .ref F,rfl,rfl,SqL.of u,f8 (by rw[bp,x];rfl),_,rfl,F,y,d,tb,s,k,t,v,rfl,z,hd,W,U,B,S,R,J,g⟩
end
theorem VAt.old{H H':Hp}{y:V}{v:cA}(h:VAt [] H y v)(g:∀b o,H b=some o->H' b=some o):VAt [] H' y v:=h.move (fun b o _ e=>g b o e) fun b j=>by simp at j
theorem Gy{X:Cx}{K':PySem.W.Frag}{e:List c7}{k:Nat}{t:TGs}{n:Nat}{g:lK}(r:X.K=K')(q:X.calm=true)(h:Ko X e t)
  (p: (ku e X.env).length=n:=by rfl) (j: (ku e X.env).findIdx? (·.1)=none:=by rfl):PG X (.Tuple e k g) (Kq K' n t):=by
 rw[<-r];exact Ip q h p j
section
variable {P:aZ}{w:bB}{K:PySem.W.Frag}{mg:aQ->Option ag}{base:bH}{KC:aa}
structure Nmd(KC:aa)(H:Hp)(a:aa)(form:aQ)(tb:List (List Nat×aa))(names:List (List Nat))(parts:List Kd):Prop where
 ex:∃(target:List Nat) (low high:Option Int) (pl:aa) (roots:Nat) (ext:Bool) (pa op:aa) (as:List aa),KfAt KC H a form target low high pl roots ext pa op/\H pl=some (.dK (nmd names))/\H pa=some (.lst (as.map V.ref))/\KJs KC tb H as parts
theorem Nmd.keep{H H':Hp}{a:aa}{form:aQ}{tb:List (List Nat×aa)}{names:List (List Nat)}{parts:List Kd}(h:Nmd KC H a form tb names parts)(e:∀b o,H b=some o->H' b=some o):Nmd KC H' a form tb names parts:=by
 obtain⟨target,low,high,pl,roots,ext,pa,op,as,q,p,j,g⟩:=h.ex;exact⟨target,low,high,pl,roots,ext,pa,op,as,q.keep (Ky.old e),e _ _ p,e _ _ j,g.keep (Ky.old e)⟩
def Lc(g:aa)(n:Nat):Sp:=fun vs H Q _=>zm fun(a c:aa) (y:V) (e:List Nat) (d p:Nat) (tb:List (List Nat×aa)) (s:aI) (k:Kd) (t:aS) (v:cA) (form:aQ) (names:List (List Nat)) (parts:List Kd)=>
 vs= [.ref a, .ref c]/\d < n/\d<=64/\Nmd g H a form tb names parts/\(names.findIdx? fun x=>x == e)=some p/\parts[p]? =some k/\KT k t/\TbAt g tb H s/\H c=some (.tup [sv e,y])/\(Tk.word e).ok/\VAt [] H y v/\Ft s d t v/\(tx (.one (un e) v)).length<=8388608/\∀H',(∀b o,H b=some o->H' b=some o)->Q (sv (tx (.one (un e) v))) H'
theorem wL:bf ["kind","chosen"] ["kind","chosen"] (aA jx):=fP
theorem tN{n:Nat}(D:Df K mg "told_choice" jx ["kind","chosen"])(GP:Ok P w K mg base fh (3*n+2+1) "told_part" ["kind","name","value"] (zW KC n)):Ok P w K mg base fh (3*n+2+1+1) "told_choice" ["kind","chosen"] (Lc KC n):=by
 refine D.ok wL (fun f cdv A outer s0 H vs Q E R h=>?_)
 ·obtain⟨a,c,y,e,d,p,tb,s,k,t,v,form,names,parts,rfl,z,hd,Y,S,U,X,C,B,O,W,G,F,g⟩:=h;refine⟨_,aq (bb (fU eI (fU eI (fb si (pv 1) cw (fun _ _=>rfl)) aX) (cy GP R cD (ac (pv 0) (ac (fb si (pv 1) cw (fun _ _=>rfl)) (ac (fb si (pv 1) cw (fun _ _=>rfl)) ao)))))),?_⟩;rw[IY s O hd G]at F g;have M:e.length+ (tx v).length+2<=8388608:=by rw[au,ae,ae]at F;lia
  have q:aO=16777216:=by decide
  have I: (ai ": ").length=2:=by decide+kernel
  obtain⟨target,low,high,pl,roots,ext,pa,op,as,h1,h2,h3,Z⟩:=Y.ex;obtain⟨J,u,r⟩:=Z.at U;refine⟨_,rfl,c,_,_,sv e,rfl,rfl,SqT.of B,JT _ _,_,_,rfl,rfl,by rw[I,cK,q];lia,?_⟩;refine⟨_,rfl,_,rfl,c,_,_,sv e,rfl,rfl,SqT.of B,JT _ _,_,rfl,c,_,_,y,rfl,rfl,SqT.of B,f8 (j:=1) rfl,?_⟩;refine⟨a,J,y,e,p,d,tb,s,k,t,v,form,target,low,high,pl,roots,ext,pa,op,as,names,rfl,z,hd,h1,h2,S,h3,u,r,X,C,W,G,by lia,fun H' x=>?_⟩;have ea: (⟨e.toArray⟩:aQ)++ai ": "= ⟨(e++cd ": ").toArray⟩:=jN e (cd ": ");rw[ea];refine⟨_,_,rfl,rfl,?_,?_⟩
  ·rw[cK,cK,au,show(cd ": ").length=2 by decide,q];lia
  ·rw[jN,bD];exact g H' x
def Ld(g:aa)(n:Nat):Sp:=fun vs H Q _=>FV fun(a c:aa) (as:List aa) (d:Nat) (tb:List (List Nat×aa)) (s:aI) (form:aQ) (names:List (List Nat)) (parts:List Kd) (e:List eD) (l:List (bP×cA))=>
 vs= [.ref a, .ref c]/\(l≠ []->d < n)/\d<=64/\Nmd g H a form tb names parts/\e.map (·.1)=names.map un/\(∀m∈names,(Tk.word m).ok)/\KTs parts (e.map (·.2.2))/\TbAt g tb H s/\H c=some (.lst (as.map V.ref))/\RAts [] H as l/\
 (∀x∈l,∃(p:Nat) (f:eD),e.findIdx? (fun y=>y.1 == x.1)=some p/\e[p]? =some f/\Ft s d f.2.2 x.2)/\(tx (.row l)).length<=8388608/\∀H',(∀b o,H b=some o->H' b=some o)->Q (sv (tx (.row l))) H'
theorem scToldSequence:bf ["kind","parts","name","value"] ["kind","parts"] (aA fW):=fP
theorem ql{n:Nat}(D:Df K mg "told_sequence" fW ["kind","parts"])(GB:Ok P w K mg base fh 1 "in_brackets" ["items"] (AU K))(GP:Ok P w K mg base fh (3*n+2+1) "told_part" ["kind","name","value"] (zW KC n)):Ok P w K mg base fh (3*n+2+1+1) "told_sequence" ["kind","parts"] (Ld KC n):=by
 refine D.ok scToldSequence (fun f cdv A outer s0 H vs Q E hr h=>?_)
 ·obtain⟨a,c,as,d,tb,s,form,names,parts,AA,l,rfl,hdn,hd,hN,hnm,hok,hkt,hTb,hc,hA,hf,X,g⟩:=h;have hr1:=hr.mono (show 1<=3*n+2+1 by lia);refine⟨_,aq (bb (cy GB hr1 cD (ac (xz (own:= [("name",2),("value",3)]) rfl scToldSequence.nd (rp (pv 1)) (l9 (by show zk ["kind","parts","name","value"] (aA fW) _ _=true;decide+kernel))
   (fun _ _ _ _ _=>Gy (K':=K) (n:=2) rfl rfl (xr (jv (i:=2) scToldSequence.nd rfl (Or.inl rfl)) (xr (jv (i:=3) scToldSequence.nd rfl (Or.inl rfl)) Fy))) (fun _ _ _ _ _=>oE)
   (fun _ _ _ _ _=>fU eI (fU eI (pv 2) aX) (cy GP hr cD (ac (pv 0) (ac (pv 2) (ac (pv 3) ao)))))) ao))),?_⟩
  have et:=IZ s hd (l:=l) fun x F=>by obtain⟨p,f,_,_,q⟩:=hf x F;exact⟨_,q⟩
  rw[et]at X g;generalize J: (l.map fun x=>x.1.map aL++(32::tx x.2))=ls at X g;refine⟨_,rfl,c,rfl,⟨_,SqL.of hc⟩,fun dd S=>?_⟩;have B:aO=16777216:=by decide
  have hll:ls.length=as.length:=by rw[<-J,ah,hA.len]
  refine vW (xs:=as.map V.ref) (Qd:=fun H'=>_) (fun i H'=>(∀b o,H b=some o->H' b=some o)/\H' dd=some (.lst ((ls.take i).map sv))) ⟨fun b o e=>by rw[aY (br e S)];exact e,by rw[aU];rfl⟩
   (fun i H' _ U=>SqL.of (U.1 c _ hc)) (fun i x H' F U=>?_) (fun H' U=>?_)
  ·obtain⟨G,j⟩:=U;rw[bp]at F;obtain⟨ta,I,rfl⟩:∃n,as[i]? =some n/\V.ref n=x:=by
    cases e:as[i]? with
    |none=>rw[e]at F;cases F
    |some y=>rw[e]at F;exact⟨y,rfl,aB F⟩
   obtain⟨r,y,v,M,Y,hw,hV⟩:=hA.at I;have C:=bd M;obtain⟨p,fl,W,q2,q3⟩:=hf _ C;dsimp only at W q3;have hfu:=o5 (nm:=fun x:eD=>x.1) hw hnm hok;rw[hfu]at W;have Z: (AA.map (·.2.2))[p]? =some fl.2.2:=by rw[bp,q2];rfl
   obtain⟨kd,hki,O⟩:=KTs.at' hkt Z;obtain⟨target,low,high,pl,roots,ext,pa,op,ks,h1,h2,h3,h4⟩:=(hN.keep G).ex;obtain⟨ka,hka,hkj⟩:=h4.at hki;have hil:i < as.length:=(aD.mp I).1;have u:ls[i]? =some (r++(32::tx v)):=by
    rw[<-J,bp,M];show some ((un r).map aL++_)=_;rw[iH hw.2.1]
   have hm:r++(32::tx v)∈ls:=bd u;have hml:=AT hm;have hbs:=rE (ls:=ls) (fun z=>by rw[z]at hm;cases hm);have hzl:r.length+ (tx v).length+1<=8388608:=by rw[au,ae]at hml;lia
   refine⟨ta,_,rfl,SqT.of (G ta _ Y),rfl,_,_,rfl,_,_,rfl,rfl,rfl,sD ?_⟩;refine⟨_,rfl,_,_,rfl,rfl,by rw[cK,show(ai " ").length=1 by decide+kernel,B];lia,?_⟩;refine⟨_,rfl,_,rfl,_,rfl,a,ka,y,r,p,d,tb,s,kd,_,v,form,target,low,high,pl,roots,ext,pa,op,ks,names,rfl,hdn (fun z=>by rw[z]at C;cases C),hd,h1,h2,W,h3,hka,hkj,O,hTb.keep (Ky.old G),hV.old G,q3,by lia,fun H2 R=>?_⟩;have ea: (⟨r.toArray⟩:aQ)++ai " "= ⟨(r++cd " ").toArray⟩:=jN r (cd " ");rw[ea];refine⟨_,_,rfl,rfl,?_,?_⟩
   ·rw[cK,cK,au,show(cd " ").length=1 by decide,B];lia
   ·rw[jN,bD];refine⟨_,R _ _ j,?_,fun b o e=>?_,?_⟩
    ·rw[ah,cg,B];have:=hbs
     lia
    ·rw[aY (br e S)];exact R b o (G b o e)
    ·rw[aU,gJ,u,ay];rfl
  ·obtain⟨G,j⟩:=U;rw[ah,<-hll,eV]at j;exact⟨dd,ls,rfl,SqL.of j,X,g H' G⟩
end
theorem rq(z:Int):ai (toString z)= ⟨((jR z).map aL).toArray⟩:=by
 refine TL.ext_tl ?_;rw[TL.HD];show _= (jR z).map aL;have dig:∀n:Nat,((J4 10 n).map fun c=>bW c.toNat).map aL= (J4 10 n).map pc:=fun n=>by
  rw[bV];refine bI fun c g=>?_;have e:=Nat.isDigit_of_mem_toDigits (by decide) (by decide) g;have h:c.toNat<=57:=by
   unfold Char.isDigit at e;rw[bY,decide_eq_true_eq,decide_eq_true_eq]at e;exact e.2
  show(bW c.toNat).toNat=c.toNat;rw[eZ]
  lia
 unfold jR;cases z with
 |ofNat n=>
  show(toString n).toList.map pc=_;rw[show toString n=n.repr from rfl,Hm,qaa (show ¬(Int.ofNat n < 0)from CO.mpr (Int.natCast_nonneg n)),iK];exact(dig n).symm
 |negSucc n=>
  show("-"++toString (n+1)).toList.map pc=_;rw[String.toList_append,show toString (n+1)= (n+1).repr from rfl,Hm,qab (Int.negSucc_lt_zero n),ay,ay];have:=(dig (n+1)).symm;rw[this];rfl
theorem Jb(z:Int):tx (.int z)= (jR z).map aL:=by
 unfold tx;rw[fG];rfl
theorem Gz{X:Cx}{K':PySem.W.Frag}{e:c7}{f:aQ}{h:TE}{g:lK}(q:X.K=K')(j:PE X e h)(p:fI e f X.env (dr e X.env)=dr e X.env):PE X (.Attribute e f g) (Kz K' h f):=q ▸ cp j p
theorem Et{X:Cx}{K':PySem.W.Frag}(e:X.K=K'):KF X (KG K'):=e ▸ fD
theorem Cm:fq "str"=some (.type "str"):=by decide+kernel
section
variable {s:aI}{d:Nat}{v:cA}
theorem nz{t:aS}(h:Ft s d t v):Wr.Fl t v\/∃e,d=e+1/\Wr.Fn s (Ft s e) t v:=by
 cases d with
 |zero=>exact .inl h
 |succ d=>exact h.imp_right fun h=>⟨d,rfl,h⟩
theorem GF(h:Ft s d .bool v):∃b,v= .bool b:=by
 rcases nz h with h| ⟨_,_,h⟩
 ·cases h with|lf _ _ _ h=>cases h<;>exact⟨_,rfl⟩
 ·cases h
theorem GG(h:Ft s d .null v):v= .null:=by
 rcases nz h with h| ⟨_,_,h⟩
 ·cases h with|lf _ _ _ h=>cases h<;>rfl
 ·cases h
theorem Jc{e g:Option Int}(h:Ft s d (.int e g) v):∃z,v= .int z:=by
 rcases nz h with h| ⟨_,_,h⟩
 ·cases h with|lf _ _ _ h=>cases h<;>exact⟨_,rfl⟩
 ·cases h
theorem Eu{a:List bP}{m:Option (List bP)}(h:Ft s d (.names a m) v):∃z,v= .name z:=by
 rcases nz h with h| ⟨_,_,h⟩
 ·cases h with|lf _ _ _ h=>cases h<;>exact⟨_,rfl⟩
 ·cases h
theorem GM{e:Nat}{g:Option Nat}(h:Ft s d (.bits e g) v):∃z,v= .bits z:=by
 rcases nz h with h| ⟨_,_,h⟩
 ·cases h with|lf _ _ _ h=>cases h<;>exact⟨_,rfl⟩
 ·cases h
theorem Cn{e:Nat}{g:Option Nat}(h:Ft s d (.octets e g) v):∃z,v= .octets z:=by
 rcases nz h with h| ⟨_,_,h⟩
 ·cases h with|lf _ _ _ h=>cases h<;>exact⟨_,rfl⟩
 ·cases h
theorem Je{n:bP}(h:Ft s d (.ref n) v):∃j g,d=j+1/\s.lookup n=some g/\Ft s j g v:=by
 rcases nz h with h| ⟨j,e,h⟩
 ·cases h with|lf _ _ _ h=>cases h
 ·cases h with|ref _ g _ h1 h2=>exact⟨j,g,e,h1,h2⟩
theorem Jf{a:List (bP×aS)}{m:Option (List (bP×aS))}(h:Ft s d (.one a m) v):∃p w g j,d=p+1/\v= .one w g/\(a++m.getD []).lookup w=some j/\Ft s p j g:=by
 rcases nz h with h| ⟨p,e,h⟩
 ·cases h with|lf _ _ _ h=>cases h
 ·cases h with|one _ _ w g j h1 h2=>exact⟨p,w,g,j,e,rfl,h1,h2⟩
theorem Jg{a:List eD}{m:Option (List eD)}(h:Ft s d (.row a m) v):∃l,v= .row l/\(l≠ []->d≠0)/\∀x∈l,∃(p:Nat) (f:eD),(a++m.getD []).findIdx? (fun y=>y.1 == x.1)=some p/\(a++m.getD [])[p]? =some f/\Ft s (d - 1) f.2.2 x.2:=by
 rcases nz h with h| ⟨d',rfl,h2⟩
 ·cases h with
  |lf _ _ _ h=>cases h
  |row=>exact⟨[],rfl,by simp,by simp⟩
 ·cases h2 with|row _ _ l h3=>exact⟨l,rfl,fun _=>ik _,h3⟩
theorem GU{e:Nat}{g:Option Nat}{t:aS}(h:Ft s d (.many e g t) v):∃l,v= .many l/\(l≠ []->d≠0)/\∀x∈l,Ft s (d - 1) t x:=by
 rcases nz h with h| ⟨d',rfl,h2⟩
 ·cases h with
  |lf _ _ _ h=>cases h
  |many=>exact⟨[],rfl,by simp,by simp⟩
 ·cases h2 with|many _ _ _ l h3=>exact⟨l,rfl,fun _=>ik _,h3⟩
end
section
variable {P:aZ}{w:bB}{K:PySem.W.Frag}{mg:aQ->Option ag}{base:bH}{KC:aa}
def Jh(e:aa)(n:Nat):Sp:=fun vs H Q _=>KU fun(a c g pa:aa) (xs:List V) (d:Nat) (tb:List (List Nat×aa)) (s:aI) (form:aQ) (target:List Nat) (low high:Option Int) (pl:aa) (roots:Nat) (ext:Bool) (op:aa) (as:List aa) (k:Kd) (t:aS) (l:List cA)=>
 vs= [.ref a, .ref c]/\(l≠ []->d < n)/\d<=64/\KfAt e H a form target low high pl roots ext pa op/\H pa=some (.lst ((g::as).map V.ref))/\KJ e tb H g k/\KT k t/\TbAt e tb H s/\H c=some (.lst xs)/\VsAt [] H xs l/\
 (∀x∈l,Ft s d t x)/\(tx (.many l)).length<=8388608/\∀H',(∀b o,H b=some o->H' b=some o)->Q (sv (tx (.many l))) H'
theorem scToldSequenceOf:bf ["kind","values","value"] ["kind","values"] (aA fc):=fP
theorem mZ{n:Nat}(D:Df K mg "told_sequence_of" fc ["kind","values"])(TK:rA K KC)(GB:Ok P w K mg base fh 1 "in_brackets" ["items"] (AU K))(GV:Ok P w K mg base fh (3*n+2) "told_value" ["kind","value"] (zV KC n)):Ok P w K mg base fh (3*n+2+1) "told_sequence_of" ["kind","values"] (Jh KC n):=by
 refine D.ok scToldSequenceOf (fun f cdv A outer s0 H vs Q E hr h=>?_)
 ·obtain⟨a,c,Z,pa,xs,d,tb,s,form,target,low,high,pl,roots,ext,op,as,k,t,l,rfl,W,hd,U,O,hK,hT,Y,hc,hA,hf,J,g⟩:=h;have M:=hr.mono (show 1<=3*n+2 by lia);refine⟨_,aq (bb (cy GB M cD (ac (xz (own:= [("value",2)]) rfl scToldSequenceOf.nd (rp (pv 1)) (l9 (by show zk ["kind","values","value"] (aA fc) _ _=true;decide+kernel))
   (fun _ _ _ _ _=>jv (i:=2) scToldSequenceOf.nd rfl (Or.inl rfl)) (fun _ _ _ _ _=>oE)
   (fun _ _ _ _ _=>cy GV hr cD (ac (fb (Et (K':=K) rfl) (Gz (K':=K) rfl (pv 0) rfl) cw (fun _ _=>rfl)) (ac (pv 2) ao)))) ao))),?_⟩
  have et:=Gt s hd hf;rw[et]at J g;generalize y:l.map tx=ls at J g;refine⟨_,rfl,c,rfl,⟨_,SqL.of hc⟩,fun dd F=>?_⟩;have I:aO=16777216:=by decide
  have S:ls.length=xs.length:=by rw[<-y,ah,hA.len]
  refine vW (xs:=xs) (Qd:=fun H'=>_) (fun i H'=>(∀b o,H b=some o->H' b=some o)/\H' dd=some (.lst ((ls.take i).map sv))) ⟨fun b o e=>by rw[aY (br e F)];exact e,by rw[aU];rfl⟩
   (fun i H' _ G=>SqL.of (G.1 c _ hc)) (fun i x H' hx G=>?_) (fun H' G=>?_)
  ·obtain⟨q,j⟩:=G;obtain⟨v,B,hV⟩:=hA.at hx;have r:=bd B;obtain⟨dk,X⟩:=U.keep (Ky.old q);have u:=q _ _ O;have p:ls[i]? =some (tx v):=by rw[<-y,bp,B];rfl
   have R:tx v∈ls:=bd p;have hml:=AT R;have hbs:=rE (ls:=ls) (fun z=>by rw[z]at R;cases R);have hil:i < xs.length:=(aD.mp hx).1;refine⟨rfl,sD ?_⟩;refine⟨_,rfl,a,KC,dk,_,_,rfl,X,TK.cl,TK.parts,fY,pa,_,_, .ref Z,rfl,rfl,SqL.of u,JT _ _,_,rfl,Z,x,d,tb,s,k,t,v,rfl,W (fun z=>by rw[z]at r;cases r),hd,hK.keep (Ky.old q),hT,Y.keep (Ky.old q),hV.old q,hf v r,by lia,fun H2 C=>?_⟩;refine⟨_,C _ _ j,?_,fun b o e=>?_,?_⟩
   ·rw[ah,cg,I]
    lia
   ·rw[aY (br e F)];exact C b o (q b o e)
   ·rw[aU,gJ,p,ay];rfl
  ·obtain⟨q,j⟩:=G;rw[<-S,eV]at j;exact⟨dd,ls,rfl,SqL.of j,J,g H' q⟩
structure Td(P:aZ)(w:bB)(K:PySem.W.Frag)(mg:aQ->Option ag)(base:bH)(KC:aa):Prop where
 ts:D2 K mg
 tk:rA K KC
 str_:mg "str"=none
 dvalue:Df K mg "told_value" nT ["kind","value"]
 dpart:Df K mg "told_part" mK ["kind","name","value"]
 drow:Df K mg "told_sequence" fW ["kind","parts"]
 dmany:Df K mg "told_sequence_of" fc ["kind","values"]
 done:Df K mg "told_choice" jx ["kind","chosen"]
 brks:Ok P w K mg base fh 1 "in_brackets" ["items"] (AU K)
theorem scToldValue:bf ["kind","value","form"] ["kind","value"] (aA nT):=fP
theorem yf'{x y:aQ}(h:x=y):decide (V.str x=V.str y)=true:=qad (by rw[h])
theorem nA(B:Td P w K mg base KC):∀n:Nat,Ok P w K mg base fh (3*n+2) "told_value" ["kind","value"] (zV KC n)
 |0=>by
  refine B.dvalue.ok scToldValue (fun fa cdv A outer s0 H vs Q E hr h=>?_)
  ·obtain⟨a,y,d,tb,s,k,t,v,rfl,hd,_⟩:=h;exact absurd hd (mC _)
 |n+1=>by
  have GV:=nA B n;have GP:=wK B.dpart B.tk GV;have G1:=ql B.drow B.brks GP;have G2:=mZ B.dmany B.tk B.brks GV;have G3:=tN B.done GP;refine B.dvalue.ok (k:=3*n+2+1+1) scToldValue (fun fa cdv A outer s0 H vs Q E hr h=>?_)
  ·obtain⟨a,y,d,tb,s,k,t,v,rfl,hdn,hd,M,hT,I,R,J,hz,g⟩:=h;have hr0:=hr.mono (show 3*n+2<=3*n+2+1+1 by lia);have hr1:=hr.mono (show 3*n+2+1<=3*n+2+1+1 by lia);refine⟨_,aj (bR (i:=2) scToldValue.nd rfl (Or.inl rfl) (cp (pv 0) rfl))
    (aj (bN (bo dR (pv 2) (ek B.ts.named) (bE _)) (aq (bb (cy GV hr0 cD (ac (fb fD (cp (pv 0) rfl) cw (fun _ _=>rfl)) (ac (pv 1) ao))))) bh)
    (aj (bN (bo dR (pv 2) aX (bE _)) (aq (bb (jX (cB (pv 1)) aX aX))) bh)
    (aj (bN (bo dR (pv 2) aX (bE _)) (aq (bb aX)) bh)
    (aj (bN (bo dR (pv 2) aX (bE _)) (aq (bb (uV vQ (by rfl) B.str_ Cm (ac (pv 1) ao)))) bh)
    (aj (bN (bo dR (pv 2) aX (bE _)) (aq (bb (fU eI (fU eI aX (pv 1)) aX))) bh)
    (aj (bN (bo dR (pv 2) aX (bE _)) (aq (bb (fU eI (fU eI aX (pv 1)) aX))) bh)
    (aj (bN (bo dR (pv 2) aX (bE _)) (aq (bb (cy G1 hr cD (ac (pv 0) (ac (pv 1) ao))))) bh)
    (aj (bN (bo dR (pv 2) (ek B.ts.seqof) (bE _)) (aq (bb (cy G2 hr1 cD (ac (pv 0) (ac (pv 1) ao))))) bh)
    (aj (bN (bo dR (pv 2) aX (bE _)) (aq (bb (cy G3 hr cD (ac (pv 0) (ac (pv 1) ao))))) bh)
    (aq (bb (pv 1)))))))))))),?_⟩
   have old:∀b o,H b=some o->H b=some o:=fun b o e=>e;have O:aO=16777216:=by decide
   cases hT with
   |named tw hw=>
    obtain⟨pl,pa,op,b,⟨D,j⟩,r,W⟩:=M.inv_nm;obtain⟨t2,k2,hs2,hk2,a0⟩:=I tw b hw W;obtain⟨d',t',rfl,Z,h2⟩:=Je J;rw[hs2]at Z;cases Z;refine⟨_,rfl,a,KC,D,_,_,rfl,j,B.tk.cl,B.tk.form,dF,?_⟩;refine⟨_,rfl,rfl,_,rfl,du (fun _=>?_) (fun Y=>absurd (yf' rfl) Y)⟩;exact⟨_,rfl,a,KC,D,_,_,rfl,j,B.tk.cl,B.tk.parts,fY,pa,_,_, .ref b,rfl,rfl,SqL.of r,JT _ _,_,rfl,b,y,d',tb,s,k2,t2,v,rfl,by lia,by lia,hk2,a0,I,R,h2,hz,g⟩
   |bool=>
    obtain⟨pl,u,op,as,⟨D,j⟩,F,r,_,C⟩:=M.inv (by decide+kernel);refine⟨_,rfl,a,KC,D,_,_,rfl,j,B.tk.cl,B.tk.form,dF,?_⟩;obtain⟨b,rfl⟩:=GF J;cases R;rw[Gm]at g;refine gL rfl (by decide+kernel) ?_;refine fS rfl (by decide+kernel) ?_;refine⟨_,rfl,_,rfl,?_⟩;cases b with
    |true=>exact d9 (g H old)
    |false=>exact eC (g H old)
   |null=>
    obtain⟨pl,u,op,as,⟨D,j⟩,F,r,_,C⟩:=M.inv (by decide+kernel);refine⟨_,rfl,a,KC,D,_,_,rfl,j,B.tk.cl,B.tk.form,dF,?_⟩;obtain rfl:=GG J;rw[Gn]at g;iterate 2 refine gL rfl (by decide+kernel) ?_
    refine fS rfl (by decide+kernel) ?_;exact g H old
   |int lo hi=>
    obtain⟨pl,u,op,as,⟨D,j⟩,F,r,_,C⟩:=M.inv (by decide+kernel);refine⟨_,rfl,a,KC,D,_,_,rfl,j,B.tk.cl,B.tk.form,dF,?_⟩;obtain⟨z,rfl⟩:=Jc J;cases R with
    |int _ b1 b2=>
    rw[Jb]at g;iterate 3 refine gL rfl (by decide+kernel) ?_
    refine fS rfl (by decide+kernel) ?_;have S:dC=9223372036854775808:=by decide+kernel
    rw[S]at b1 b2;refine⟨_,rfl,z,rfl,?_,?_⟩
    ·refine bK ?_ (show 63 < 1920 by decide);by_cases h0:z.natAbs=0
     ·rw[h0];decide
     ·have:z.natAbs < 2 ^ 64:=by have: (2:Nat) ^ 64=18446744073709551616:=(by decide);lia
      have:=(Nat.log2_lt h0).mpr this
      lia
    ·rw[rq];exact g H old
   |bits lo hi hz'=>
    obtain⟨pl,u,op,as,⟨D,j⟩,F,r,_,C⟩:=M.inv (by decide+kernel);refine⟨_,rfl,a,KC,D,_,_,rfl,j,B.tk.cl,B.tk.form,dF,?_⟩;obtain⟨z,rfl⟩:=GM J;cases R with
    |bits ll hb=>
    rw[Gq hb]at g;iterate 4 refine gL rfl (by decide+kernel) ?_
    refine fS rfl (by decide+kernel) ?_;have l1: (ai "'").length=1:=by decide+kernel
    have l2: (ai "'B").length=2:=by decide+kernel
    have hll:=hb.2.1;refine⟨_,rfl,_,_,rfl,rfl,by rw[l1,cK,O];lia,?_⟩;have ea:ai "'"++(⟨ll.toArray⟩:aQ)= ⟨([39]++ll).toArray⟩:=jN [39] ll;rw[ea];refine⟨_,_,rfl,rfl,by rw[l2,cK,au,O];simp;lia,?_⟩;have S: (⟨([39]++ll).toArray⟩:aQ)++ai "'B"= ⟨(([39]++ll)++ [39,66]).toArray⟩:=jN ([39]++ll) [39,66];rw[S];exact g H old
   |octets lo hi hz'=>
    obtain⟨pl,u,op,as,⟨D,j⟩,F,r,_,C⟩:=M.inv (by decide+kernel);refine⟨_,rfl,a,KC,D,_,_,rfl,j,B.tk.cl,B.tk.form,dF,?_⟩;obtain⟨z,rfl⟩:=Cn J;cases R with
    |octs ll hb=>
    rw[Gs hb]at g;iterate 5 refine gL rfl (by decide+kernel) ?_
    refine fS rfl (by decide+kernel) ?_;have l1: (ai "'").length=1:=by decide+kernel
    have l2: (ai "'H").length=2:=by decide+kernel
    have hll:=hb.2.1;refine⟨_,rfl,_,_,rfl,rfl,by rw[l1,cK,O];lia,?_⟩;have ea:ai "'"++(⟨ll.toArray⟩:aQ)= ⟨([39]++ll).toArray⟩:=jN [39] ll;rw[ea];refine⟨_,_,rfl,rfl,by rw[l2,cK,au,O];simp;lia,?_⟩;have S: (⟨([39]++ll).toArray⟩:aQ)++ai "'H"= ⟨(([39]++ll)++ [39,72]).toArray⟩:=jN ([39]++ll) [39,72];rw[S];exact g H old
   |enum na nb ext Z h2=>
    obtain⟨pl,u,op,as,⟨D,j⟩,F,r,_,C⟩:=M.inv (by decide+kernel);refine⟨_,rfl,a,KC,D,_,_,rfl,j,B.tk.cl,B.tk.form,dF,?_⟩;obtain⟨z,rfl⟩:=Eu J;cases R with
    |name wd hw=>
    rw[Go hw]at g;iterate 9 refine gL rfl (by decide+kernel) ?_
    exact⟨_,rfl,g H old⟩
   |many lo hi k' t' hz' G=>
    obtain⟨pl,u,op,as,⟨D,j⟩,F,r,_,C⟩:=M.inv (by decide+kernel);refine⟨_,rfl,a,KC,D,_,_,rfl,j,B.tk.cl,B.tk.form,dF,?_⟩;obtain⟨l,rfl,X,hl⟩:=GU J;cases R with
    |many Y _ hA=>
    cases C with
    |cons hk0 hks0=>
    iterate 7 refine gL rfl (by decide+kernel) ?_
    refine fS rfl (by decide+kernel) ?_;exact⟨_,rfl,_,rfl,a,_,_,u,_,d - 1,tb,s,_,_,lo,hi,pl,_,_,op,_,k',t',l,rfl,fun z=>by have:=X z;lia,by lia,⟨D,j⟩,r,hk0,G,I,Y,hA,hl,hz,g⟩
   |one na nb ext pa pb al bl h0 Z h2 h3 h4 h5=>
    obtain⟨pl,u,op,as,⟨D,j⟩,F,r,_,C⟩:=M.inv (by decide+kernel);refine⟨_,rfl,a,KC,D,_,_,rfl,j,B.tk.cl,B.tk.form,dF,?_⟩;have S: (if ext=true then some bl else none).getD []=bl:=by
     cases ext with
     |true=>rfl
     |false=>rw[(h0 rfl).2.2];rfl
    obtain⟨d',w',v',t',rfl,rfl,q1,q2⟩:=Jf J;rw[S]at q1;cases R with
    | @one ta wd y' _ Y _ hw hV'=>
    have U: (al++bl).map (·.1)= (na++nb).map un:=by rw[ay,ay];exact congr (qaf _ Z) h2
    have hfu:=o5 (nm:=fun x:bP×aS=>x.1) hw U h5;have W: (al++bl).lookup (un wd)= ((na++nb).findIdx? fun x=>x == wd).bind fun i=>((al++bl)[i]?).map (·.2):=by
     rw[qk,<-hfu];congr 2;funext x;by_cases q:un wd=x.1
     ·rw[q]
     ·rw[qae.mpr q,qae.mpr (Ne.symm q)]
    rw[W]at q1;obtain⟨p,hp,q3⟩:=dW.mp q1;have hti: ((al++bl).map (·.2))[p]? =some t':=by rw[bp];exact q3
    have G:KTs (pa++pb) ((al++bl).map (·.2)):=by rw[ay];exact KTs.app h3 h4
    obtain⟨kd,hki,a1⟩:=KTs.at' G hti;iterate 8 refine gL rfl (by decide+kernel) ?_
    refine fS rfl (by decide+kernel) ?_;exact⟨_,rfl,_,rfl,a,ta,y',wd,d',p,tb,s,kd,t',v',_,na++nb,pa++pb,rfl,by lia,by lia,⟨_,_,_,pl,_,_,u,op,as,⟨D,j⟩,F,r,C⟩,hp,hki,a1,I,Y,hw,hV',q2,hz,g⟩
   |row na nb ext pa pb al bl h0 Z h2 h3 h4 h5=>
    obtain⟨pl,u,op,as,⟨D,j⟩,F,r,_,C⟩:=M.inv (by decide+kernel);refine⟨_,rfl,a,KC,D,_,_,rfl,j,B.tk.cl,B.tk.form,dF,?_⟩;have S: (if ext=true then some bl else none).getD []=bl:=by
     cases ext with
     |true=>rfl
     |false=>rw[(h0 rfl).2.2];rfl
    obtain⟨l,rfl,X,hl⟩:=Jg J;rw[S]at hl;cases R with
    |row Y _ hA=>
    have U: (al++bl).map (·.1)= (na++nb).map un:=by rw[ay,ay];exact congr (qaf _ Z) h2
    have G:KTs (pa++pb) ((al++bl).map (·.2.2)):=by rw[ay];exact KTs.app h3 h4
    iterate 6 refine gL rfl (by decide+kernel) ?_
    refine fS rfl (by decide+kernel) ?_;exact⟨_,rfl,_,rfl,a,_,_,d - 1,tb,s,_,na++nb,pa++pb,al++bl,l,rfl,fun z=>by have:=X z;lia,by lia,⟨_,_,_,pl,_,_,u,op,as,⟨D,j⟩,F,r,C⟩,U,h5,G,I,Y,hA,hl,hz,g⟩
end
theorem Co:fq "ord"=some (.builtin "ord"):=by decide+kernel
section
variable {P:aZ}{w:bB}{K:PySem.W.Frag}{mg:aQ->Option ag}{base:bH}{KC:aa}
def qQ(e:aa):Sp:=fun vs H Q _=>FU fun(a:aa) (y:V) (tb:List (List Nat×aa)) (s:aI) (k:Kd) (t:aS) (v:cA)=>
 vs= [.ref a,y]/\KJ e tb H a k/\KT k t/\TbAt e tb H s/\VAt [] H y v/\Ft s 64 t v/\(tx v).length<=8388608/\∀(p:aa) (H':Hp),H' p=some (.lst ((tx v).map fun(n:Nat)=>V.int (n:Int)))->(∀b o,H b=some o->H' b=some o)->Q (.ref p) H'
theorem scToldBytes:bf ["kind","value","letter"] ["kind","value"] (aA kL):=fP
theorem uC(D:Df K mg "told_bytes" kL ["kind","value"])(q:mg "ord"=none)(B:Td P w K mg base KC):Ok P w K mg base fh 198 "told_bytes" ["kind","value"] (qQ KC):=by
 have W:=nA B 65;refine D.ok (k:=197) scToldBytes (fun f U A outer X H vs Q E G h=>?_)
 ·obtain⟨a,y,tb,s,k,t,v,rfl,S,R,x,O,J,F,g⟩:=h;refine⟨_,aq (bb (xz (own:= [("letter",2)]) rfl scToldBytes.nd (DD (cy W G cD (ac (pv 0) (ac (pv 1) ao)))) (l9 (by show zk ["kind","value","letter"] (aA kL) _ _=true;decide+kernel)) (fun _ _ _ _ _=>jv (i:=2) scToldBytes.nd rfl (Or.inl rfl)) (fun _ _ _ _ _=>oE)
   (fun _ _ _ _ _=>cJ Dq (by rfl) q Co (ac (pv 2) ao)))),?_⟩
  refine⟨_,rfl,_,rfl,a,y,64,tb,s,k,t,v,rfl,by decide,by decide,S,R,x,O,J,F,fun H1 p=>?_⟩;refine⟨_,rfl,fun d hd=>?_⟩;refine DN (Qd:=fun H'=>_) (fun i H'=>(∀b o,H b=some o->H' b=some o)/\H' d=some (.lst (((tx v).take i).map fun(n:Nat)=>V.int (n:Int)))) ⟨fun b o e=>by rw[aY (br (p b o e) hd)];exact p b o e,by rw[aU];rfl⟩ (fun i c H' u C=>?_) (fun H' C=>?_)
  ·rw[fL]at u;obtain⟨r,j⟩:=C;have I:i < (tx v).length:=(aD.mp u).1;refine⟨rfl,sD ?_⟩;refine⟨_,rfl,_,rfl,rfl,_,j,?_,fun b o e=>?_,?_⟩
   ·rw[ah,cg];exact bK (show min i (tx v).length<=8388608 by lia) (by decide)
   ·have M:b≠d:=fun z=>by rw[<-z,p b o e]at hd;cases hd
    rw[aY M];exact r b o e
   ·rw[aU,gJ,u,ay];rfl
  ·obtain⟨r,j⟩:=C;rw[fL,eV]at j;exact g d H' j r
end
theorem KTs.len':∀ {e:List Kd} {ts:List aS},Sp.KTs e ts->e.length=ts.length
 |_,_, .nil=>rfl
 |_,_, .cons _ b=>by rw[ae,ae,KTs.len' b]
theorem Ji(s:aI)(k d:Nat)(a:List eD)(n i:Nat)(acc:List (bP×cA)){ts:List Tk}(g:Oks ts):rrow s (k+1) d a n i acc (T ts)=match jC acc.length ts with
  |none=>none
  |some (false,r)=>if gw a i (if n < i then a.length else n)then some (.row acc,T r)else none
  |some (true, .word w::r)=>nh s k d a n i acc (un w) (T r)
  |some (true,_)=>none:=by
 rw[iQ];cases e:aJ (.sign (cd "}")) ts with
 |some r=>
  rw[jD e,bL e];show(match(jt (un (cd "}"))::T r)with
   | .sign [125]::r=>if gw a i (if n < i then a.length else n)then some (JN acc,r)else none
   |l=>match item acc.isEmpty l with
    |some (.word w::r)=>nh s k d a n i acc w r
    |_=>none)=_
  rw[yq];rfl
 |none=>
  have h:=Ep g acc.length acc.isEmpty (by cases acc<;>simp) e;split
  ·rename_i r p;exact absurd p (vC (by decide) g e r)
  ·rw[h];cases j:jC acc.length ts with
   |none=>rfl
   |some x=>
    obtain⟨b,r⟩:=x;have:=(lj e j).1;dsimp only at this;subst this;cases r with
    |nil=>rfl
    |cons t r=>cases t<;>rfl
theorem Ev(s:aI)(k d:Nat)(a:List eD)(m:Option (List eD))(r:List az):rv s (k+1) d (.row a m) (.sign [123]::r)=rrow s k d (a++m.getD []) a.length 0 [] r:=by rw[py];rfl
theorem Cp(s:aI)(k d:Nat)(a:List eD)(m:Option (List eD)){l:List az}(h:∀r,l≠ .sign [123]::r):rv s (k+1) d (.row a m) l=none:=by
 rw[py];split
 ·rename_i r;exact absurd rfl (h r)
 ·rfl
theorem Jj{v:aa}{H H':Hp}{r l:aa}{ts:List Tk}{M:List aa}(p:∀b∈M,H b≠none)(u:Fx [r] H H')(j:RdAt v H' r l ts):∀b∈M,H' b≠none:=fun b h=>by
 cases e:H b with
 |none=>exact absurd e (p b h)
 |some o=>
  by_cases g:b=r
  ·obtain⟨_,_,q⟩:=j.obj;rw[g,q];simp
  ·rw[u b o (by simpa using g) e];simp
section
variable {P:aZ}{w:bB}{K:PySem.W.Frag}{mg:aQ->Option ag}{base:bH}{WT RC KC:aa}
def spRS(h p j:aa)(n:Nat):Sp:=fun vs H Q E=>zm fun(r l a:aa) (d:Nat) (ts:List Tk) (M:List aa) (tb:List (List Nat×aa)) (s:aI) (names:List (List Nat)) (ext:Bool) (parts:List Kd) (e:List eD) (g:Option (List eD)) (F:Nat)=>
 vs= [.ref r, .ref a, .int ((64 - d:Nat):Int)]/\d < n+1/\d<=64/\RdAt h H r l ts/\KJ j tb H a (.mk "SEQUENCE" [] none none names e.length ext parts ((e++g.getD []).map (·.2.1)))/\(e++g.getD []).map (·.1)=names.map un/\KTs parts ((e++g.getD []).map (·.2.2))/\(∀m∈names,(Tk.word m).ok)/\
 TbAt j tb H s/\(∀b∈M,H b≠none)/\2*d+ts.length+1<=F+1/\eQ h p r l M (rv s (F+1) d (.row e g) (T ts)) H Q E
theorem scReadSequence:bf ["reader","kind","depth","parts","behind","name","place"] ["reader","kind","depth"] (aA hL):=fP
theorem qm{n:Nat}(D:Df K mg "read_sequence" hL ["reader","kind","depth"])(T0:Txt K mg WT)(TR:mO K RC)(TK:rA K KC)(GNS:gy P w K mg base (cE P w) 4 RC "needs_sign" ["self","sign"] (df RC WT))(GI:Ok P w K mg base (cE P w) 5 "next_item" ["reader","count"] (li RC WT))
  (GN:Ok P w K mg base (cE P w) 3 "read_name" ["reader","kind"] (lh RC WT KC)) (GL:Ok P w K mg base (cE P w) 1 "check_left_out" ["kind","start","end"] (jh WT KC))
  (GD:Ok P w K mg base (cE P w) 1 "deeper" ["depth"] (mx WT)) (GV:Ok P w K mg base (cE P w) (2*n+6) "read_value" ["reader","kind","depth"] (spV RC WT KC n)):
  Ok P w K mg base (cE P w) (2*n+6+1) "read_sequence" ["reader","kind","depth"] (spRS RC WT KC n):=by
 refine D.okX scReadSequence (fun fa cdv A outer s0 H vs Q E hr h=>?_)
 ·obtain⟨r,l,a,d,ts,M,tb,s,names,ext,parts,fl,mo,F,rfl,hdn,hd,hR,hK,hnm,hkt,hok,hTb,hM,hF,g⟩:=h;have hr1:=hr.mono (show 1<=2*n+6 by lia);have hr3:=hr.mono (show 3<=2*n+6 by lia);have hr4:=hr.mono (show 4<=2*n+6 by lia);have hr5:=hr.mono (show 5<=2*n+6 by lia);have hu:=qC hr;refine⟨_,aj (cb (cT GNS TR.cl hr4 aP (pv 0) (ac aX ao)))
   (aj (bR (i:=3) scReadSequence.nd rfl (Or.inl rfl) (iq ao))
   (aj (bR (i:=4) scReadSequence.nd rfl (Or.inl rfl) cw)
   (aj (ic ma (cB (cy GI hr5 aP (ac (pv 0) (ac (cJ d5 (by rfl) T0.len PySem.boot_len (ac (pv 3) ao)) ao))))
    (aj (bR (i:=5) scReadSequence.nd rfl (Or.inl rfl) (cy GN hr3 aP (ac (pv 0) (ac (pv 1) ao))))
    (aj (bR (i:=6) scReadSequence.nd rfl (Or.inl rfl) (oF hu (cp (pv 1) rfl) (pv 5) (fun _ _=>rfl)))
    (aj (cb (cy GL hr1 aP (ac (pv 1) (ac (pv 4) (ac (pv 6) ao)))))
    (aj (cb (lv PySem.F.plainAttrs_list PySem.F.slot_list_append PySem.F.type_list_append gk (pv 3) (ac (kA (ac (pv 5) (ac (cy GV hr aP (ac (pv 0) (ac (fb fD (cp (pv 1) rfl) (pv 6) (fun _ _=>rfl)) (ac (cy GD hr1 aP (ac (pv 2) ao)) ao)))) ao))) ao)))
    (aq (bR (i:=4) scReadSequence.nd rfl (Or.inl rfl) (fU lX (pv 6) cw))))))))
   (aj (cb (cy GL hr1 aP (ac (pv 1) (ac (pv 4) (ac (jX (bo lY (pv 4) (cp (pv 1) rfl) (bE _)) (cJ d5 (by rfl) T0.len PySem.boot_len (ac (cp (pv 1) rfl) ao)) (cp (pv 1) rfl)) ao)))))
   (aq (bb (pv 3))))))),?_⟩
  obtain⟨dx,p,h1⟩:=hR.obj;refine⟨_,rfl,r,dx,_,rfl,h1,cN,r,l,cd "{",ts,rfl,by decide+kernel,hR,?_⟩;generalize hAA:fl++mo.getD []=AA at hK hnm hkt;have hNl:names.length=AA.length:=by have:=qaf cI hnm;rw[ah,ah]at this;lia
  have hPl:parts.length=AA.length:=by have:=KTs.len' hkt;rw[ah]at this;exact this
  have hfl:fl.length<=AA.length:=by rw[<-hAA,au];lia
  unfold cU;cases e0:aJ (.sign (cd "{")) ts with
  |none=>
   rw[Cp s F d fl mo (vC (by decide) hR.oks e0)]at g;exact fun H'=>g H'
  |some ts1=>
   rw[bL e0,Er,Ev,hAA]at g;have l0:=bT e0;intro H1 hR1 hF1;refine⟨by decide,fun u hva=>?_⟩;have I:H u=none:=wJ hR1 hF1 hva;have hR2:RdAt RC (dJ H1 u (.lst [])) r l ts1:=hR1.new hva;have hF2:Fx [r] H (dJ H1 u (.lst [])):=fun b o nb e=>by rw[aY (br e I)];exact hF1 b o nb e
   refine whl (fun m σ' H'=>∃(acc:List (bP×cA)) (as:List aa) (ts':List Tk) (i:Nat) (o1 o2:Option V),σ'= [some (.ref r),some (.ref a),some (.int ((64 - d:Nat):Int)),some (.ref u),some (.int (i:Int)),o1,o2]/\RdAt RC H' r l ts'/\H' u=some (.lst (as.map V.ref))/\RAts (r::u::M) H' as acc/\Fx [r] H H'/\acc.length+ts'.length<=65536/\2*d+ts'.length+1<=m/\i<=AA.length/\
    eQ RC WT r l M (rrow s m d AA fl.length i acc (T ts')) H Q E)
    F ⟨[], [],ts1,0,none,none,rfl,hR2,aU, .nil,hF2,by have:=hR1.few;simp;lia,by lia,cr _,g⟩ ?_
   rintro m σ' H3 ⟨acc,as,ts3,i,o1,o2,rfl,hR3,hv3,hV3,hF3,hz3,hm3,hi3,g3⟩ Y0 X0 hY hX;match m,hY,hm3 with
   |0,_,hm3=>lia
   |m+1,hY,hm3=>
   rw[Ji s m d AA fl.length i acc hR3.oks]at g3;have hxl:=hV3.len;refine⟨_,rfl,_,rfl,u,_,rfl, .inl (SqL.of hv3),r,l,ts3,acc.length,by rw[ah,hxl];rfl,hR3,?_⟩;unfold mn;cases em:jC acc.length ts3 with
   |none=>rw[em]at g3;exact fun H'=>g3 H'
   |some x=>
    obtain⟨b,S⟩:=x;rw[em]at g3;intro H4 Z hF4;have R:=hF3.trans hF4;have hvr:u≠r:=fun z=>by obtain⟨_,_,q⟩:=hR3.obj;rw[z,q]at hv3;cases hv3
    have hv4:=hF4 u _ (by simpa using hvr) hv3;have ky4:Ky H H4:=Ky.of hR R;have upM:∀ {X Y:Hp},Fx [r] X Y->Fx (r::u::M) X Y:=fun h=>h.mono (by simp);have hV4:RAts (r::u::M) H4 as acc:=hV3.move (upM hF4) (fun b G=> .inl G);obtain⟨pl,pa,op,ks,hkf,hpl,hpa,hop,hks⟩:=(hK.keep ky4).inv (by decide+kernel);have a7:=hks.len;cases b with
    |false=>
     refine⟨_,rfl,eC (hX _ ?_)⟩;have j:eQ RC WT r l M (if gw AA i (if fl.length < i then AA.length else fl.length)then some (JN acc,T S)else none) H Q E:=g3;obtain⟨dk,C⟩:=hkf;refine⟨_,rfl,_,rfl,_,rfl,_,rfl,a,KC,dk,_,_,rfl,C,TK.cl,TK.roots,sN,_,_,rfl,rfl,_,rfl,?_⟩;refine du (fun hc=>?_) (fun hc=>?_)
     ·have hi:fl.length < i:=by have:=qac hc;lia
      rw[qab hi]at j;refine⟨_,rfl,a,KC,dk,_,_,rfl,C,TK.cl,TK.parts,fY,pa,_,rfl, .inl (SqL.of hpa),?_⟩;refine⟨a,i,AA.length,_,_,_,_,pl,_,_,pa,op,AA.map (·.2.1),by rw[ah,a7,hPl];rfl,⟨dk,C⟩,hop,by rw[ah];exact hi3,by rw[ah];lia,fun O=>?_,fun O=>?_⟩
      ·rw[qab ((iW AA i _).mp O)]at j;exact⟨_,rfl,j _ S H4 rfl (.row hv4 (fun z=>hM u z I) (hV4.move (H':=H4) Fx.refl fun b G=> .inl (by simp[G]))) Z R⟩
      ·rw[qaa (fun q=>by rw[(iW AA i _).mpr q]at O;cases O)]at j;exact fun H'=>j H'
     ·have hi:¬fl.length < i:=fun z=>hc (qad (by lia));rw[qaa hi]at j;refine⟨_,rfl,a,KC,dk,_,_,rfl,C,TK.cl,TK.roots,sN,?_⟩;refine⟨a,i,fl.length,_,_,_,_,pl,_,_,pa,op,AA.map (·.2.1),rfl,⟨dk,C⟩,hop,by rw[ah];exact hi3,by rw[ah];lia,fun O=>?_,fun O=>?_⟩
      ·rw[qab ((iW AA i _).mp O)]at j;exact⟨_,rfl,j _ S H4 rfl (.row hv4 (fun z=>hM u z I) (hV4.move (H':=H4) Fx.refl fun b G=> .inl (by simp[G]))) Z R⟩
      ·rw[qaa (fun q=>by rw[(iW AA i _).mpr q]at O;cases O)]at j;exact fun H'=>j H'
    |true=>
     refine⟨_,rfl,d9 (hY _ fun N0 R0 B0 hN hR0=>?_)⟩;refine⟨_,rfl,_,rfl,r,l,a,S,_,_,_,_,pl,_,_,pa,op,names,rfl,Z,hkf,hpl,?_⟩;have lt4:S.length<=ts3.length:=by
      cases ec:aJ (.sign (cd "}")) ts3 with
      |none=>exact(lj ec em).2
      |some r'=>rw[jD ec]at em;cases em
     cases S with
     |nil=>exact fun H'=>g3 H'
     |cons t4 ts5=>
      cases t4 with
      |num z=>exact fun H'=>g3 H'
      |bits z=>exact fun H'=>g3 H'
      |octs z=>exact fun H'=>g3 H'
      |sign z=>exact fun H'=>g3 H'
      |word v=>
       have hv: (Tk.word v).ok:=Z.oks.head;rw[ae]at lt4;have j:eQ RC WT r l M (nh s m d AA fl.length i acc (un v) (T ts5)) H Q E:=g3;unfold nh at j;have hfu:=o5 (nm:=fun x:eD=>x.1) hv hnm hok;rw[hfu]at j;have hfm:=yr (n:=v) (l:=names);show if v∈names then _ else _
       by_cases hm:v∈names
       ·rw[qab hm];rw[qad hm]at hfm;obtain⟨p,hp⟩:=dj.mp hfm;have hpn:p < names.length:=(cx.mp hp).1;have hpA:p < AA.length:=by lia
        rw[hp]at j;dsimp only at j;rw[bF hpA]at j;dsimp only at j;have hti: (AA.map (·.2.2))[p]? =some (AA[p]).2.2:=by rw[bp,bF hpA];rfl
        obtain⟨kd,hki,a6⟩:=KTs.at' hkt hti;obtain⟨ka,hka,hkj⟩:=hks.at hki;intro H5 hR5 hF5 _;have a1:=R.trans hF5;have U:Ky H4 H5:=Ky.of Z hF5;have hv5:=hF5 u _ (by simpa using hvr) hv4;obtain⟨dk,C⟩:=hkf.keep U;have a2:=U _ _ id hpl;have a3:=U _ _ id hpa;have a4:=U _ _ id hop;have hV5:=hV4.move (upM hF5) (fun b G=> .inl G);have hvi:gf (nmd names) (bQ (⟨v.toArray⟩:aQ))=some (.int ((p:Nat):Int)):=by
         unfold nmd;rw[rF,hp];show some (V.int ((0+p:Nat):Int))=_;rw[eM]
        refine⟨_,rfl,a,KC,dk,_,_,rfl,C,TK.cl,TK.places,gV,_,rfl,pl, .int ((p:Nat):Int),rfl,by rw[<-hvi];exact DGet.k (k:=bQ ⟨v.toArray⟩) a2,?_⟩;refine⟨_,rfl,_,rfl,_,rfl,a,i,p,_,_,_,_,pl,_,_,pa,op,AA.map (·.2.1),rfl,⟨dk,C⟩,a4,by rw[ah];exact hi3,by rw[ah];lia,fun O=>?_,fun O=>?_⟩
        ·have hlv:=(iW AA i p).mp O;refine⟨_,rfl, .inl ⟨rfl,_,SqL.of hv5⟩,_,rfl,_,rfl,_,rfl,a,KC,dk,_,_,rfl,C,TK.cl,TK.parts,fY,_,rfl,pa,_,_, .ref ka,rfl,rfl,SqL.of a3,f8 (by rw[bp,hka];rfl),_,rfl,d,rfl,hd,fun h0=>?_,fun h0=>?_⟩
         ·rw[qab ⟨hlv,h0⟩]at j;refine⟨r,l,ka,d - 1,ts5,r::u::M,tb,s,kd,_,m,rfl,by lia,by lia,hR5,hkj.keep U,a6,hTb.keep (ky4.trans U),?_,by lia,?_⟩
          ·intro b G;rcases am.mp G with z|z
           ·obtain⟨_,_,q⟩:=hR5.obj;rw[z,q];simp
           ·rcases am.mp z with z|z
            ·rw[z,hv5];simp
            ·exact Jj hM a1 hR5 b z
          unfold eQ;cases er:rv s m (d - 1) (AA[p]).2.2 (T ts5)with
          |none=>rw[er]at j;exact fun H'=>j H'
          |some x=>
           obtain⟨v',q⟩:=x;rw[er]at j;intro y ts6 H6 hq hy hR6 hF6;dsimp only at hq;subst hq;have a0:=a1.trans hF6;have hv6:=hF6 u _ (by simpa using hvr) hv5;have a5:=(lV s m).1 _ _ _ _ er;rw[ah,ah]at a5;refine⟨by show 2<=aO;decide,fun W J=>?_⟩;have hHt:H W=none:=wJ hR6 a0 J;have htv:u≠W:=fun z=>by rw[<-z,hv6]at J;cases J
           have hv7:dJ H6 W (.tup [sv v,y]) u=some (.lst (as.map V.ref)):=by rw[aY htv];exact hv6
           refine⟨u,_,_,rfl,rfl,hv7,?_,?_⟩
           ·rw[ah,hxl];exact bK (show acc.length<=65536 by lia) (by decide)
           have htr:W≠r:=fun z=>by obtain⟨_,_,q⟩:=hR6.obj;rw[z,q]at J;cases J
           have htM:W∉r::u::M:=fun z=>by
            rcases am.mp z with z|z
            ·exact htr z
            ·rcases am.mp z with z|z
             ·exact htv z.symm
             ·exact hM W z hHt
           have hV6:=hV5.move (upM hF6) (fun b G=> .inl G);have hN7:Fx (r::u::M) H6 (dJ H6 W (.tup [sv v,y])):=Fx.new J;have hV7:=(hV6.move hN7 (fun b G=> .inl G)).snoc aU htM hv (hy.move hN7 fun b G=> .inl G);have a8:Fx (r::u::M) (dJ H6 W (.tup [sv v,y])) (dJ (dJ H6 W (.tup [sv v,y])) u (.lst (as.map V.ref++ [.ref W]))):=Fx.set (by simp);refine⟨_,rfl,_,_,rfl,rfl,hN m _ _ (cS m) ⟨acc++ [(un v,v')],as++ [W],ts6,p+1,_,_,rfl,(hR6.new J).app hv7 I hR,by rw[aU,ay];rfl,hV7.move a8 (fun b G=> .inl G),?_,?_,by lia,by lia,j⟩⟩
           ·intro b o nb e;rw[aY (br e I),aY (br e hHt)];exact a0 b o nb e
           ·rw[au,ci];lia
         ·rw[qaa (fun z=>z.2 h0)]at j;exact fun H'=>j H'
        ·rw[qaa (fun z=>by rw[(iW AA i p).mpr z.1]at O;cases O)]at j;exact fun H'=>j H'
       ·rw[qaa hm];have hno: (names.findIdx? fun x=>x == v)=none:=by
         rw[decide_eq_false hm]at hfm;exact ud.mp (by rw[<-Bp,hfm];rfl)
        rw[hno]at j;exact fun H'=>j H'
end
structure Vd(P:aZ)(w:bB)(K:PySem.W.Frag)(mg:aQ->Option ag)(base:bH)(WT RC KC:aa):Prop where
 t0:Txt K mg WT
 ts:D2 K mg
 tr:mO K RC
 tk:rA K KC
 dvalue:Df K mg "read_value" nU ["reader","kind","depth"]
 drow:Df K mg "read_sequence" hL ["reader","kind","depth"]
 dmany:Df K mg "read_sequence_of" f9 ["reader","kind","depth"]
 done:Df K mg "read_choice" jy ["reader","kind","depth"]
 needs:gy P w K mg base (cE P w) 4 RC "needs_sign" ["self","sign"] (df RC WT)
 item:Ok P w K mg base (cE P w) 5 "next_item" ["reader","count"] (li RC WT)
 name:Ok P w K mg base (cE P w) 3 "read_name" ["reader","kind"] (lh RC WT KC)
 left:Ok P w K mg base (cE P w) 1 "check_left_out" ["kind","start","end"] (jh WT KC)
 deeper:Ok P w K mg base (cE P w) 1 "deeper" ["depth"] (mx WT)
 bounds:Ok P w K mg base (cE P w) 1 "check_bounds" ["kind","number"] (ff WT KC)
 bool:Ok P w K mg base (cE P w) 5 "read_boolean" ["reader"] (ny RC WT)
 null:Ok P w K mg base (cE P w) 5 "read_null" ["reader"] (tH RC WT)
 int:Ok P w K mg base (cE P w) 4 "read_integer_values" ["reader","kind"] (my RC WT KC)
 bits:Ok P w K mg base (cE P w) 3 "read_bits" ["reader","kind"] (tI RC WT KC)
 octets:Ok P w K mg base (cE P w) 3 "read_octets" ["reader","kind"] (o0 RC WT KC)
section
variable {P:aZ}{w:bB}{K:PySem.W.Frag}{mg:aQ->Option ag}{base:bH}{WT RC KC:aa}
theorem scReadValue:bf ["reader","kind","depth","form"] ["reader","kind","depth"] (aA nU):=fP
theorem GY(x:aQ):decide (V.str x=V.str x)=true:=qad rfl
theorem nB(B:Vd P w K mg base WT RC KC):∀n:Nat,Ok P w K mg base (cE P w) (2*n+6) "read_value" ["reader","kind","depth"] (spV RC WT KC n)
 |0=>by
  refine B.dvalue.okX scReadValue (fun fa cdv A outer s0 H vs Q E C h=>?_)
  ·obtain⟨r,l,a,d,ts,M,tb,s,k,t,F,rfl,hd,_⟩:=h;exact absurd hd (mC _)
 |n+1=>by
  have W:=nB B n;have G1:=qm (n:=n) B.drow B.t0 B.tr B.tk B.needs B.item B.name B.left B.deeper W;have G2:=mY (n:=n) B.dmany B.t0 B.tr B.tk B.needs B.item B.deeper B.bounds W;have G3:=tL (n:=n) B.done B.tr B.tk B.needs B.name B.deeper W;refine B.dvalue.okX (k:=2*n+6+1) scReadValue (fun fa cdv A outer s0 H vs Q E C h=>?_)
  ·obtain⟨r,l,a,d,ts,M,tb,s,k,t,F,rfl,hdn,hd,y,u,hT,x,S,hF,g⟩:=h;have hr0:=C.mono (show 2*n+6<=2*n+6+1 by lia);have hr1:=C.mono (show 1<=2*n+6+1 by lia);have D:=C.mono (show 3<=2*n+6+1 by lia);have Z:=C.mono (show 4<=2*n+6+1 by lia);have J:=C.mono (show 5<=2*n+6+1 by lia);refine⟨_,aj (bR (i:=3) scReadValue.nd rfl (Or.inl rfl) (cp (pv 1) rfl))
    (aj (bN (bo dR (pv 3) (ek B.ts.named) (bE _)) (aq (bb (cy W hr0 aP (ac (pv 0) (ac (fb fD (cp (pv 1) rfl) cw (fun _ _=>rfl)) (ac (cy B.deeper hr1 aP (ac (pv 2) ao)) ao)))))) bh)
    (aj (bN (bo dR (pv 3) aX (bE _)) (aq (bb (cy B.bool J aP (ac (pv 0) ao)))) bh)
    (aj (bN (bo dR (pv 3) aX (bE _)) (aq (bb (cy B.null J aP (ac (pv 0) ao)))) bh)
    (aj (bN (bo dR (pv 3) aX (bE _)) (aq (bb (cy B.int Z aP (ac (pv 0) (ac (pv 1) ao))))) bh)
    (aj (bN (bo dR (pv 3) aX (bE _)) (aq (bb (cy B.name D aP (ac (pv 0) (ac (pv 1) ao))))) bh)
    (aj (bN (bo dR (pv 3) aX (bE _)) (aq (bb (cy B.bits D aP (ac (pv 0) (ac (pv 1) ao))))) bh)
    (aj (bN (bo dR (pv 3) aX (bE _)) (aq (bb (cy B.octets D aP (ac (pv 0) (ac (pv 1) ao))))) bh)
    (aj (bN (bo dR (pv 3) aX (bE _)) (aq (bb (cy G1 C aP (ac (pv 0) (ac (pv 1) (ac (pv 2) ao)))))) bh)
    (aj (bN (bo dR (pv 3) (ek B.ts.seqof) (bE _)) (aq (bb (cy G2 C aP (ac (pv 0) (ac (pv 1) (ac (pv 2) ao)))))) bh)
    (aq (bb (cy G3 C aP (ac (pv 0) (ac (pv 1) (ac (pv 2) ao))))))))))))))),?_⟩
   obtain⟨F,rfl⟩:∃F',F=F'+1:=⟨F - 1,by lia⟩;cases hT with
   |named tw hw=>
    obtain⟨pl,pa,op,b,⟨p,e⟩,hpa,hlk⟩:=u.inv_nm;obtain⟨t2,k2,Y,hk2,O⟩:=x tw b hw hlk;rw[rQ]at g;refine⟨_,rfl,a,KC,p,_,_,rfl,e,B.tk.cl,B.tk.form,dF,?_⟩;refine⟨_,rfl,rfl,_,rfl,?_⟩;rw[GY];refine d9 ?_;refine⟨_,rfl,_,rfl,a,KC,p,_,_,rfl,e,B.tk.cl,B.tk.parts,fY,pa,_,_, .ref b,rfl,rfl,SqL.of hpa,JT _ _,_,rfl,d,rfl,hd,fun G=>?_,fun G=>?_⟩
    ·rw[qaa G,Y,eh]at g;exact⟨r,l,b,d - 1,ts,M,tb,s,k2,t2,F,rfl,by lia,by lia,y,hk2,O,x,S,by lia,g⟩
    ·rw[qab G]at g;exact fun H'=>g H'
   |bool=>
    obtain⟨pl,j,op,as,⟨p,e⟩,q,_,_,_⟩:=u.inv (by decide+kernel);refine⟨_,rfl,a,KC,p,_,_,rfl,e,B.tk.cl,B.tk.form,dF,?_⟩;refine gL rfl (by decide+kernel) ?_;refine fS rfl (by decide+kernel) ?_;refine⟨_,rfl,r,l,ts,M,rfl,y,?_⟩;rw[mD]at g ⊢;exact g
   |null=>
    obtain⟨pl,j,op,as,⟨p,e⟩,q,_,_,_⟩:=u.inv (by decide+kernel);refine⟨_,rfl,a,KC,p,_,_,rfl,e,B.tk.cl,B.tk.form,dF,?_⟩;iterate 2 refine gL rfl (by decide+kernel) ?_
    refine fS rfl (by decide+kernel) ?_;refine⟨_,rfl,r,l,ts,M,rfl,y,?_⟩;rw[mE]at g ⊢;exact g
   |int lo hi=>
    obtain⟨pl,j,op,as,⟨p,e⟩,q,_,_,_⟩:=u.inv (by decide+kernel);refine⟨_,rfl,a,KC,p,_,_,rfl,e,B.tk.cl,B.tk.form,dF,?_⟩;iterate 3 refine gL rfl (by decide+kernel) ?_
    refine fS rfl (by decide+kernel) ?_;refine⟨_,rfl,_,rfl,r,l,a,ts,M,_,_,lo,hi,pl,_,_,j,op,rfl,y,⟨p,e⟩,?_⟩;rw[px]at g ⊢;exact g
   |bits lo hi hz=>
    obtain⟨pl,j,op,as,⟨p,e⟩,q,_,_,_⟩:=u.inv (by decide+kernel);refine⟨_,rfl,a,KC,p,_,_,rfl,e,B.tk.cl,B.tk.form,dF,?_⟩;iterate 5 refine gL rfl (by decide+kernel) ?_
    refine fS rfl (by decide+kernel) ?_;refine⟨_,rfl,_,rfl,r,l,a,ts,M,_,_,lo,hi,pl,_,_,j,op,rfl,y,⟨p,e⟩,hz,?_⟩;rw[mF]at g ⊢;exact g
   |octets lo hi hz=>
    obtain⟨pl,j,op,as,⟨p,e⟩,q,_,_,_⟩:=u.inv (by decide+kernel);refine⟨_,rfl,a,KC,p,_,_,rfl,e,B.tk.cl,B.tk.form,dF,?_⟩;iterate 6 refine gL rfl (by decide+kernel) ?_
    refine fS rfl (by decide+kernel) ?_;refine⟨_,rfl,_,rfl,r,l,a,ts,M,_,_,lo,hi,pl,_,_,j,op,rfl,y,⟨p,e⟩,hz,?_⟩;rw[iP]at g ⊢;exact g
   |enum na nb ext h1 h2=>
    obtain⟨pl,j,op,as,⟨p,e⟩,q,_,_,_⟩:=u.inv (by decide+kernel);refine⟨_,rfl,a,KC,p,_,_,rfl,e,B.tk.cl,B.tk.form,dF,?_⟩;iterate 4 refine gL rfl (by decide+kernel) ?_
    refine fS rfl (by decide+kernel) ?_;refine⟨_,rfl,_,rfl,r,l,a,ts,_,_,_,_,pl,_,_,j,op,na++nb,rfl,y,⟨p,e⟩,q,?_⟩;rw[lS]at g;have en:na.map un++(if ext=true then some (nb.map un)else none).getD []= (na++nb).map un:=by
     rw[ay];cases ext with
     |true=>rfl
     |false=>rw[h1 rfl];rfl
    rw[en]at g;cases ts with
    |nil=>exact fun H'=>g H'
    |cons t ts1=>
     cases t with
     |num z=>exact fun H'=>g H'
     |bits z=>exact fun H'=>g H'
     |octs z=>exact fun H'=>g H'
     |sign z=>exact fun H'=>g H'
     |word v=>
      have X: (Tk.word v).ok:=y.oks.head;have U:eQ RC WT r l M (if un v∈(na++nb).map un then some (Ql51.V.name (un v),T ts1)else none) H Q E:=g;show if v∈na++nb then _ else _
      by_cases R:v∈na++nb
      ·rw[qab ((Eh X h2).mpr R)]at U;rw[qab R];exact fun H' hR' hF' _=>U _ ts1 H' rfl (.name v X) hR' hF'
      ·rw[qaa (fun z=>R ((Eh X h2).mp z))]at U;rw[qaa R];exact fun H'=>U H'
   |many lo hi k' t' hz hkt=>
    obtain⟨pl,j,op,as,⟨p,e⟩,q,_,_,_⟩:=u.inv (by decide+kernel);refine⟨_,rfl,a,KC,p,_,_,rfl,e,B.tk.cl,B.tk.form,dF,?_⟩;iterate 8 refine gL rfl (by decide+kernel) ?_
    refine fS rfl (by decide+kernel) ?_;exact⟨_,rfl,_,rfl,_,rfl,r,l,a,d,ts,M,tb,s,k',t',lo,hi,F,rfl,by lia,hd,y,u,hz,hkt,x,S,by lia,g⟩
   |one na nb ext pa pb al bl G h1 h2 h3 h4 h5=>
    obtain⟨pl,j,op,as,⟨p,e⟩,q,_,_,_⟩:=u.inv (by decide+kernel);refine⟨_,rfl,a,KC,p,_,_,rfl,e,B.tk.cl,B.tk.form,dF,?_⟩;iterate 9 refine gL rfl (by decide+kernel) ?_
    have I: (if ext=true then some bl else none).getD []=bl:=by
     cases ext with
     |true=>rfl
     |false=>rw[(G rfl).2.2];rfl
    refine⟨_,rfl,_,rfl,_,rfl,r,l,a,d,ts,M,tb,s,na++nb,na.length,ext,pa++pb,al,(if ext=true then some bl else none),F,rfl,by lia,hd,y,u,?_,?_,h5,x,S,by lia,g⟩
    ·rw[I,ay,ay];exact congr (qaf _ h1) h2
    ·rw[I,ay];exact KTs.app h3 h4
   |row na nb ext pa pb al bl G h1 h2 h3 h4 h5=>
    obtain⟨pl,j,op,as,⟨p,e⟩,q,_,_,_⟩:=u.inv (by decide+kernel);refine⟨_,rfl,a,KC,p,_,_,rfl,e,B.tk.cl,B.tk.form,dF,?_⟩;iterate 7 refine gL rfl (by decide+kernel) ?_
    refine fS rfl (by decide+kernel) ?_;have I: (if ext=true then some bl else none).getD []=bl:=by
     cases ext with
     |true=>rfl
     |false=>rw[(G rfl).2.2];rfl
    have en:na.length=al.length:=by have:=qaf cI h1;rw[ah,ah]at this;lia
    refine⟨_,rfl,_,rfl,_,rfl,r,l,a,d,ts,M,tb,s,na++nb,ext,pa++pb,al,(if ext=true then some bl else none),F,rfl,by lia,hd,y,?_,?_,?_,h5,x,S,by lia,g⟩
    ·rw[I,<-en];exact u
    ·rw[I,ay,ay];exact congr (qaf _ h1) h2
    ·rw[I,ay];exact KTs.app h3 h4
end
def ri(s:aI)(t:aS)(cs:List Nat):Option cA:=match toks (cs.map lc)with
 |none=>none
 |some ts=>match rv s (128+ts.length+1) 64 t (T ts)with
  |some (v, [])=>some v
  |_=>none
def Le(e:aa)(o:Option cA)(H:Hp)(Q:VK)(E:XK):Prop:=match o with
 |some v=>∀(y:V) (H':Hp),VAt [] H' y v->(∀b o,H b=some o->H' b=some o)->Q y H'
 |none=>∀H',E (.ref e) none H'
section
variable {P:aZ}{w:bB}{K:PySem.W.Frag}{mg:aQ->Option ag}{base:bH}{WT RC KC:aa}
def Jk(K:PySem.W.Frag)(j h:aa):Sp:=fun vs H Q E=>FU fun(a g:aa) (e:List Nat) (tb:List (List Nat×aa)) (s:aI) (k:Kd) (t:aS)=>vs= [.ref a, .ref g]/\SqL K H a (e.map fun(n:Nat)=>V.int (n:Int))/\e.length<=65536/\KJ h tb H g k/\KT k t/\TbAt h tb H s/\Le j (ri s t e) H Q E
theorem scReadValueText:bf ["text","kind","reader","value"] ["text","kind"] (aA jc):=fP
theorem n6(D:Df K mg "read_value_text" jc ["text","kind"])(B:Vd P w K mg base WT RC KC)(GR:AC P w K mg base fh 1 "Reader" RC ["self","tokens"] (kR RC))(GO:Ok P w K mg base (cE P w) 4 "tokens_of" ["codes"] (nW K WT))
  (GE:gy P w K mg base fh 1 RC "ended" ["self"] (fX RC)):Ok P w K mg base (cE P w) 137 "read_value_text" ["text","kind"] (Jk K WT KC):=by
 have GV:=nB B 65;refine D.okX (k:=136) scReadValueText (fun fa cdv A outer s0 H vs Q E M h=>?_)
 ·obtain⟨a,ka,O,tb,s,k,t,rfl,hS,hl,hK,hT,hTb,g⟩:=h;have X:=M.mono (show 1<=136 by decide);have W:=M.mono (show 2<=136 by decide);have U:=M.mono (show 4<=136 by decide);refine⟨_,aj (bR (i:=2) scReadValueText.nd rfl (Or.inl rfl) (jK GR W cD (ac (cy GO U aP (ac (pv 0) ao)) ao)))
   (aj (bR (i:=3) scReadValueText.nd rfl (Or.inl rfl) (cy GV M aP (ac (pv 2) (ac (pv 1) (ac cw ao)))))
   (aj (bN (iZ (cB (wk GE B.tr.cl X cD (pv 2)))) (aq (cX PySem.F.excBase_ValueError B.t0.exc rfl (by rfl) B.t0.wt (ac aX ao) ft)) bh)
   (aq (bb (pv 3))))),?_⟩
  have Y: (O.map lc).length<=65536:=by rw[ah];exact hl
  have h8:∀c∈O.map lc,c < 128:=fun c hc=>by
   obtain⟨n,_,rfl⟩:=bA.mp hc;exact vg n
  unfold ri at g;refine⟨_,rfl,a,O,rfl,hS,hl,?_⟩;cases et:toks (O.map lc)with
  |none=>rw[et]at g;exact fun H'=>g H'
  |some ts=>
   rw[et]at g;dsimp only at g;obtain⟨tok,jF⟩:=j7 _ Y h8 et;intro p as H1 hp hA j hpn r dx z Z hne;refine⟨r,dx,p,rfl,aU,fun R h2r hF2=>⟨rfl,?_⟩⟩;have u:∀b o,H1 b=some o->R b=some o:=fun b o e=>by
    have b1:b≠r:=br e z;refine hF2 b o (by simpa using b1) ?_;rw[aY b1,aY (br e Z)];exact e
   have hR2:RdAt RC R r p ts:=⟨dx,as,ts,0,h2r,u p _ hp,hA.mono u,cr _,by lia,tok,rfl⟩;have I:∀b o,H b=some o->R b=some o:=fun b o e=>u b o (j b o e);have G:Ky H R:=Ky.old I;have hHr:H r=none:=by
    cases e:H r with
    |none=>rfl
    |some o=>rw[j r o e]at z;cases z
   refine⟨_,rfl,_,rfl,r,p,ka,64,ts, [],tb,s,k,t,128+ts.length+1,rfl,by decide,by decide,hR2,hK.keep G,hT,hTb.keep G,by simp,by lia,?_⟩;unfold eQ;cases er:rv s (128+ts.length+1) 64 t (T ts)with
   |none=>rw[er]at g;exact fun H'=>g H'
   |some x=>
    obtain⟨v,q⟩:=x;rw[er]at g;intro y C H3 hq hy J hF3;dsimp only at hq;subst hq;have S:∀b o,H b=some o->H3 b=some o:=fun b o e=>hF3 b o (by simpa using br e hHr) (I b o e);obtain⟨dx3,p3,h13⟩:=J.obj;refine⟨_,rfl,r,dx3,_,rfl,h13,cN,r,p,C,rfl,J,_,rfl,?_⟩;cases C with
    |nil=>
     refine eC ⟨_,rfl,?_⟩;exact g y H3 hy S
    |cons t3 r3=>
     refine d9 ⟨by decide,?_⟩;exact g _
end
theorem G0{s:aI}{t:aS}{cs:List Nat}{v:cA}(u:cs.length<=65536)(h:ri s t cs=some v):Ft s 64 t v/\(tx v).length<=8388608:=by
 unfold ri at h;cases j:toks (cs.map lc)with
 |none=>rw[j]at h;cases h
 |some ts=>
  rw[j]at h;dsimp only at h;cases g:rv s (128+ts.length+1) 64 t (T ts)with
  |none=>rw[g]at h;cases h
  |some x=>
   obtain⟨p,q⟩:=x;rw[g]at h;cases q with
   |cons a r=>cases h
   |nil=>
    have e:p=v:=aB h;subst e;refine⟨(ro s _).1 _ _ _ _ _ g,?_⟩;unfold tx;rw[ah];exact Ek s t u j g
end Th
namespace Sp
open Th
open L2 (v0 upC)
def EClaim(o:Option (aS×List az))(q:List Tk)(m:Option (Kr×List Tk)):Prop:=match o with
 |none=>m=none
 |some (t,l')=>∃e,l'=T e/\e.length<=q.length/\Oks e/\(Gd t->∃k:Kr,m=some (k,e)/\k.waits=false/\KT k.fin t)/\(¬Gd t->m=none)
theorem EClaim.no{q:List Tk}{m:Option (Kr×List Tk)}(h:m=none):EClaim none q m:=h
theorem AV{K:Nat}{q:List Tk}(h:Oks q)(e:∀v r,q= .word v::r->cW v=false):cY K (T q)=none:=by
 cases K with
 |zero=>rw[cY]
 |succ K=>
  cases q with
  |nil=>rfl
  |cons t r=>
   cases t with
   |word v=>
    show cY (K+1) (.word (un v)::T r)=none;rw[qg,lg h.head,e v r rfl,qab rfl]
   |num z=>rfl
   |bits l=>rfl
   |octs l=>rfl
   |sign l=>rfl
theorem lm{o:Kr}{q:List Tk}(e:∀v r,q= .word v::r->cW v=false):ca o q=none:=by
 cases q with
 |nil=>rfl
 |cons t r=>
  cases t with
  |word v=>rw[dQ,qaa (fun z=>by rw[e v r rfl]at z;exact absurd z.1 (by decide))]
  |num z=>rfl
  |bits l=>rfl
  |octs l=>rfl
  |sign l=>rfl
theorem gd_names{l:List bP}{m:Option (List bP)} :Gd (.names l m)↔(l++m.getD []).Nodup:=⟨fun h=>by cases h;assumption, .enum l m⟩
theorem G4{K:Nat}{q:List Tk}(hK:q.length < K)(h:Oks q):EClaim (oZ K (T q)) q (wD q):=by
 unfold oZ jB wD;by_cases hw:∀v r,q= .word v::r->cW v=false
 ·rw[AV h hw,lm hw];exact rfl
 ·obtain⟨n,r,rfl,hn⟩:∃n r,q= .word n::r/\cW n=true:=bz fun z=>hw fun v r e=>by
   cases B:cW v with
   |false=>rfl
   |true=>exact absurd ⟨v,r,e,B⟩ z
  rw[dQ,qab ⟨hn,by simp⟩];dsimp only;have hok: (Tk.word n).ok:=h.head;show EClaim (eP _ _ _ (cY K (.word (un n)::T r))) _ (fy (Kr.more { form:="ENUMERATED" } [n]) r);have L:=oX K (o:=Kr.more { form:="ENUMERATED" } [n]) hK h hn (by show([]++ [n]).Nodup;simp);cases el:cY K (.word (un n)::T r)with
  |none=>rw[el]at L;exact L
  |some x=>
   obtain⟨a,l'⟩:=x;rw[el]at L;obtain⟨ns,r',i1,i2,i3,i4,i5,i6,R,Q⟩:=L;subst i1 i2;have en: (Kr.more { form:="ENUMERATED" } [n]).names++ns=n::ns:=rfl;rw[en]at R Q;have oks:∀v∈n::ns,(Tk.word v).ok:=fun v B=>by
    rcases am.mp B with z|z
    ·rw[z];exact hok
    ·exact i6 v z
   have nd: (un n::ns.map un).Nodup↔(n::ns).Nodup:=kh oks;have em:Kr.more (Kr.more { form:="ENUMERATED" } [n]) ns= { form:="ENUMERATED",names:=n::ns,roots:=(n::ns).length } :=by
    rw[qf];show({ form:="ENUMERATED",names:= []++([n]++ns),roots:=0+ ([n]++ns).length } :Kr)=_;rw[eM];rfl
   rw[em]at R;have G:∀ {s:List Tk} {x:List Tk},r'=x++s->s.length<=(Tk.word n::r).length:=fun e=>by
    have:=qaf cI e;rw[au]at this;rw[ae];lia
   by_cases hs:Gj r'
   ·cases hs with
    |fin s e=>
     subst e;rw[Ea];refine⟨s,rfl,G (x:= [_]) rfl,i4.tail,fun g=>?_,fun g=>Q fun z=>g (gd_names.mpr (by rw[dN,aG];exact nd.mpr z))⟩;have hd:=nd.mp (by have:=gd_names.mp g;rwa [dN,aG]at this);refine⟨{ form:="ENUMERATED",names:=n::ns,roots:=(n::ns).length },?_,rfl,?_⟩
     ·rw[R hd,gX,dg i5,wC];rfl
     ·have:=KT.enum (n::ns) [] false (fun _=>rfl) (by rw[aG];exact oks);rw[aG]at this;exact this
    |dots s e=>
     subst e;rw[AM];refine⟨s,rfl,G (x:= [_,_,_]) rfl,i4.tail.tail.tail,fun g=>?_,fun g=>Q fun z=>g (gd_names.mpr (by rw[bx,aG];exact nd.mpr z))⟩;have hd:=nd.mp (by have:=gd_names.mp g;rwa [bx,aG]at this);refine⟨{ form:="ENUMERATED",names:=n::ns,roots:=(n::ns).length,ext:=true },?_,rfl,?_⟩
     ·rw[R hd,gX,dg i5,AO _ _ rfl];rfl
     ·have:=KT.enum (n::ns) [] true (fun z=>by cases z) (by rw[aG];exact oks);rw[aG]at this;exact this
    |more s e=>
     subst e;rw[AN];have C:Oks s:=i4.tail.tail.tail;have hls:s.length+3<=r.length:=by have:=i3;simp only[ae]at this;lia
     have run: (n::ns).Nodup->fy (Kr.more { form:="ENUMERATED" } [n]) r=match ca { form:="ENUMERATED",names:=n::ns,roots:=(n::ns).length,ext:=true } s with
       |none=>none
       |some x=>fy x.1.2 x.2:=fun hd=>by
      rw[R hd,gX,dg i5,rD _ _ rfl];cases ca { form:="ENUMERATED",names:=n::ns,roots:=(n::ns).length,ext:=true } s with
      |none=>rfl
      |some x=>rfl
     by_cases J:∀v r,s= .word v::r->cW v=false
     ·rw[AV C J];by_cases hd: (n::ns).Nodup
      ·refine EClaim.no ?_;rw[run hd,lm J]
      ·exact EClaim.no (Q hd)
     ·obtain⟨m,I,rfl,hm⟩:∃n r,s= .word n::r/\cW n=true:=bz fun z=>J fun v r e=>by
       cases B:cW v with
       |false=>rfl
       |true=>exact absurd ⟨v,r,e,B⟩ z
      simp only[ae]at hls hK;have F: (Tk.word m).ok:=C.head;by_cases hd: (n::ns).Nodup/\m∉n::ns
      ·have Z:ca { form:="ENUMERATED",names:=n::ns,roots:=(n::ns).length,ext:=true } (.word m::I)=some (((),Kr.more { form:="ENUMERATED",names:=n::ns,roots:=(n::ns).length,ext:=true } [m]),I):=by
        rw[dQ,qab ⟨hm,hd.2⟩];rfl
       have p:=run hd.1;rw[Z]at p;dsimp only at p;have hd2: (Kr.more { form:="ENUMERATED",names:=n::ns,roots:=(n::ns).length,ext:=true } [m]).names.Nodup:=by
        show((n::ns)++ [m]).Nodup;rw[bJ];exact⟨hd.1,by simp,fun a ha b hb e=>hd.2 (by rw[<-aw.mp hb,<-e];exact ha)⟩
       have O:=oX K (o:=Kr.more { form:="ENUMERATED",names:=n::ns,roots:=(n::ns).length,ext:=true } [m]) (by lia) C hm hd2;show EClaim (gb _ (cY K (.word (un m)::T I))) _ _;cases E:cY K (.word (un m)::T I)with
       |none=>rw[E]at O;exact EClaim.no (by rw[p];exact O)
       |some y=>
        obtain⟨b,l2⟩:=y;rw[E]at O;obtain⟨j,r3,j1,j2,j3,W,j5,j6,U,j8⟩:=O;subst j1 j2;have en2: (Kr.more { form:="ENUMERATED",names:=n::ns,roots:=(n::ns).length,ext:=true } [m]).names++j= (n::ns)++(m::j):=by
         show((n::ns)++ [m])++j=_;rw[bD];rfl
        rw[en2]at U j8;have S: ((un n::ns.map un)++(some (un m::j.map un)).getD []).Nodup↔((n::ns)++(m::j)).Nodup:=by
         rw[bx,<-kh (l:=(n::ns)++(m::j)) (fun v B=>?_),ay]
         ·rfl
         ·rcases aT.mp B with z|z
          ·exact oks v z
          ·rcases am.mp z with y|y
           ·rw[y];exact F
           ·exact j6 v y
        have em2:Kr.more (Kr.more { form:="ENUMERATED",names:=n::ns,roots:=(n::ns).length,ext:=true } [m]) j= { form:="ENUMERATED",names:=(n::ns)++(m::j),roots:=(n::ns).length,ext:=true } :=by
         rw[qf];rfl
        rw[em2]at U;by_cases Y:∃t,r3= .sign (cd "}")::t
        ·obtain⟨t,rfl⟩:=Y;rw[wA];simp only[ae]at j3;refine⟨t,rfl,by simp only[ae];lia,W.tail,fun g=>?_,fun g=>by rw[p];exact j8 fun z=>g (gd_names.mpr (S.mpr z))⟩;have D:=S.mp (gd_names.mp g);refine⟨{ form:="ENUMERATED",names:=(n::ns)++(m::j),roots:=(n::ns).length,ext:=true },?_,rfl,?_⟩
         ·rw[p,U D,gX,dg j5,wC];rfl
         ·exact KT.enum (n::ns) (m::j) true (fun z=>by cases z) (fun v B=>(aT.mp B).elim (oks v) (fun y=>(am.mp y).elim (fun y=>by rw[y];exact F) (fun y=>j6 v y)))
        ·have X:∀t,r3≠ .sign (cd "}")::t:=fun t e=>Y ⟨t,e⟩;rw[wB W X];refine EClaim.no ?_;rw[p];by_cases D: ((n::ns)++(m::j)).Nodup
         ·rw[U D,gX,dg j5,Ec rfl X]
         ·exact j8 D
      · -- a name that is there already
       have u:fy (Kr.more { form:="ENUMERATED" } [n]) r=none:=by
        by_cases M: (n::ns).Nodup
        ·rw[run M,dQ,qaa (fun z=>hd ⟨M,z.2⟩)]
        ·exact Q M
       have O:=oX K (o:= { form:="",names:= [m] }) (n:=m) (r:=I) (by lia) C hm (by simp);show EClaim (gb _ (cY K (.word (un m)::T I))) _ _;cases E:cY K (.word (un m)::T I)with
       |none=>exact EClaim.no u
       |some y=>
        obtain⟨b,l2⟩:=y;rw[E]at O;obtain⟨j,r3,j1,j2,j3,W,j5,j6,U,j8⟩:=O;subst j1 j2;by_cases Y:∃t,r3= .sign (cd "}")::t
        ·obtain⟨t,rfl⟩:=Y;rw[wA];simp only[ae]at j3;refine⟨t,rfl,by simp only[ae];lia,W.tail,fun g=>?_,fun _=>u⟩;exfalso;have g2:=gd_names.mp g;rw[bx]at g2;refine hd ⟨nd.mp (bJ.mp g2).1,fun z=>?_⟩;exact(bJ.mp g2).2.2 (un m) (bA.mpr ⟨m,z,rfl⟩) (un m) af rfl
        ·rw[wB W fun t e=>Y ⟨t,e⟩];exact EClaim.no u
   ·rw[Eb i4 hs];refine EClaim.no ?_;by_cases hd: (n::ns).Nodup
    ·rw[R hd,gX,dg i5,Ed hs]
    ·exact Q hd
abbrev o6(n:List Nat):Prop:=(Tk.word n).ok
def tO(t:aS):Prop:=∀b,Rf b t->∃n,o6 n/\b=un n
structure NsUp(ns ns':List (List Nat))(R:bP->Prop):Prop where
 ok:∀n∈ns',o6 n
 iff:∀n,o6 n->(n∈ns'↔n∈ns\/R (un n))
theorem NsUp.refl{ns:List (List Nat)}{R:bP->Prop}(h:∀n∈ns,o6 n)(e:∀b,¬R b):NsUp ns ns R:=⟨h,fun n _=>⟨.inl,fun z=>z.resolve_right (e _)⟩⟩
theorem NsUp.trans{a b c:List (List Nat)}{R S U:bP->Prop}(j:NsUp a b R)(g:NsUp b c S)(h:∀x,U x↔R x\/S x):NsUp a c U:=
 ⟨g.ok,fun n e=>by rw[g.iff n e,j.iff n e,h];exact or_assoc⟩
theorem NsUp.congr{a b:List (List Nat)}{R U:bP->Prop}(e:NsUp a b R)(h:∀x,U x↔R x):NsUp a b U:=⟨e.ok,fun n g=>by rw[e.iff n g,h]⟩
def MClaim(o:Option (aS×List az))(ns:List (List Nat))(stk:List Kr)(b:Nat)(m:Option ((Kr×List (List Nat))×List Tk)):Prop:=match o with
 |none=>m=none
 |some (t,l')=>∃g,l'=T g/\g.length<=b/\Oks g/\tO t/\(Gd t->∃(k:Kr) (e:List (List Nat)),m=gu e stk k g/\k.waits=false/\KT k.fin t/\NsUp ns e (fun b=>Rf b t))/\(¬Gd t->m=none)
theorem MClaim.no{ns:List (List Nat)}{stk:List Kr}{b:Nat}{m:Option ((Kr×List (List Nat))×List Tk)}(h:m=none):MClaim none ns stk b m:=h
def ji(ns:List (List Nat))(stk:List Kr)(o:Kr)(r:List Tk):Option ((Kr×List (List Nat))×List Tk):=match gK o r with
 |none=>none
 |some x=>gu ns stk { x.1.2 with waits:=x.1.1 } x.2
theorem yt(ns:List (List Nat))(stk:List Kr)(o:Kr)(r:List Tk): (match fw o r with
  |none=>none
  |some y=>gu ns stk y.1.2 y.2)=ji ns stk o r:=by
 unfold fw ji;cases gK o r with
 |none=>rfl
 |some x=>rfl
structure yu(α:Type)where
 nm:α->bP
 tf:α->aS
 ops:List α->List Bool
 form:PySem.Str
 P:Nat->List az->Option (List α×List az)
 ty:List α->Option (List α)->aS
structure yw{α:Type}(M:yu α):Prop where
 gd:∀l m,Gd (M.ty l m)↔((l++m.getD []).map M.nm).Nodup/\∀x∈l++m.getD [],Gd (M.tf x)
 rf:∀b l m,Rf b (M.ty l m)↔∃x∈l++m.getD [],Rf b (M.tf x)
 kt:∀na nb ext pa pb a b,(ext=false->nb= []/\pb= []/\b= [])->a.map M.nm=na.map un->b.map M.nm=nb.map un->KTs pa (a.map M.tf)->KTs pb (b.map M.tf)->(∀n∈na++nb,o6 n)->
  KT (.mk M.form [] none none (na++nb) na.length ext (pa++pb) (M.ops a++M.ops b)) (M.ty a (if ext=true then some b else none))
 nil:M.ops []= []
 no:∀K q,Oks q->(∀v r,q= .word v::r->cW v=false)->M.P K (T q)=none
def wM{g:Type}(M:yu g)(o:Kr)(vs:List (List Nat))(e:List Kd)(a:List g):Kr:= { Kr.more o vs with parts:=o.parts++e,opts:=o.opts++M.ops a }
def qo{j:Type}(M:yu j)(K:Nat)(o:Kr)(n:List Nat)(r:List Tk)(ns:List (List Nat))(stk:List Kr):Prop:=match M.P K (.word (un n)::T r)with
 |none=>w6 ns (o::stk) r=none
 |some (a,l')=>∃(vs:List (List Nat)) (e:List Tk),a.map M.nm=un n::vs.map un/\l'=T e/\e.length<=r.length/\Oks e/\oW e/\(∀v∈vs,o6 v)/\(∀x∈a,tO (M.tf x))/\
   (((o.names++vs).Nodup/\∀x∈a,Gd (M.tf x))->∃(h:List Kd) (g:List (List Nat)),KTs h (a.map M.tf)/\NsUp ns g (fun b=>∃x∈a,Rf b (M.tf x))/\w6 ns (o::stk) r=ji g stk (wM M o vs h a) e)/\
   (¬((o.names++vs).Nodup/\∀x∈a,Gd (M.tf x))->w6 ns (o::stk) r=none)
def tP{e:Type}(M:yu e)(K:Nat):Prop:=∀(o:Kr) (n:List Nat) (r:List Tk) (ns:List (List Nat)) (stk:List Kr),r.length+1 < K->Oks (.word n::r)->cW n=true->o.waits=true->o.form=M.form->o.names.Nodup->(∀n∈ns,o6 n)->qo M K o n r ns stk
abbrev iz{e:Type}(M:yu e)(K:Nat):List az->Option (aS×List az):=jB (M.P K) M.ty
def Jl{e:Type}(M:yu e)(ns:List (List Nat))(stk:List Kr)(q:List Tk):Option ((Kr×List (List Nat))×List Tk):=match ca { form:=M.form } q with
 |none=>none
 |some x=>gu ns stk { x.1.2 with waits:=true } x.2
theorem AW(q:List Tk): (∀v r,q= .word v::r->cW v=false)\/∃n r,q= .word n::r/\cW n=true:=by
 by_cases g:∀v r,q= .word v::r->cW v=false
 ·exact .inl g
 ·exact .inr (bz fun z=>g fun v r e=>by
   cases h:cW v with
   |false=>rfl
   |true=>exact absurd ⟨v,r,e,h⟩ z)
theorem o7{e:Type}{M:yu e}(H:yw M){l:List e}{m:Option (List e)}(h:∀x∈l++m.getD [],tO (M.tf x)):tO (M.ty l m):=fun b p=>by
 obtain⟨x,g,j⟩:=(H.rf b l m).mp p;exact h x g b j
theorem HJ{α:Type}{M:yu α}(H:yw M){K:Nat}(S:tP M K){q:List Tk}{ns:List (List Nat)}{stk:List Kr}(hK:q.length < K)(h:Oks q)(hns:∀n∈ns,o6 n):MClaim (iz M K (T q)) ns stk q.length (Jl M ns stk q):=by
 unfold iz jB Jl;rcases AW q with hw| ⟨n,r,rfl,hn⟩
 ·rw[H.no K q h hw,lm hw];exact rfl
 ·rw[dQ,qab ⟨hn,by simp⟩];dsimp only;have hok:o6 n:=h.head;have e0:gu ns stk { (Kr.more { form:=M.form } [n])with waits:=true } r=w6 ns ({ (Kr.more { form:=M.form } [n])with waits:=true } ::stk) r:=mT rfl;show MClaim (eP _ _ _ (M.P K (.word (un n)::T r))) _ _ _ (gu ns stk { (Kr.more { form:=M.form } [n])with waits:=true } r);rw[e0];have L:=S { (Kr.more { form:=M.form } [n])with waits:=true } n r ns stk hK h hn rfl rfl (by show([]++ [n]).Nodup;simp) hns;unfold qo at L;cases el:M.P K (.word (un n)::T r)with
  |none=>rw[el]at L;exact L
  |some x=>
   obtain⟨a,l'⟩:=x;rw[el]at L;obtain⟨vs,r',i1,i2,i3,i4,i5,i6,I,W,i8⟩:=L;subst i2;generalize hG:w6 ns ({ (Kr.more { form:=M.form } [n])with waits:=true } ::stk) r=G at W i8 ⊢;have en: ({ (Kr.more { form:=M.form } [n])with waits:=true } :Kr).names++vs=n::vs:=rfl;rw[en]at W i8;have oks:∀v∈n::vs,o6 v:=fun v hv=>by
    rcases am.mp hv with z|z
    ·rw[z];exact hok
    ·exact i6 v z
   have nd: (a.map M.nm).Nodup↔(n::vs).Nodup:=by rw[i1];exact kh oks
   have E:a.map M.nm= (n::vs).map un:=i1;have eg:∀j,wM M { (Kr.more { form:=M.form } [n])with waits:=true } vs j a= { form:=M.form,names:=n::vs,roots:=(n::vs).length,parts:=j,opts:=M.ops a,waits:=true } :=fun j=>by
    unfold wM Kr.more;show({ form:=M.form,names:=n::vs,roots:=0+1+vs.length,parts:= []++j,opts:= []++M.ops a,waits:=true } :Kr)=_;rw[iK,iK,eM,lQ 1];rfl
   have Y:∀ {s:List Tk} {x:List Tk},r'=x++s->s.length<=(Tk.word n::r).length:=fun e=>by
    have:=qaf cI e;rw[au]at this;rw[ae];lia
   have gd0:Gd (M.ty a none)↔(n::vs).Nodup/\∀x∈a,Gd (M.tf x):=by rw[H.gd,dN,aG,nd]
   have gd1:Gd (M.ty a (some []))↔(n::vs).Nodup/\∀x∈a,Gd (M.tf x):=by rw[H.gd,bx,aG,nd]
   by_cases hs:Gj r'
   ·cases hs with
    |fin s e=>
     subst e;rw[Ea];refine⟨s,rfl,Y (x:= [_]) rfl,i4.tail,o7 H (by rw[dN,aG];exact I),fun g=>?_,fun g=>i8 fun z=>g (gd0.mpr z)⟩;obtain⟨j,u,U,F,D⟩:=W (gd0.mp g);refine⟨{ form:=M.form,names:=n::vs,roots:=(n::vs).length,parts:=j,opts:=M.ops a },u,?_,rfl,?_,F.congr fun b=>?_⟩
     ·rw[D,eg];unfold ji;rw[dg i5,wC]
     ·have:=H.kt (n::vs) [] false j [] a [] (fun _=>⟨rfl,rfl,rfl⟩) E rfl U .nil (by rw[aG];exact oks);rw[aG,aG,H.nil,aG]at this;exact this
     ·rw[H.rf,dN,aG]
    |dots s e=>
     subst e;rw[AM];refine⟨s,rfl,Y (x:= [_,_,_]) rfl,i4.tail.tail.tail,o7 H (by rw[bx,aG];exact I),fun g=>?_,fun g=>i8 fun z=>g (gd1.mpr z)⟩;obtain⟨j,u,U,F,D⟩:=W (gd1.mp g);refine⟨{ form:=M.form,names:=n::vs,roots:=(n::vs).length,ext:=true,parts:=j,opts:=M.ops a },u,?_,rfl,?_,F.congr fun b=>?_⟩
     ·rw[D,eg];unfold ji;rw[dg i5,AO _ _ rfl]
     ·have:=H.kt (n::vs) [] true j [] a [] (fun z=>by cases z) E rfl U .nil (by rw[aG];exact oks);rw[aG,aG,H.nil,aG]at this;exact this
     ·rw[H.rf,bx,aG]
    |more s e=>
     subst e;rw[AN];have O:Oks s:=i4.tail.tail.tail;have hls:s.length+3<=r.length:=by have:=i3;simp only[ae]at this;lia
     rcases AW s with hw2| ⟨m,r2,rfl,hm⟩
     ·rw[H.no K s O hw2];refine MClaim.no ?_;by_cases hd: (n::vs).Nodup/\∀x∈a,Gd (M.tf x)
      ·obtain⟨j,u,U,F,D⟩:=W hd;rw[D,eg];unfold ji;rw[dg i5,rD _ _ rfl,lm hw2];rfl
      ·exact i8 hd
     ·simp only[ae]at hls hK;have X:o6 m:=O.head;show MClaim (gb _ (M.P K (.word (un m)::T r2))) _ _ _ _;by_cases hd: ((n::vs).Nodup/\∀x∈a,Gd (M.tf x))/\m∉n::vs
      ·obtain⟨j,u,U,F,D⟩:=W hd.1;have run:G=w6 u ({ form:=M.form,names:=(n::vs)++ [m],roots:=(n::vs).length,ext:=true,parts:=j,opts:=M.ops a,waits:=true } ::stk) r2:=by
        rw[D,eg];unfold ji;rw[dg i5,rD _ _ rfl,dQ,qab ⟨hm,hd.2⟩];exact mT rfl
       have hd2: ((n::vs)++ [m]).Nodup:=by
        rw[bJ];exact⟨hd.1.1,by simp,fun a ha b hb e=>hd.2 (by rw[<-aw.mp hb,<-e];exact ha)⟩
       have R:=S { form:=M.form,names:=(n::vs)++ [m],roots:=(n::vs).length,ext:=true,parts:=j,opts:=M.ops a,waits:=true } m r2 u stk (by lia) O hm rfl rfl hd2 F.ok;unfold qo at R;cases Q:M.P K (.word (un m)::T r2)with
       |none=>rw[Q]at R;exact MClaim.no (by rw[run];exact R)
       |some y=>
        obtain⟨b,l2⟩:=y;rw[Q]at R;obtain⟨p,r3,k1,k2,k3,k4,k5,k6,k6',k7,k8⟩:=R;subst k2;have en2: ({ form:=M.form,names:=(n::vs)++ [m],roots:=(n::vs).length,ext:=true,parts:=j,opts:=M.ops a,waits:=true } :Kr).names++p= (n::vs)++(m::p):=by
         show((n::vs)++ [m])++p=_;rw[bD];rfl
        rw[en2]at k7 k8;have k1':b.map M.nm= (m::p).map un:=k1;have nd2: ((a++(some b).getD []).map M.nm).Nodup↔((n::vs)++(m::p)).Nodup:=by
         rw[bx,ay,E,k1',<-ay];refine kh fun v hv=>?_;rcases aT.mp hv with z|z
         ·exact oks v z
         ·rcases am.mp z with y|y
          ·rw[y];exact X
          ·exact k6 v y
        have gd2:Gd (M.ty a (some b))↔((n::vs)++(m::p)).Nodup/\∀x∈b,Gd (M.tf x):=by
         rw[H.gd,nd2,bx];exact⟨fun z=>⟨z.1,fun x J=>z.2 x (aM _ J)⟩,fun z=>⟨z.1,fun x J=>(aT.mp J).elim (hd.1.2 x) (z.2 x)⟩⟩
        by_cases hf:∃t,r3= .sign (cd "}")::t
        ·obtain⟨t,rfl⟩:=hf;rw[wA];simp only[ae]at k3;refine⟨t,rfl,by simp only[ae];lia,k4.tail,o7 H (by rw[bx];exact fun x J=>(aT.mp J).elim (I x) (k6' x)),fun g=>?_,fun g=>by rw[run];exact k8 fun z=>g (gd2.mpr z)⟩;obtain⟨C,Z,p1,p2,p3⟩:=k7 (gd2.mp g);refine⟨{ form:=M.form,names:=(n::vs)++(m::p),roots:=(n::vs).length,ext:=true,parts:=j++C,opts:=M.ops a++M.ops b },Z,?_,rfl,?_,F.trans p2 fun x=>?_⟩
         ·rw[run,p3];unfold ji;rw[dg k5,wC];unfold wM Kr.more;show gu Z stk { form:=M.form,names:=((n::vs)++ [m])++p,roots:=(n::vs).length,ext:=true,parts:=j++C,opts:=M.ops a++M.ops b } t=_;rw[bD (n::vs) [m] p];rfl
         ·exact H.kt (n::vs) (m::p) true j C a b (fun z=>by cases z) E k1' U p1 (fun v hv=>(aT.mp hv).elim (oks v) (fun y=>(am.mp y).elim (fun y=>by rw[y];exact X) (fun y=>k6 v y)))
         ·rw[H.rf,bx];exact⟨fun⟨y,hy,q⟩=>(aT.mp hy).elim (fun z=> .inl ⟨y,z,q⟩) (fun z=> .inr ⟨y,z,q⟩),fun z=>z.elim (fun⟨y,hy,q⟩=>⟨y,aH _ hy,q⟩) (fun⟨y,hy,q⟩=>⟨y,aM _ hy,q⟩)⟩
        ·have hf':∀t,r3≠ .sign (cd "}")::t:=fun t e=>hf ⟨t,e⟩;rw[wB k4 hf'];refine MClaim.no ?_;rw[run];by_cases hdd: ((n::vs)++(m::p)).Nodup/\∀x∈b,Gd (M.tf x)
         ·obtain⟨C,Z,p1,p2,p3⟩:=k7 hdd;rw[p3];unfold ji;rw[dg k5,Ec rfl hf']
         ·exact k8 hdd
      ·have B:G=none:=by
        by_cases hd1: (n::vs).Nodup/\∀x∈a,Gd (M.tf x)
        ·obtain⟨j,u,U,F,D⟩:=W hd1;rw[D,eg];unfold ji;rw[dg i5,rD _ _ rfl,dQ,qaa (fun z=>hd ⟨hd1,z.2⟩)];rfl
        ·exact i8 hd1
       have R:=S { form:=M.form,names:= [m],waits:=true } m r2 [] stk (by lia) O hm rfl rfl (by simp) (by simp);unfold qo at R;cases Q:M.P K (.word (un m)::T r2)with
       |none=>exact MClaim.no B
       |some y=>
        obtain⟨b,l2⟩:=y;rw[Q]at R;obtain⟨p,r3,k1,k2,k3,k4,k5,k6,k6',k7,k8⟩:=R;subst k2;by_cases hf:∃t,r3= .sign (cd "}")::t
        ·obtain⟨t,rfl⟩:=hf;rw[wA];simp only[ae]at k3;refine⟨t,rfl,by simp only[ae];lia,k4.tail,o7 H (by rw[bx];exact fun x J=>(aT.mp J).elim (I x) (k6' x)),fun g=>?_,fun _=>B⟩;exfalso;obtain⟨g1,g2⟩:=(H.gd _ _).mp g;rw[bx]at g1 g2;rw[ay,E,k1]at g1;refine hd ⟨⟨(kh oks).mp (bJ.mp g1).1,fun x J=>g2 x (aH _ J)⟩,fun z=>?_⟩;exact(bJ.mp g1).2.2 (un m) (bA.mpr ⟨m,z,rfl⟩) (un m) af rfl
        ·rw[wB k4 fun t e=>hf ⟨t,e⟩];exact MClaim.no B
   ·rw[Eb i4 hs];refine MClaim.no ?_;by_cases hd: (n::vs).Nodup/\∀x∈a,Gd (M.tf x)
    ·obtain⟨j,u,U,F,D⟩:=W hd;rw[D,eg];unfold ji;rw[dg i5,Ed hs]
    ·exact i8 hd
def mOne:yu (bP×aS):=⟨fun x=>x.1,fun x=>x.2,fun _=> [],"CHOICE",fK,Ql51.Ty.one⟩
def mRow:yu (bP×Bool×aS):=⟨fun x=>x.1,fun x=>x.2.2,fun l=>l.map fun x=>x.2.1,"SEQUENCE",eK,Ql51.Ty.row⟩
theorem n8{k:Nat}{n:List UInt8}{r:List az} :fK (k+1) (.word n::r)=if lC n=false then none else(match dt k r with
   |some (t, .sign [44]:: .word v::q)=>(fK k (.word v::q)).map fun x=>((n,t)::x.1,x.2)
   |some (t,q)=>some ([(n,t)],q)
   |none=>none):=rfl
theorem qR{k:Nat}{n:List UInt8}{r:List az} :eK (k+1) (.word n::r)=if lC n=false then none else(match dt k r with
   |none=>none
   |some (t,q)=>
    let(o,q):=(match q with
     | .word w::s=>if w=bi "OPTIONAL" then(true,s)else(false,q)
     |_=>(false,q))
    (match q with
    | .sign [44]:: .word v::s=>(eK k (.word v::s)).map fun x=>((n,o,t)::x.1,x.2)
    |_=>some ([(n,o,t)],q))):=rfl
def ij{e:Type}(P:List az->Option (List e×List az))(x:e)(l:List az):Option (List e×List az):=match l with
 | .sign [44]:: .word v::s=>(P (.word v::s)).map fun y=>(x::y.1,y.2)
 |_=>some ([x],l)
theorem Jm{g:Type}{P:List az->Option (List g×List az)}{x:g}{q:List Tk}(h:Oks q)(r:oW q):ij P x (T q)=some ([x],T q):=by
 unfold ij;split
 ·rename_i v s e;exfalso;obtain⟨z,j,y⟩:=d6 h e;rw[j]at h;obtain⟨p,u,B⟩:=wz h.tail y;exact r _ p (by rw[j,u];rfl)
 ·rfl
theorem Ew:yw mOne where
 gd:=fun l m=>⟨fun h=>by cases h;exact⟨by assumption,by assumption⟩,fun h=> .one l m h.1 h.2⟩
 rf:=fun b l m=>⟨fun h=>by cases h with|one _ _ x e g=>exact⟨x,e,g⟩,fun⟨x,e,g⟩=> .one l m x e g⟩
 kt:=fun u p ext pa j a b G F E D C B=>KT.one u p ext pa j a b G F E D C B
 nil:=rfl
 no:=fun K q h y=>by
  show fK K (T q)=none;cases K with
  |zero=>rw[fK]
  |succ K=>
   cases q with
   |nil=>rfl
   |cons t r=>
    cases t with
    |word v=>
     show fK (K+1) (.word (un v)::T r)=none;rw[n8,lg h.head,y v r rfl,qab rfl]
    |num z=>rfl
    |bits l=>rfl
    |octs l=>rfl
    |sign l=>rfl
theorem row_ok:yw mRow where
 gd:=fun l m=>⟨fun h=>by cases h;exact⟨by assumption,by assumption⟩,fun h=> .row l m h.1 h.2⟩
 rf:=fun b l m=>⟨fun h=>by cases h with|row _ _ x e g=>exact⟨x,e,g⟩,fun⟨x,e,g⟩=> .row l m x e g⟩
 kt:=fun u p ext pa j a b G F E D C B=>by
  have:=KT.row u p ext pa j a b G F E D C B;rw[ay]at this;exact this
 nil:=rfl
 no:=fun K q h y=>by
  show eK K (T q)=none;cases K with
  |zero=>rw[eK]
  |succ K=>
   cases q with
   |nil=>rfl
   |cons t r=>
    cases t with
    |word v=>
     show eK (K+1) (.word (un v)::T r)=none;rw[qR,lg h.head,y v r rfl,qab rfl]
    |num z=>rfl
    |bits l=>rfl
    |octs l=>rfl
    |sign l=>rfl
def wN{p:Type}(M:yu p)(s:Option (List p×List az))(o:Kr)(n:List Nat)(b:Nat)(ns:List (List Nat))(stk:List Kr)(e:Option ((Kr×List (List Nat))×List Tk)):Prop:=match s with
 |none=>e=none
 |some (a,l')=>∃(vs:List (List Nat)) (g:List Tk),a.map M.nm=un n::vs.map un/\l'=T g/\g.length<=b/\Oks g/\oW g/\(∀v∈vs,o6 v)/\(∀x∈a,tO (M.tf x))/\
   (((o.names++vs).Nodup/\∀x∈a,Gd (M.tf x))->∃(j:List Kd) (h:List (List Nat)),KTs j (a.map M.tf)/\NsUp ns h (fun b=>∃x∈a,Rf b (M.tf x))/\e=ji h stk (wM M o vs j a) g)/\
   (¬((o.names++vs).Nodup/\∀x∈a,Gd (M.tf x))->e=none)
theorem yx{α:Type}{M:yu α}(H:yw M)(Q:∀x a,M.ops (x::a)=M.ops [x]++M.ops a){K:Nat}(S:tP M K){o:Kr}{n:List Nat}{b:Nat}{q:List Tk}{ns:List (List Nat)}{stk:List Kr}{x:α}{j:Option ((Kr×List (List Nat))×List Tk)}
  (hx:M.nm x=un n) (hr:tO (M.tf x)) (W:q.length<=b) (hbK:b < K) (u:Oks q) (p:o.waits=true) (hf:o.form=M.form) (hd:o.names.Nodup) (hns:∀n∈ns,o6 n)
  (X:Gd (M.tf x)->∃(D:Kd) (h:List (List Nat)),KT D (M.tf x)/\NsUp ns h (fun b=>Rf b (M.tf x))/\j=ji h stk { o with parts:=o.parts++ [D],opts:=o.opts++M.ops [x] } q)
  (g2:¬Gd (M.tf x)->j=none):wN M (ij (M.P K) x (T q)) o n b ns stk j:=by
 by_cases hc:oW q
 ·rw[Jm u hc];refine⟨[],q,by rw[bg,hx];rfl,rfl,W,u,hc,by simp,by simpa using hr,fun g=>?_,fun g=>g2 fun z=>g ⟨by rw[aG];exact hd,by simpa using z⟩⟩;obtain⟨D,h,k1,k2,k3⟩:=X (g.2 x af);refine⟨[D],h, .cons k1 .nil,k2.congr fun y=>⟨fun⟨z,hz,q⟩=>by rw[aw.mp hz]at q;exact q,fun z=>⟨x,af,z⟩⟩,?_⟩;rw[k3];unfold wM;rw[yj]
 ·obtain⟨v,C,rfl⟩:∃v C,q= .sign (cd ","):: .word v::C:=bz fun z=>hc fun v q e=>z ⟨v,q,e⟩;have hv:o6 v:=u.tail.head;have e:ij (M.P K) x (T (.sign (cd ","):: .word v::C))= (M.P K (.word (un v)::T C)).map fun y=>(x::y.1,y.2):=rfl;rw[e];simp only[ae]at W;have nm:∀(h:List (List Nat)) (J:Kr),ji h stk J (.sign (cd ","):: .word v::C)=if cW v=true/\v∉J.names then w6 h ({ Kr.more J [v]with waits:=true } ::stk) C else none:=fun h J=>by
   unfold ji;rw[tG,dQ];by_cases z:cW v=true/\v∉J.names
   ·rw[qab z,qab z];exact mT (k:= { Kr.more J [v]with waits:=true }) rfl
   ·rw[qaa z,qaa z];rfl
  by_cases U:cW v=true
  ·by_cases O:Gd (M.tf x)/\v∉o.names
   ·obtain⟨D,h,k1,k2,k3⟩:=X O.1;rw[nm,qab ⟨U,O.2⟩]at k3;have hd': (o.names++ [v]).Nodup:=by
     rw[bJ];exact⟨hd,by simp,fun a ha b W e=>O.2 (by rw[<-aw.mp W,<-e];exact ha)⟩
    have F:=S { Kr.more { o with parts:=o.parts++ [D],opts:=o.opts++M.ops [x] } [v]with waits:=true } v C h stk (by lia) u.tail U rfl hf hd' k2.ok;unfold qo at F;cases Y:M.P K (.word (un v)::T C)with
    |none=>rw[Y]at F;rw[k3];exact F
    |some y=>
     obtain⟨a,l'⟩:=y;rw[Y]at F;obtain⟨vs,Z,i1,i2,i3,i4,i5,i6,I,i7,i8⟩:=F;have en: ({ Kr.more { o with parts:=o.parts++ [D],opts:=o.opts++M.ops [x] } [v]with waits:=true } :Kr).names++vs=o.names++v::vs:=by
      show(o.names++ [v])++vs=_;rw[bD];rfl
     rw[en]at i7 i8;refine⟨v::vs,Z,by show M.nm x::a.map M.nm=_;rw[hx,i1];rfl,i2,by lia,i4,i5,fun w p=>?_,fun w p=>?_,fun g=>?_,fun g=>?_⟩
     ·rcases am.mp p with z|z
      ·rw[z];exact hv
      ·exact i6 w z
     ·rcases am.mp p with z|z
      ·rw[z];exact hr
      ·exact I w z
     ·obtain⟨G,ns2,p1,p2,p3⟩:=i7 ⟨g.1,fun w p=>g.2 w (ak _ p)⟩;refine⟨D::G,ns2, .cons k1 p1,k2.trans p2 fun y=>?_,?_⟩
      ·exact⟨fun⟨z,hz,q⟩=>(am.mp hz).elim (fun e=> .inl (by rw[e]at q;exact q)) (fun e=> .inr ⟨z,e,q⟩),fun z=>z.elim (fun q=>⟨x,af,q⟩) (fun⟨w,p,q⟩=>⟨w,ak _ p,q⟩)⟩
      ·rw[k3,p3];have eg:wM M { Kr.more { o with parts:=o.parts++ [D],opts:=o.opts++M.ops [x] } [v]with waits:=true } vs G a=wM M o (v::vs) (D::G) (x::a):=by
        unfold wM Kr.more;dsimp only;rw[Q x a,p];simp only[bD,rj,iK,ae,iL];congr 1;split
        ·rfl
        ·lia
       rw[eg]
     ·rw[k3];exact i8 fun z=>g ⟨z.1,fun w p=>(am.mp p).elim (fun e=>by rw[e];exact O.1) (z.2 w)⟩
   ·have E:j=none:=by
     by_cases B:Gd (M.tf x)
     ·obtain⟨D,h,k1,k2,k3⟩:=X B;rw[k3,nm,qaa (fun z=>O ⟨B,z.2⟩)]
     ·exact g2 B
    have F:=S { form:=M.form,names:= [v],waits:=true } v C [] stk (by lia) u.tail U rfl rfl (by simp) (by simp);unfold qo at F;cases Y:M.P K (.word (un v)::T C)with
    |none=>exact E
    |some y=>
     obtain⟨a,l'⟩:=y;rw[Y]at F;obtain⟨vs,Z,i1,i2,i3,i4,i5,i6,I,i7,i8⟩:=F;refine⟨v::vs,Z,by show M.nm x::a.map M.nm=_;rw[hx,i1];rfl,i2,by lia,i4,i5,fun w p=>?_,fun w p=>?_,fun g=>?_,fun _=>E⟩
     ·rcases am.mp p with z|z
      ·rw[z];exact hv
      ·exact i6 w z
     ·rcases am.mp p with z|z
      ·rw[z];exact hr
      ·exact I w z
     ·exfalso;refine O ⟨g.2 x af,fun z=>?_⟩;exact(bJ.mp g.1).2.2 v z v af rfl
  ·have hl':cW v=false:=by simpa using U
   have hno:=H.no K (.word v::C) u.tail (fun w r e=>by injection e with e1 e2;injection e1 with e1;rw[<-e1];exact hl');have R:M.P K (.word (un v)::T C)=none:=hno;rw[R];show j=none;by_cases B:Gd (M.tf x)
   ·obtain⟨D,h,k1,k2,k3⟩:=X B;rw[k3,nm,qaa (fun z=>U z.1)]
   ·exact g2 B
def Jn(K:Nat):Prop:=∀(ts:List Tk) (ns:List (List Nat)) (stk:List Kr),ts.length < K->Oks ts->(∀n∈ns,o6 n)->MClaim (dt K (T ts)) ns stk ts.length (w6 ns stk ts)
theorem qS{K:Nat}{n:List UInt8}{t:aS}{l:List az} : (match some (t,l)with
   |some (t, .sign [44]:: .word v::q)=>(fK K (.word v::q)).map fun x=>((n,t)::x.1,x.2)
   |some (t,q)=>some ([(n,t)],q)
   |none=>none)=ij (mOne.P K) (n,t) l:=by
 unfold ij;split
 ·rename_i e;cases e;rfl
 ·rename_i g e;cases e;split
  ·exact(g _ _ rfl).elim
  ·rfl
 ·rename_i e;cases e
theorem zY{K:Nat}(TS:Jn K)(S:tP mOne K):tP mOne (K+1):=by
 intro o n r ns stk J h B z v hd e;show wN mOne (fK (K+1) (.word (un n)::T r)) o n r.length ns stk (w6 ns (o::stk) r);rw[n8,lg h.head,B,qaa (by decide)];have C:=TS r ns (o::stk) (by lia) h.tail e;cases p:dt K (T r)with
 |none=>rw[p]at C;exact C
 |some x=>
  obtain⟨t,l⟩:=x;rw[p]at C;obtain⟨q,rfl,I,G,F,E,D⟩:=C;rw[qS];refine yx Ew (fun _ _=>rfl) S (x:=(un n,t)) rfl F I (by lia) G z v hd e (fun g=>?_) D;obtain⟨k,u,k1,k2,k3,y⟩:=E g;refine⟨k.fin,u,k3,y,?_⟩;rw[k1,qe k2];have j:o.form="CHOICE":=v;have p:f7 o k.fin q=fw { o with parts:=o.parts++ [k.fin],opts:=o.opts++mOne.ops [(un n,t)] } q:=by
   unfold f7;rw[qaa (show ¬o.form="SEQUENCE OF" by rw[j];decide+kernel),qaa (show ¬o.form="SEQUENCE" by rw[j];decide+kernel)];show fw { o with parts:=o.parts++ [k.fin] } q=fw { o with parts:=o.parts++ [k.fin],opts:=o.opts++ [] } q;rw[aG]
  rw[p];exact yt _ _ _ _
theorem yy{K:Nat}(TS:Jn K)(S:tP mRow K):tP mRow (K+1):=by
 intro o n r ns stk hK h W Q G hd v;show wN mRow (eK (K+1) (.word (un n)::T r)) o n r.length ns stk (w6 ns (o::stk) r);rw[qR,lg h.head,W,qaa (by decide)];have C:=TS r ns (o::stk) (by lia) h.tail v;cases I:dt K (T r)with
 |none=>rw[I]at C;exact C
 |some x=>
  obtain⟨t,l⟩:=x;rw[I]at C;obtain⟨q,rfl,c2,F,c4,c5,Z⟩:=C;dsimp only;have j:o.form="SEQUENCE":=G
  -- whether it may be left out
  have u:∀(b:Bool) (p:List Tk),p.length<=q.length->Oks p->(∀y,f7 o y q=fw { o with parts:=o.parts++ [y],opts:=o.opts++ [b] } p)->
    wN mRow (ij (mRow.P K) (un n,b,t) (T p)) o n r.length ns stk (w6 ns (o::stk) r):=by
   intro b p U D R;refine yx row_ok (fun _ _=>rfl) S (x:=(un n,b,t)) rfl c4 (by lia) (by lia) D Q G hd v (fun g=>?_) Z;obtain⟨k,B,k1,k2,k3,O⟩:=c5 g;refine⟨k.fin,B,k3,O,?_⟩;rw[k1,qe k2,R];exact yt _ _ _ _
  by_cases E:∃s,q= .word (cd "OPTIONAL")::s
  ·obtain⟨s,rfl⟩:=E;have e: (match T (.word (cd "OPTIONAL")::s)with
     | .word w::s'=>if w=bi "OPTIONAL" then(true,s')else(false,T (.word (cd "OPTIONAL")::s))
     |_=>(false,T (.word (cd "OPTIONAL")::s)))= (true,T s):=by
    show(if un (cd "OPTIONAL")=bi "OPTIONAL" then _ else _)=_;rw[qab (by rw[qd])]
   rw[e];refine u true s (by simp) F.tail fun y=>?_;unfold f7;rw[qaa (show ¬o.form="SEQUENCE OF" by rw[j];decide+kernel),qab j,bG]
  ·have e: (match T q with
     | .word w::s=>if w=bi "OPTIONAL" then(true,s)else(false,T q)
     |_=>(false,T q))= (false,T q):=by
    split
    ·rename_i w s e;obtain⟨M,Y,e2⟩:=wz F e;refine qaa fun z=>E ⟨M,?_⟩;rw[Y,z,qd,iH (by decide)]
    ·rfl
   rw[e];refine u false q (aC _) F fun y=>?_;unfold f7;have J:aJ (.word (cd "OPTIONAL")) q=none:=by
    cases X:aJ (.word (cd "OPTIONAL")) q with
    |none=>rfl
    |some s=>exact absurd ⟨s,bL X⟩ E
   rw[qaa (show ¬o.form="SEQUENCE OF" by rw[j];decide+kernel),qab j,J]
def IntOk:Prop:=∀r,Oks r->dU (T r)= (eG r).map (fun x=>((x.1.low,x.1.high),T x.2))/\∀x,eG r=some x->x.1= { form:="INTEGER",low:=x.1.low,high:=x.1.high } /\Oks x.2
def n9(k:Nat)(q:List az):Option (aS×List az):=match fz q with
 |some (x, .word o::s)=>if o≠bi "OF" then none else(dt k s).map fun y=>(.many x.1 x.2 y.1,y.2)
 |_=>none
def fi(k:Nat)(r:List az):Option (aS×List az):=match r with
 | .sign [123]:: .sign [125]::s=>some (.row [] none,s)
 | .sign [123]:: .sign [46,46,46]:: .sign [125]::s=>some (.row [] (some []),s)
 | .sign [123]::q=>iz mRow k q
 |q=>n9 k q
def Ex(e:Nat->Option Nat->aS)(r:List az):Option (aS×List az):=match r with
 | .word s::q=>if s=bi "STRING" then(fz q).map fun x=>(e x.1.1 x.1.2,x.2)else none
 |_=>none
def brk{e:Type}(F:List az->Option e)(r:List az):Option e:=match r with
 | .sign [123]::q=>F q
 |_=>none
set_option smartUnfolding false in
theorem AX{k:Nat}{w:List UInt8}{r:List az} :dt (k+1) (.word w::r)=
   (if w=bi "BOOLEAN" then some (.bool,r)
   else if w=bi "NULL" then some (.null,r)
   else if w=bi "INTEGER" then(dU r).map fun x=>(.int x.1.1 x.1.2,x.2)
   else if w=bi "BIT" then Ex .bits r
   else if w=bi "OCTET" then Ex .octets r
   else if w=bi "ENUMERATED" then brk (oZ k) r
   else if w=bi "CHOICE" then brk (iz mOne k) r
   else if w=bi "SEQUENCE" then fi k r
   else if ng w=true/\([bi "SIZE",bi "MIN",bi "MAX",bi "OF",bi "STRING",bi "OPTIONAL",bi "TRUE",bi "FALSE"].contains w)=false then some (.ref w,r)
   else none):=by kernel_rfl
inductive Lg{β:Type}(F:List az->Option β)(l:List az):Option β->Prop
 |ok (q):l= .sign [123]::q->Lg F l (F q)
 |no:Lg F l none
def BkP{e:Type}(F:List az->Option e)(l:List az):Prop:=Lg F l (brk F l)
inductive HK(k:Nat)(l:List az):Option (aS×List az)->Prop
 |a (s):l= .sign [123]:: .sign [125]::s->HK k l (some (.row [] none,s))
 |b (s):l= .sign [123]:: .sign [46,46,46]:: .sign [125]::s->HK k l (some (.row [] (some []),s))
 |c (q):l= .sign [123]::q->HK k l (iz mRow k q)
 |d: (∀q,l≠ .sign [123]::q)->HK k l (n9 k l)
def HL(k:Nat)(l:List az):Prop:=HK k l (fi k l)
section
variable {β:Type}{F:List az->Option β}{k:Nat}{c:UInt8}{b:List UInt8}{l:List az}
theorem yz(e:brk F l=none):BkP F l:=Eq.substr (p:=Lg F l) e .no
set_option smartUnfolding false in
theorem bk_1(h:c≠123):BkP F (.sign (c::b)::l):=yz (qah h)
theorem AY(F:List az->Option β)(l:List az):Lg F l (brk F l):=by
 show BkP F l;cases l with
 |nil=>exact yz rfl
 |cons t l=>
 cases t with
 |sign b=>
  cases b with
  |nil=>exact yz rfl
  |cons c b=>
  by_cases h:c=123
  ·subst h;cases b with
   |nil=>exact .ok l rfl
   |cons=>exact yz rfl
  exact bk_1 h
 |_=>exact yz rfl
theorem oa(e:fi k (.sign [123]::l)=iz mRow k l):HL k (.sign [123]::l):=Eq.substr (p:=HK k _) e (.c l rfl)
theorem Ey(e:fi k l=n9 k l)(h:∀q,l≠ .sign [123]::q):HL k l:=Eq.substr (p:=HK k l) e (.d h)
set_option smartUnfolding false in
theorem sq_1(h:c≠123):HL k (.sign (c::b)::l):=Ey (qah h) fun q e=>by injection e with e;injection e with e;injection e with e;exact h e
set_option smartUnfolding false in
theorem sq_2(h:c≠125)(h':c≠46):HL k (.sign [123]:: .sign (c::b)::l):=oa ((qah h).trans (qah h'))
set_option smartUnfolding false in
theorem sq_3(h:c≠46):HL k (.sign [123]:: .sign (46::c::b)::l):=oa (qah h)
set_option smartUnfolding false in
theorem sq_4(h:c≠46):HL k (.sign [123]:: .sign (46::46::c::b)::l):=oa (qah h)
set_option smartUnfolding false in
theorem sq_5(h:c≠125):HL k (.sign [123]:: .sign [46,46,46]:: .sign (c::b)::l):=oa (qah h)
theorem rG(k:Nat)(l:List az):HK k l (fi k l):=by
 show HL k l;cases l with
 |nil=>exact Ey rfl nofun
 |cons t l=>
 cases t with
 |sign b=>
  cases b with
  |nil=>exact Ey rfl nofun
  |cons c b=>
  by_cases h:c=123
  ·subst h;cases b with
   |cons=>exact Ey rfl nofun
   |nil=>
   cases l with
   |nil=>exact oa rfl
   |cons t l=>
   cases t with
   |sign b=>
    cases b with
    |nil=>exact oa rfl
    |cons c b=>
    by_cases h:c=125
    ·subst h;cases b with
     |nil=>exact .a l rfl
     |cons=>exact oa rfl
    by_cases h':c=46
    ·subst h';cases b with
     |nil=>exact oa rfl
     |cons c b=>
     by_cases h:c=46
     ·subst h;cases b with
      |nil=>exact oa rfl
      |cons c b=>
      by_cases h:c=46
      ·subst h;cases b with
       |cons=>exact oa rfl
       |nil=>
       cases l with
       |nil=>exact oa rfl
       |cons t l=>
       cases t with
       |sign b=>
        cases b with
        |nil=>exact oa rfl
        |cons c b=>
        by_cases h:c=125
        ·subst h;cases b with
         |nil=>exact .b l rfl
         |cons=>exact oa rfl
        exact sq_5 h
       |_=>exact oa rfl
      exact sq_4 h
     exact sq_3 h
    exact sq_2 h h'
   |_=>exact oa rfl
  exact sq_1 h
 |_=>exact Ey rfl nofun
end
theorem Ez{g:Type}{F:List az->Option g}{r:List Tk}(h:Oks r)(p:¬∃q,r= .sign (cd "{")::q):brk F (T r)=none:=by
 have v:=AY F (T r);generalize brk F (T r)=o at v ⊢;cases v with
 |ok q e=>
  obtain⟨j,u,x⟩:=d6 h e;exact absurd ⟨j,by rw[u];rfl⟩ p
 |no=>rfl
theorem yA{g:Type}{F:List az->Option g}{r:List az}{x:g}(h:brk F r=some x):∃q,r= .sign [123]::q/\F q=some x:=by
 have v:=AY F r;generalize brk F r=o at v h;cases v with
 |ok q e=>exact⟨q,e,h⟩
 |no=>cases h
theorem G5(ns:List (List Nat))(stk:List Kr)(w:List Nat)(r:List Tk):w6 ns stk (.word w::r)=match sV ns w r with
 |none=>none
 |some x=>gu x.1.2 stk x.1.1 x.2:=rfl
theorem MClaim.once{t:aS}{ns:List (List Nat)}{stk:List Kr}{b:Nat}{k:Kr}{e:List Tk}(v:e.length<=b)(u:Oks e)(h:∀x,¬Rf x t)(r:Gd t)(q:k.waits=false)(p:KT k.fin t)(g:∀n∈ns,o6 n):MClaim (some (t,T e)) ns stk b (gu ns stk k e):=
 ⟨e,rfl,v,u,fun x j=>absurd j (h x),fun _=>⟨k,ns,rfl,q,p, .refl g h⟩,fun z=>absurd r z⟩
theorem EClaim.m{o:Option (aS×List az)}{q:List Tk}{m:Option (Kr×List Tk)}(C:EClaim o q m){ns:List (List Nat)}{stk:List Kr}{b:Nat}(E:q.length<=b)(p:∀t l,o=some (t,l)->∀x,¬Rf x t)(h:∀n∈ns,o6 n):
  MClaim o ns stk b (match gB ns m with
   |none=>none
   |some x=>gu x.1.2 stk x.1.1 x.2):=by
 cases o with
 |none=>
  have e:m=none:=C;rw[e];exact rfl
 |some x=>
  obtain⟨t,j⟩:=x;obtain⟨r,z,D,y,v,u⟩:=C;refine⟨r,z,by lia,y,fun x B=>absurd B (p t j rfl x),fun g=>?_,fun g=>by rw[u g];rfl⟩;obtain⟨k,k1,k2,k3⟩:=v g;exact⟨k,ns,by rw[k1];rfl,k2,k3, .refl h (p t j rfl)⟩
theorem vD{k:Kr}{r:List Tk}{x: (Unit×Kr)×List Tk}(h:Oks r)(e:fZ k r=some x):Oks x.2:=by
 rw[n4]at e;split at e
 ·cases e;exact h
 ·rename_i G C;have q:=h.skip C;split at e
  ·cases e
  ·rename_i F B;have p:=q.skip B;split at e
   ·cases e
   ·rename_i E z;have j:=p.skip z;split at e
    ·cases e
    ·rename_i y v;have g:=qN j v;split at e
     ·cases e
     ·rename_i D u;cases e;exact g.skip u
theorem qT{k:Kr}{r:List Tk}{x: (Unit×Kr)×List Tk}(e:fZ k r=some x):x.1.2= { k with low:=x.1.2.low,high:=x.1.2.high } :=by
 rw[n4]at e;split at e
 ·cases e;rfl
 ·split at e
  ·cases e
  ·split at e
   ·cases e
   ·split at e
    ·cases e
    ·split at e
     ·cases e
     ·cases e;rfl
theorem vE{form:PySem.Str}{r:List Tk}{ns:List (List Nat)}{stk:List Kr}(h:Oks r)(u:∀n∈ns,o6 n)(g:Nat->Option Nat->aS)(D:∀a b,Gd (g a b))(B:∀a b x,¬Rf x (g a b))(C:∀p v:Option Int,Sz p v->KT (.mk form [] p v [] 0 false [] []) (g (p.getD 0).toNat (v.map bt))):
  MClaim (Ex g (T r)) ns stk r.length (match gB ns (hU form r)with
   |none=>none
   |some x=>gu x.1.2 stk x.1.1 x.2):=by
 unfold hU;cases r with
 |nil=>exact rfl
 |cons t q=>
  cases t with
  |word s=>
   show MClaim (if un s=bi "STRING" then(fz (T q)).map fun x=>(g x.1.1 x.1.2,x.2)else none) _ _ _ _;by_cases e:s=cd "STRING"
   ·rw[qab ((eJ h.head (by decide)).mpr e),e,bG];dsimp only;rw[yh h.tail { form:=form } rfl rfl];cases j:fZ { form:=form } q with
    |none=>exact rfl
    |some x=>
     have y:=qT j;have E:=(mS j).1;refine MClaim.once (t:=g _ _) (by rw[ae];lia) (vD h.tail j) (B _ _) (D _ _) (by rw[y]) ?_ u;have:=C x.1.2.low x.1.2.high (yk rfl rfl j);rw[y];exact this
   ·rw[qaa (fun z=>e ((eJ h.head (by decide)).mp z)),cM (fun z=>e (by injection z))];exact rfl
  |num z=>exact rfl
  |bits l=>exact rfl
  |octs l=>exact rfl
  |sign l=>exact rfl
theorem Lh{K:Nat}(TS:Jn K){r:List Tk}{ns:List (List Nat)}{stk:List Kr}(hK:r.length < K+1)(h:Oks r)(E:∀n∈ns,o6 n):MClaim (n9 K (T r)) ns stk r.length (match gB ns (kX r)with
   |none=>none
   |some x=>gu x.1.2 stk x.1.1 x.2):=by
 unfold n9 kX;rw[yh h { form:="SEQUENCE OF" } rfl rfl];cases B:fZ { form:="SEQUENCE OF" } r with
 |none=>exact rfl
 |some x=>
  have v:=qT B;have I:=(mS B).1;have p:=vD h B;have j:=yk rfl rfl B;obtain⟨⟨u,k0⟩,q⟩:=x;dsimp only at v I p j ⊢;have no:∀m:Option ((Kr×List (List Nat))×List Tk),m=none->(∀w s,T q≠ .word w::s)->MClaim (match JO (fun x: (Unit×Kr)×List Tk=>(((x.1.2.low.getD 0).toNat,x.1.2.high.map bt),T x.2)) (some ((u,k0),q))with
   |some (x, .word o::s)=>if o≠bi "OF" then none else(dt K s).map fun y=>(.many x.1 x.2 y.1,y.2)
   |_=>none) ns stk r.length m:=by
   intro m S G;show MClaim (match some (((k0.low.getD 0).toNat,k0.high.map bt),T q)with
    |some (x, .word o::s)=>if o≠bi "OF" then none else(dt K s).map fun y=>(.many x.1 x.2 y.1,y.2)
    |_=>none) ns stk r.length m
   generalize T q=l at G ⊢;split
   ·rename_i o s e;cases e;exact absurd rfl (G o s)
   ·exact MClaim.no S
  cases q with
  |nil=>exact no _ rfl (by intro w s z;cases z)
  |cons t s=>
   cases t with
   |num z=>exact no _ rfl (by intro w s z;cases z)
   |bits l=>exact no _ rfl (by intro w s z;cases z)
   |octs l=>exact no _ rfl (by intro w s z;cases z)
   |sign l=>exact no _ rfl (by intro w s z;cases z)
   |word w=>
    show MClaim (if un w≠bi "OF" then none else(dt K (T s)).map fun y=>(.many (k0.low.getD 0).toNat (k0.high.map bt) y.1,y.2)) _ _ _ _;by_cases e:w=cd "OF"
    ·rw[qaa (fun z=>z ((eJ p.head (by decide)).mpr e)),e,bG];show MClaim _ ns stk r.length (gu ns stk { k0 with waits:=true } s);rw[mT rfl];simp only[ae]at I;have C:=TS s ns ({ k0 with waits:=true } ::stk) (by lia) p.tail E;cases M:dt K (T s)with
     |none=>rw[M]at C;exact C
     |some y=>
      obtain⟨t,l⟩:=y;rw[M]at C;obtain⟨q,rfl,c2,Z,Y,X,W⟩:=C;have J:Gd (.many (k0.low.getD 0).toNat (k0.high.map bt) t)↔Gd t:=⟨fun g=>by cases g;assumption, .many _ _ _⟩;have F:∀b,Rf b (.many (k0.low.getD 0).toNat (k0.high.map bt) t)↔Rf b t:=fun b=>⟨fun g=>by cases g;assumption, .many _ _ _⟩;refine⟨q,rfl,by lia,Z,fun b U=>Y b ((F b).mp U),fun g=>?_,fun g=>W fun z=>g (J.mpr z)⟩;obtain⟨k,D,k1,k2,k3,O⟩:=X (J.mp g);refine⟨{ k0 with parts:= [k.fin],waits:=false },D,?_,rfl,?_,O.congr F⟩
      ·rw[k1,qe k2];have Q:f7 { k0 with waits:=true } k.fin q=some (((), { k0 with parts:=k0.parts++ [k.fin],waits:=false }),q):=by
        unfold f7;rw[qab (show({ k0 with waits:=true } :Kr).form="SEQUENCE OF" by rw[v])]
       rw[Q];have R:k0.parts= []:=by rw[v]
       rw[R];rfl
      ·rw[v];exact KT.many k0.low k0.high k.fin t j k3
    ·rw[qab (fun z=>e ((eJ p.head (by decide)).mp z)),cM (fun z=>e (by injection z))];exact rfl
theorem yB:∀x,¬Rf x (.row [] none):=fun x h=>by
 cases h with
 |row _ _ y hy _=>simp at hy
theorem yC:∀x,¬Rf x (.row [] (some [])):=fun x h=>by
 cases h with
 |row _ _ y hy _=>simp at hy
theorem Jo{K:Nat}(TS:Jn K)(S:tP mRow K){r:List Tk}{ns:List (List Nat)}{stk:List Kr}(O:r.length < K+1)(h:Oks r)(g:∀n∈ns,o6 n):MClaim (fi K (T r)) ns stk r.length (match gB ns (uv r)with
   |none=>none
   |some x=>gu x.1.2 stk x.1.1 x.2):=by
 by_cases F:∃q,r= .sign (cd "{")::q
 ·obtain⟨q,rfl⟩:=F;have u:=h.tail;simp only[ae]at O;unfold uv;rw[bG];dsimp only;unfold vo;by_cases J:∃s,q= .sign (cd "}")::s
  ·obtain⟨s,rfl⟩:=J;rw[bG];show MClaim (some (.row [] none,T s)) ns stk _ (gu ns stk { form:="SEQUENCE" } s);refine MClaim.once (by simp only[ae];lia) u.tail yB (.row [] none (by simp) (by simp)) rfl ?_ g;exact KT.row [] [] false [] [] [] [] (fun _=>⟨rfl,rfl,rfl⟩) rfl rfl .nil .nil (by simp)
  ·have D:aJ (.sign (cd "}")) q=none:=by
    cases e:aJ (.sign (cd "}")) q with
    |none=>rfl
    |some s=>exact absurd ⟨s,bL e⟩ J
   rw[D];dsimp only;by_cases I:∃s,q= .sign (cd "...")::s
   ·obtain⟨s,rfl⟩:=I;rw[bG];dsimp only;by_cases G:∃B,s= .sign (cd "}")::B
    ·obtain⟨B,rfl⟩:=G;rw[bG];show MClaim (some (.row [] (some []),T B)) ns stk _ (gu ns stk { form:="SEQUENCE",ext:=true } B);refine MClaim.once (by simp only[ae];lia) u.tail.tail yC (.row [] (some []) (by simp) (by simp)) rfl ?_ g;exact KT.row [] [] true [] [] [] [] (fun z=>by cases z) rfl rfl .nil .nil (by simp)
    ·have U:aJ (.sign (cd "}")) s=none:=by
      cases e:aJ (.sign (cd "}")) s with
      |none=>rfl
      |some B=>exact absurd ⟨B,bL e⟩ G
     rw[U];show MClaim (fi K (.sign [123]::T (.sign (cd "...")::s))) ns stk _ none;have e:fi K (.sign [123]::T (.sign (cd "...")::s))=none:=by
      have E:iz mRow K (T (.sign (cd "...")::s))=none:=by
       unfold iz jB;rw[row_ok.no K _ u (by intro v r e;cases e)];rfl
      have v:=rG K (.sign [123]::T (.sign (cd "...")::s));generalize fi K (.sign [123]::T (.sign (cd "...")::s))=o at v ⊢;cases v with
      |a _ e=>injection e with _ e;injection e with e _;injection e with e;exact absurd e (by decide)
      |b _ e=>
       injection e with _ e;injection e with _ e
       obtain⟨p,y,M⟩:=d6 u.tail e;exact absurd ⟨p,by rw[y];rfl⟩ G
      |c _ e=>injection e with _ e;rw[<-e];exact E
      |d hx=>exact absurd rfl (hx _)
     rw[e];exact rfl
   ·have W:aJ (.sign (cd "...")) q=none:=by
     cases e:aJ (.sign (cd "...")) q with
     |none=>rfl
     |some s=>exact absurd ⟨s,bL e⟩ I
    rw[W];dsimp only;have e:fi K (T (.sign (cd "{")::q))=iz mRow K (T q):=by
     have v:=rG K (T (.sign (cd "{")::q));generalize fi K (T (.sign (cd "{")::q))=o at v ⊢;cases v with
     |a _ e=>
      injection e with _ e
      obtain⟨p,y,M⟩:=d6 u e;exact absurd ⟨p,by rw[y];rfl⟩ J
     |b _ e=>
      injection e with _ e
      obtain⟨p,y,M⟩:=d6 u e;exact absurd ⟨p,by rw[y];rfl⟩ I
     |c _ e=>injection e with _ e;rw[<-e]
     |d hx=>exact absurd rfl (hx _)
    rw[e];have C:=HJ row_ok S (stk:=stk) (q:=q) (by lia) u g;have X: (match gB ns (match ca { form:="SEQUENCE" } q with
      |none=>none
      |some x=>some ({ x.1.2 with waits:=true },x.2))with
      |none=>none
      |some x=>gu x.1.2 stk x.1.1 x.2)=Jl mRow ns stk q:=by
     unfold Jl;show _=match ca { form:="SEQUENCE" } q with
      |none=>none
      |some x=>gu ns stk { x.1.2 with waits:=true } x.2
     cases ca { form:="SEQUENCE" } q with
     |none=>rfl
     |some x=>rfl
    suffices j:MClaim (iz mRow K (T q)) ns stk (Tk.sign (cd "{")::q).length (Jl mRow ns stk q) by rw[<-X]at j;exact j
    cases Q:iz mRow K (T q)with
    |none=>rw[Q]at C;exact C
    |some x=>
     obtain⟨t,l⟩:=x;rw[Q]at C;obtain⟨R,Z,c2,Y⟩:=C;exact⟨R,Z,by simp only[ae];lia,Y⟩
 ·have D:aJ (.sign (cd "{")) r=none:=by
   cases e:aJ (.sign (cd "{")) r with
   |none=>rfl
   |some s=>exact absurd ⟨s,bL e⟩ F
  unfold uv;rw[D];dsimp only;have e:fi K (T r)=n9 K (T r):=by
   have no:∀ {q},T r≠ .sign [123]::q:=fun e=>by
    obtain⟨p,y,M⟩:=d6 h e;exact F ⟨p,by rw[y];rfl⟩
   have v:=rG K (T r);generalize fi K (T r)=o at v ⊢;cases v with
   |a _ e=>exact absurd e no
   |b _ e=>exact absurd e no
   |c _ e=>exact absurd e no
   |d=>rfl
  rw[e];exact Lh TS O h g
theorem MClaim.mono{o:Option (aS×List az)}{ns:List (List Nat)}{stk:List Kr}{b e:Nat}{m:Option ((Kr×List (List Nat))×List Tk)}(C:MClaim o ns stk b m)(h:b<=e):MClaim o ns stk e m:=by
 cases o with
 |none=>exact C
 |some x=>
  obtain⟨t,l⟩:=x;obtain⟨g,p,q,j⟩:=C;exact⟨g,p,by lia,j⟩
theorem Cq(w:List Nat)(u:¬w=cd "BOOLEAN")(r:¬w=cd "NULL")(q:¬w=cd "INTEGER")(p:¬w=cd "BIT")(j:¬w=cd "OCTET")(h:¬w=cd "ENUMERATED")(g:¬w=cd "CHOICE")(e:¬w=cd "SEQUENCE"):
  (w∈OWN)↔w∈(["SIZE","MIN","MAX","OF","STRING","OPTIONAL","TRUE","FALSE"].map fun s=>cd s):=by
 unfold OWN;simp only[bg,lF,am,eW,or_false,u,r,q,p,j,h,g,e,false_or];constructor
 ·rintro(z|z|z|z|z|z|z|z)<;>simp[z]
 ·rintro(z|z|z|z|z|z|z|z)<;>simp[z]
theorem Jp{w:List Nat}{ns:List (List Nat)}(j:o6 w)(h:∀n∈ns,o6 n):NsUp ns (ww w ns) (fun b=>Rf b (.ref (un w))):=by
 refine⟨fun n g=>?_,fun n g=>?_⟩
 ·unfold ww at g;rcases aT.mp g with z|z
  ·exact h n z
  ·rw[aw.mp z];exact j
 ·have p:Rf (un n) (.ref (un w))↔n=w:=by
   constructor
   ·intro z;generalize e:un n=b at z;cases z;exact la g.2.1 j.2.1 e
   ·intro z;rw[z];exact .named
  rw[p];unfold ww;rw[aT,aw]
theorem G6(I:IntOk){K:Nat}(TS:Jn K)(SO:tP mOne K)(SR:tP mRow K):Jn (K+1):=by
 intro ts ns stk hK h g;cases ts with
 |nil=>
  have e:dt (K+1) (T [])=none:=rfl;rw[e];exact rfl
 |cons t r=>
  cases t with
  |num z=>
   have e:dt (K+1) (T (.num z::r))=none:=rfl;rw[e];exact rfl
  |bits z=>
   have e:dt (K+1) (T (.bits z::r))=none:=rfl;rw[e];exact rfl
  |octs z=>
   have e:dt (K+1) (T (.octs z::r))=none:=rfl;rw[e];exact rfl
  |sign z=>
   have e:dt (K+1) (T (.sign z::r))=none:=rfl;rw[e];exact rfl
  |word w=>
   have j:o6 w:=h.head;have p:=h.tail;have y:r.length<=(Tk.word w::r).length:=by simp
   simp only[ae]at hK;show MClaim (dt (K+1) (.word (un w)::T r)) _ _ _ _;rw[AX,G5];unfold sV;have q1:=eJ j (s:="BOOLEAN") (by decide);have q2:=eJ j (s:="NULL") (by decide);have q3:=eJ j (s:="INTEGER") (by decide);have U:=eJ j (s:="BIT") (by decide);have S:=eJ j (s:="OCTET") (by decide);have q6:=eJ j (s:="ENUMERATED") (by decide);have R:=eJ j (s:="CHOICE") (by decide);have q8:=eJ j (s:="SEQUENCE") (by decide);by_cases G:w=cd "BOOLEAN"
   ·rw[qab (q1.mpr G),qab G];refine MClaim.once (k:= { form:=⟨w.toArray⟩ }) y p (fun x z=>by cases z) .bool rfl ?_ g;rw[G];exact KT.bool
   rw[qaa (mt q1.mp G),qaa G];by_cases F:w=cd "NULL"
   ·rw[qab (q2.mpr F),qab F];refine MClaim.once (k:= { form:=⟨w.toArray⟩ }) y p (fun x z=>by cases z) .null rfl ?_ g;rw[F];exact KT.null
   rw[qaa (mt q2.mp F),qaa F];by_cases Q:w=cd "INTEGER"
   ·rw[qab (q3.mpr Q),qab Q];obtain⟨i1,i2⟩:=I r p;rw[i1];cases J:eG r with
    |none=>exact rfl
    |some x=>
     obtain⟨j1,j2⟩:=i2 x J;have l1:=(iG J).1;refine MClaim.once (t:= .int x.1.low x.1.high) (by rw[ae];lia) j2 (fun x z=>by cases z) (.int _ _) (by rw[j1]) ?_ g;rw[j1];exact KT.int _ _
   rw[qaa (mt q3.mp Q),qaa Q];by_cases v:w=cd "ENUMERATED"
   ·rw[qaa (mt U.mp (by rw[v];decide)),qaa (mt S.mp (by rw[v];decide)),qab (q6.mpr v),qab v];by_cases u:∃q,r= .sign (cd "{")::q
    ·obtain⟨q,rfl⟩:=u;simp only[ae]at hK;have C:=(G4 (K:=K) (q:=q) (by lia) p.tail).m (ns:=ns) (stk:=stk) (b:=(Tk.word w:: .sign (cd "{")::q).length) (by simp only[ae];lia) (fun t l e x z=>by cases wE e<;>cases z) g;have J:mq (.sign (cd "{")::q)=wD q:=by
      unfold mq wD;rw[bG];dsimp only;cases ca { form:="ENUMERATED" } q with
      |none=>rfl
      |some x=>rfl
     rw[J];exact C
    ·have W:mq r=none:=by
      unfold mq;cases e:aJ (.sign (cd "{")) r with
      |none=>rfl
      |some s=>exact absurd ⟨s,bL e⟩ u
     rw[W,Ez p u];exact rfl
   rw[qaa v];by_cases E:w=cd "BIT"
   ·rw[qab (U.mpr E),qab E];refine MClaim.mono (vE p g Ql51.Ty.bits (fun _ _=> .bits _ _) (fun _ _ x z=>by cases z) fun X Z Y=>?_) y;rw[E];exact KT.bits X Z Y
   rw[qaa (mt U.mp E),qaa E];by_cases D:w=cd "OCTET"
   ·rw[qab (S.mpr D),qab D];refine MClaim.mono (vE p g Ql51.Ty.octets (fun _ _=> .octets _ _) (fun _ _ x z=>by cases z) fun X Z Y=>?_) y;rw[D];exact KT.octets X Z Y
   rw[qaa (mt S.mp D),qaa D,qaa (mt q6.mp v)];by_cases B:w=cd "SEQUENCE"
   ·rw[qaa (mt R.mp (by rw[B];decide)),qab (q8.mpr B),qab B];have C:=Jo TS SR (stk:=stk) (r:=r) (by lia) p g;exact MClaim.mono C y
   rw[qaa B];by_cases O:w=cd "CHOICE"
   ·rw[qab (R.mpr O),qab O];by_cases u:∃q,r= .sign (cd "{")::q
    ·obtain⟨q,rfl⟩:=u;simp only[ae]at hK;have C:=HJ Ew SO (stk:=stk) (q:=q) (by lia) p.tail g;have J: (match gB ns (gA (.sign (cd "{")::q))with
       |none=>none
       |some x=>gu x.1.2 stk x.1.1 x.2)=Jl mOne ns stk q:=by
      unfold gA Jl;rw[bG];show(match gB ns (match ca { form:="CHOICE" } q with
       |none=>none
       |some x=>some ({ x.1.2 with waits:=true },x.2))with
       |none=>none
       |some x=>gu x.1.2 stk x.1.1 x.2)=match ca { form:="CHOICE" } q with
       |none=>none
       |some x=>gu ns stk { x.1.2 with waits:=true } x.2
      cases ca { form:="CHOICE" } q with
      |none=>rfl
      |some x=>rfl
     rw[<-J]at C;exact MClaim.mono C (by simp only[ae];lia)
    ·have W:gA r=none:=by
      unfold gA;cases e:aJ (.sign (cd "{")) r with
      |none=>rfl
      |some s=>exact absurd ⟨s,bL e⟩ u
     rw[W,Ez p u];exact rfl
   rw[qaa (mt R.mp O),qaa O,qaa (mt q8.mp B)];have hc: ([bi "SIZE",bi "MIN",bi "MAX",bi "OF",bi "STRING",bi "OPTIONAL",bi "TRUE",bi "FALSE"].contains (un w))=decide (w∈OWN):=by
    have:=mw j (ws:= ["SIZE","MIN","MAX","OF","STRING","OPTIONAL","TRUE","FALSE"]) (by decide);have e2:=Cq w G F Q E D v O B;rw[show decide (w∈OWN)=decide (w∈(["SIZE","MIN","MAX","OF","STRING","OPTIONAL","TRUE","FALSE"].map fun s=>cd s))from by simp only[e2]];exact this
   rw[hc,AI j];have hk:eF w= (p9 w&& !decide (w∈OWN)):=rfl;by_cases M:p9 w=true/\decide (w∈OWN)=false
   ·rw[qab M,qab (by rw[hk,M.1,M.2];rfl)];refine⟨r,rfl,y,p,fun b u=>?_,fun _=>⟨{ form:="a name",target:=w },ww w ns,rfl,rfl,KT.named w j,Jp j g⟩,fun z=>absurd (.named _) z⟩;cases u;exact⟨w,j,rfl⟩
   ·rw[qaa M,qaa (fun z=>M (by rw[hk,bY]at z;exact⟨z.1,by simpa using z.2⟩))];exact rfl
theorem HM(I:IntOk):∀K,Jn K/\tP mOne K/\tP mRow K
 |0=>⟨fun ts ns stk h=>by lia,fun o n r ns stk h=>by lia,fun o n r ns stk h=>by lia⟩
 |K+1=>by
  obtain⟨a,b,c⟩:=HM I K;exact⟨G6 I a b c,zY a b,yy a c⟩
inductive Dp:Nat->aS->Prop
 |bool (k:Nat):Dp (k+1) .bool
 |null (k:Nat):Dp (k+1) .null
 |int (k:Nat) (lo hi:Option Int):Dp (k+1) (.int lo hi)
 |bits (k:Nat) (lo:Nat) (hi:Option Nat):Dp (k+1) (.bits lo hi)
 |octets (k:Nat) (lo:Nat) (hi:Option Nat):Dp (k+1) (.octets lo hi)
 |named (k:Nat) (n:bP):Dp (k+1) (.ref n)
 |enum (k:Nat) (l:List bP) (m:Option (List bP)):Dp (k+1) (.names l m)
 |many (k:Nat) (lo:Nat) (hi:Option Nat) (t:aS):Dp k t->Dp (k+1) (.many lo hi t)
 |one (k:Nat) (l:List (bP×aS)) (m:Option (List (bP×aS))): (∀x∈l++m.getD [],Dp k x.2)->Dp (k+1) (.one l m)
 |row (k:Nat) (l:List (bP×Bool×aS)) (m:Option (List (bP×Bool×aS))): (∀x∈l++m.getD [],Dp k x.2.2)->Dp (k+1) (.row l m)
theorem Dp.succ{k:Nat}{t:aS}(h:Dp k t):Dp (k+1) t:=by
 induction h with
 |bool k=>exact .bool _
 |null k=>exact .null _
 |int k lo hi=>exact .int _ _ _
 |bits k lo hi=>exact .bits _ _ _
 |octets k lo hi=>exact .octets _ _ _
 |named k n=>exact .named _ _
 |enum k l m=>exact .enum _ _ _
 |many k lo hi t _ ih=>exact .many _ _ _ _ ih
 |one k l m _ ih=>exact .one _ _ _ ih
 |row k l m _ ih=>exact .row _ _ _ ih
theorem mU{ns:List bP}{k:Nat}{t:aS}(h:Dp k t):d0 k ns t=true↔Gd t/\∀b,Rf b t->b∈ns:=by
 induction h with
 |bool k=>exact⟨fun _=>⟨.bool,fun b z=>by cases z⟩,fun _=>by rw[d0]<;>intros<;>contradiction⟩
 |null k=>exact⟨fun _=>⟨.null,fun b z=>by cases z⟩,fun _=>by rw[d0]<;>intros<;>contradiction⟩
 |int k lo hi=>exact⟨fun _=>⟨.int _ _,fun b z=>by cases z⟩,fun _=>by rw[d0]<;>intros<;>contradiction⟩
 |bits k lo hi=>exact⟨fun _=>⟨.bits _ _,fun b z=>by cases z⟩,fun _=>by rw[d0]<;>intros<;>contradiction⟩
 |octets k lo hi=>exact⟨fun _=>⟨.octets _ _,fun b z=>by cases z⟩,fun _=>by rw[d0]<;>intros<;>contradiction⟩
 |named k n=>
  rw[d0,List.contains_iff_mem];exact⟨fun z=>⟨.named _,fun b q=>by cases q;exact z⟩,fun z=>z.2 n .named⟩
 |enum k l m=>
  rw[d0,decide_eq_true_iff];exact⟨fun z=>⟨.enum _ _ z,fun b q=>by cases q⟩,fun z=>gd_names.mp z.1⟩
 |many k lo hi t _ ih=>
  rw[d0,ih];exact⟨fun z=>⟨.many _ _ _ z.1,fun b q=>by cases q with|many _ _ _ r=>exact z.2 b r⟩,fun z=>⟨by cases z.1;assumption,fun b q=>z.2 b (.many _ _ _ q)⟩⟩
 |one k l m _ ih=>
  rw[d0,bY,decide_eq_true_iff,bw];constructor
  ·intro z;exact⟨.one _ _ z.1 fun x e=>((ih x e).mp (z.2 x e)).1,fun b q=>by cases q with|one _ _ x e r=>exact((ih x e).mp (z.2 x e)).2 b r⟩
  ·intro z;obtain⟨g,r⟩:=z;cases g with
   |one _ _ g1 g2=>exact⟨g1,fun x e=>(ih x e).mpr ⟨g2 x e,fun b q=>r b (.one _ _ x e q)⟩⟩
 |row k l m _ ih=>
  rw[d0,bY,decide_eq_true_iff,bw];constructor
  ·intro z;exact⟨.row _ _ z.1 fun x e=>((ih x e).mp (z.2 x e)).1,fun b q=>by cases q with|row _ _ x e r=>exact((ih x e).mp (z.2 x e)).2 b r⟩
  ·intro z;obtain⟨g,r⟩:=z;cases g with
   |row _ _ g1 g2=>exact⟨g1,fun x e=>(ih x e).mpr ⟨g2 x e,fun b q=>r b (.row _ _ x e q)⟩⟩
open Wr (ow gO Op xm)
def Li(K:Nat):Prop:=∀l t e,dt K l=some (t,e)->Dp K t/\ow e<=ow l/\Op (ow l - ow e) t
def wO{e:Type}(M:yu e)(a:List e):Nat:=((M.ops a).filter id).length
def OpA{e:Type}(M:yu e)(n:Nat)(a:List e):Prop:=∃g c,g+c<=n/\wO M a<=c/\∀x∈a,Op g (M.tf x)
def wP{g:Type}(M:yu g)(K:Nat):Prop:=∀l a e,M.P K l=some (a,e)->(∀x∈a,Dp K (M.tf x))/\ow e<=ow l/\OpA M (ow l - ow e) a
theorem G7{n:Nat}{t:aS}(q:∀g h e,t≠ .many g h e)(p:∀l m,t≠ .one l m)(j:∀l m,t≠ .row l m):Op n t:= .leaf n t q p j
theorem HN{E:Type}{M:yu E}{K:Nat}(D:wP M K)(mk:∀l m,(∀x∈l++m.getD [],Dp K (M.tf x))->Dp (K+1) (M.ty l m))(B:∀l m g c,(∀x∈l++m.getD [],Op g (M.tf x))->wO M (l++m.getD [])<=c->Op (g+c) (M.ty l m))(O:∀a b,M.ops (a++b)=M.ops a++M.ops b)
  {q:List az} {t:aS} {C:List az} (h:iz M K q=some (t,C)):Dp (K+1) t/\ow C<=ow q/\Op (ow q - ow C) t:=by
 cases wE h with
 |fin a e=>
  obtain⟨v,j,g,c,r,u,p⟩:=D _ _ _ e;simp only[gO]at j r ⊢;exact⟨mk _ _ (by rw[dN,aG];exact v),by lia,(B a none g c (by rw[dN,aG];exact p) (by rw[dN,aG];exact u)).mono (by lia)⟩
 |dots a e=>
  obtain⟨v,j,g,c,r,u,p⟩:=D _ _ _ e;simp only[gO]at j r ⊢;exact⟨mk _ _ (by rw[bx,aG];exact v),by lia,(B a (some []) g c (by rw[bx,aG];exact p) (by rw[bx,aG];exact u)).mono (by lia)⟩
 |more a s b e e2=>
  obtain⟨v,j,g,c,r,u,p⟩:=D _ _ _ e;obtain⟨Q,F,G,d,J,hd,I⟩:=D _ _ _ e2;simp only[gO]at j r F J ⊢;refine⟨mk _ _ (by rw[bx];exact fun x y=>(aT.mp y).elim (v x) (Q x)),by lia,(B a (some b) (max g G) (c+d) (fun x y=>?_) ?_).mono (by lia)⟩
  ·rw[bx]at y;rcases aT.mp y with z|z
   ·exact(p x z).mono (uc _ _)
   ·exact(I x z).mono (E2 _ _)
  ·rw[bx];unfold wO at u hd ⊢;rw[O,Cw,au];lia
theorem zZ{k:Nat}{l:List az}(h:∀w r,l≠ .word w::r):dt (k+1) l=none:=by
 cases l with
 |nil=>rfl
 |cons t r=>
  cases t with
  |word w=>exact absurd rfl (h w r)
  |num z=>rfl
  |bits z=>rfl
  |hex z=>rfl
  |sign z=>rfl
theorem tQ{k:Nat}{q:List az}{t:aS}{l:List az}(e:oZ k q=some (t,l)):∃a m,t= .names a m/\ow l<=ow q:=by
 cases wE e with
 |fin a e1=>have g:=Wr.Fs _ _ _ e1;simp only[gO]at g;exact⟨_,_,rfl,by lia⟩
 |dots a e1=>have g:=Wr.Fs _ _ _ e1;simp only[gO]at g;exact⟨_,_,rfl,by lia⟩
 |more a s b e1 e2=>
  have g:=Wr.Fs _ _ _ e1;have h:=Wr.Fs _ _ _ e2;simp only[gO]at g h;exact⟨_,_,rfl,by lia⟩
theorem vF{g:Nat->Option Nat->aS}{r:List az}{t:aS}{l:List az}(h:Ex g r=some (t,l)): (∃a b,t=g a b)/\ow l<=ow r:=by
 unfold Ex at h;split at h
 ·split at h
  ·rename_i q _;cases e:fz q with
   |none=>rw[e]at h;cases h
   |some x=>
    rw[e]at h;cases h;have:=Wr.Ki e;exact⟨⟨_,_,rfl⟩,by rw[gO];lia⟩
  ·cases h
 ·cases h
theorem z0{K:Nat}(M:Li K)(Q:wP mOne K)(O:wP mRow K):Li (K+1):=by
 intro l t j h;by_cases D:∃w r,l= .word w::r
 ·obtain⟨w,r,rfl⟩:=D;rw[AX]at h;have lf:∀ {d:Dp (K+1) t} {n:∀lo hi t',t≠ .many lo hi t'} {m:∀l m,t≠ .one l m} {k:∀l m,t≠ .row l m},ow j<=ow r->Dp (K+1) t/\ow j<=ow (.word w::r)/\Op (ow (.word w::r) - ow j) t:=fun {d n m k} z=>⟨d,by rw[gO];lia,G7 n m k⟩;have st:∀ {s:bP} {q:List az},r= .word s::q->ow j<=ow q->ow j<=ow r:=fun e z=>by rw[e,gO];lia
  split at h
  ·cases h;exact lf (d:= .bool _) (n:=by simp) (m:=by simp) (k:=by simp) (aC _)
  split at h
  ·cases h;exact lf (d:= .null _) (n:=by simp) (m:=by simp) (k:=by simp) (aC _)
  split at h
  ·cases e:dU r with
   |none=>rw[e]at h;cases h
   |some x=>rw[e]at h;cases h;exact lf (d:= .int _ _ _) (n:=by simp) (m:=by simp) (k:=by simp) (Wr.Bz e)
  split at h
  ·obtain⟨⟨a,b,rfl⟩,z⟩:=vF h;exact lf (d:= .bits _ _ _) (n:=by simp) (m:=by simp) (k:=by simp) z
  split at h
  ·obtain⟨⟨a,b,rfl⟩,z⟩:=vF h;exact lf (d:= .octets _ _ _) (n:=by simp) (m:=by simp) (k:=by simp) z
  split at h
  ·obtain⟨q,rfl,h⟩:=yA h;obtain⟨a,m,rfl,z⟩:=tQ h;exact lf (d:= .enum _ _ _) (n:=by simp) (m:=by simp) (k:=by simp) (by rw[gO];lia)
  split at h
  ·obtain⟨q,rfl,h⟩:=yA h;obtain⟨u,E,p⟩:=HN Q (fun l m g=> .one _ _ _ g) (fun l m I c g _=>(Op.one _ _ _ g).mono (by lia)) (fun _ _=>rfl) h;simp only[gO];exact⟨u,by lia,p.mono (by lia)⟩
  split at h
  ·have v:=rG K r;generalize fi K r=o at v h;cases v with
   |a s e=>subst e;cases h;simp only[gO];exact⟨.row _ _ _ (by simp),by lia,(Op.row 0 0 _ _ (by simp[Wr.ly]) (by simp)).mono (cr _)⟩
   |b s e=>subst e;cases h;simp only[gO];exact⟨.row _ _ _ (by simp),by lia,(Op.row 0 0 _ _ (by simp[Wr.ly]) (by simp)).mono (cr _)⟩
   |c q e=>
    subst e;obtain⟨u,E,p⟩:=HN O (fun l m g=> .row _ _ _ g) (fun l m I c g C=> .row _ _ _ _ (by
     unfold wO at C;unfold Wr.ly;rw[show mRow.ops (l++m.getD [])= (l++m.getD []).map fun x=>x.2.1 from rfl,List.filter_map,ah]at C;exact C) g) (fun _ _=>ay) h
    simp only[gO];exact⟨u,by lia,p.mono (by lia)⟩
   |d=>
    unfold n9 at h;split at h
    ·rename_i R U G J;have F:=Wr.Ki J;split at h
     ·cases h
     ·cases e:dt K G with
      |none=>rw[e]at h;cases h
      |some y=>
       obtain⟨S,W⟩:=y;obtain⟨u,E,p⟩:=M _ _ _ e;rw[e]at h;cases h;simp only[gO]at F ⊢;exact⟨.many _ _ _ _ u,by lia, .many _ _ _ _ (p.mono (by lia))⟩
    ·cases h
  split at h
  ·cases h;exact lf (d:= .named _ _) (n:=by simp) (m:=by simp) (k:=by simp) (aC _)
  ·cases h
 ·rw[zZ fun w r e=>D ⟨w,r,e⟩]at h;cases h
theorem o8{e:Type}{M:yu e}{K:Nat}{x:e}{a:List e}{n g n2 c0:Nat}(v:Dp K (M.tf x))(p:Op g (M.tf x))(C:wO M (x::a)<=c0+wO M a)(u:∀y∈a,Dp K (M.tf y))(j:OpA M n2 a)(B:g+c0+n2<=n): (∀y∈x::a,Dp (K+1) (M.tf y))/\OpA M n (x::a):=by
 obtain⟨q,c,E,D,r⟩:=j;refine⟨fun y h=>?_,max g q,c0+c,by lia,by lia,fun y h=>?_⟩
 ·rcases am.mp h with z|z
  ·rw[z];exact v.succ
  ·exact(u y z).succ
 ·rcases am.mp h with z|z
  ·rw[z];exact p.mono (uc _ _)
  ·exact(r y z).mono (E2 _ _)
theorem uD{K:Nat}(J:Li K)(D:wP mOne K):wP mOne (K+1):=by
 intro l a C h;have h:fK (K+1) l=some (a,C):=h;by_cases E:∃w r,l= .word w::r
 ·obtain⟨w,r,rfl⟩:=E;rw[n8]at h;split at h
  ·cases h
  ·cases e:dt K r with
   |none=>rw[e]at h;cases h
   |some y=>
    obtain⟨t,q⟩:=y;obtain⟨t1,F,g⟩:=J _ _ _ e;rw[e,qS]at h;unfold ij at h;split at h
    ·rename_i v s;cases u:fK K (.word v::s)with
     |none=>rw[show mOne.P K (.word v::s)=none from u]at h;cases h
     |some z=>
      rw[show mOne.P K (.word v::s)=some z from u]at h;cases h;obtain⟨I,G,B⟩:=D _ _ _ (show mOne.P K (.word v::s)=some (z.1,z.2)from u);simp only[gO]at F g G B ⊢;obtain⟨p,j⟩:=o8 (M:=mOne) (x:=(w,t)) (c0:=0) (n:=xm (.word w)+ow r - ow z.2) t1 g (by show 0<=_;lia) I B (by lia);exact⟨p,by lia,j⟩
    ·cases h;obtain⟨p,j⟩:=o8 (M:=mOne) (x:=(w,t)) (a:= []) (c0:=0) (n2:=0) (n:=xm (.word w)+ow r - ow C) t1 g (by show 0<=_;lia) (by simp) ⟨0,0,by lia,aC _,by simp⟩ (by lia);exact⟨p,by rw[gO];lia,j⟩
 ·cases l with
  |nil=>cases(show none=some _ from h)
  |cons t r=>
   cases t with
   |word w=>exact absurd ⟨w,r,rfl⟩ E
   |num z=>cases(show none=some _ from h)
   |bits z=>cases(show none=some _ from h)
   |hex z=>cases(show none=some _ from h)
   |sign z=>cases(show none=some _ from h)
def yD(q:List az):Bool×List az:=match q with
 | .word w::s=>if w=bi "OPTIONAL" then(true,s)else(false,q)
 |_=>(false,q)
theorem wQ{k:Nat}{n:List UInt8}{r:List az} :eK (k+1) (.word n::r)=if lC n=false then none else(match dt k r with
   |none=>none
   |some (t,q)=>(match(yD q).2 with
    | .sign [44]:: .word v::s=>(eK k (.word v::s)).map fun x=>((n,(yD q).1,t)::x.1,x.2)
    |_=>some ([(n,(yD q).1,t)],(yD q).2))):=rfl
theorem EA(q:List az): (if(yD q).1=true then 1 else 0)+ow (yD q).2<=ow q:=by
 unfold yD;split
 ·rename_i w s;split
  ·rename_i e;rw[gO,e];show 1+ow s<=(if fT (bi "OPTIONAL")=iO "OPTIONAL" then 1 else 0)+ow s;rw[qab (show fT (bi "OPTIONAL")=iO "OPTIONAL" from rfl)];exact aC _
  ·exact jn (eM _)
 ·exact jn (eM _)
theorem tR{K:Nat}(O:Li K)(D:wP mRow K):wP mRow (K+1):=by
 intro l a E h;have h:eK (K+1) l=some (a,E):=h;by_cases F:∃w r,l= .word w::r
 ·obtain⟨w,r,rfl⟩:=F;rw[wQ]at h;split at h
  ·cases h
  ·cases e:dt K r with
   |none=>rw[e]at h;cases h
   |some y=>
    obtain⟨t,q⟩:=y;obtain⟨t1,Q,B⟩:=O _ _ _ e;rw[e]at h;dsimp only at h;have g:=EA q;generalize yD q=oq at h g;obtain⟨o,R⟩:=oq;dsimp only at g h;have G:∀a,wO mRow ((w,o,t)::a)<=(if o=true then 1 else 0)+wO mRow a:=fun a=>by
     unfold wO;rw[show mRow.ops ((w,o,t)::a)=o::mRow.ops a from rfl,rl];cases o
     ·show _<=0+_;simp
     ·show _<=1+_;simp;lia
    split at h
    ·rename_i v s;cases u:eK K (.word v::s)with
     |none=>rw[u]at h;cases h
     |some z=>
      rw[u]at h;cases h;obtain⟨J,I,C⟩:=D _ _ _ (show mRow.P K (.word v::s)=some (z.1,z.2)from u);simp only[gO]at g I C ⊢;obtain⟨p,j⟩:=o8 (M:=mRow) (x:=(w,o,t)) (n:=xm (.word w)+ow r - ow z.2) t1 B (G _) J C (by lia);exact⟨p,by lia,j⟩
    ·cases h;obtain⟨p,j⟩:=o8 (M:=mRow) (x:=(w,o,t)) (a:= []) (n2:=0) (n:=xm (.word w)+ow r - ow E) t1 B (G _) (by simp) ⟨0,0,by lia,aC _,by simp⟩ (by lia);exact⟨p,by rw[gO];lia,j⟩
 ·cases l with
  |nil=>cases(show none=some _ from h)
  |cons t r=>
   cases t with
   |word w=>exact absurd ⟨w,r,rfl⟩ F
   |num z=>cases(show none=some _ from h)
   |bits z=>cases(show none=some _ from h)
   |hex z=>cases(show none=some _ from h)
   |sign z=>cases(show none=some _ from h)
theorem EB:∀K,Li K/\wP mOne K/\wP mRow K
 |0=>by
  refine⟨fun l t e h=>?_,fun l a e h=>?_,fun l a e h=>?_⟩
  ·cases(show none=some _ from h)
  ·cases(show none=some _ from h)
  ·cases(show none=some _ from h)
 |K+1=>by
  obtain⟨a,b,c⟩:=EB K;exact⟨z0 a b c,uD a b,tR a c⟩
end Sp
namespace Th
open PySem L2
def yE(cs:List Nat):Option (List (List Nat×Kd)):=match toks (cs.map lc)with
 |none=>none
 |some ts=>oS ts
end Th
namespace Sp
open Th
open L2 (v0 upC)
def OWNS:List String:= ["BOOLEAN","NULL","INTEGER","BIT","OCTET","ENUMERATED","CHOICE","SEQUENCE","SIZE","MIN","MAX","OF","STRING","OPTIONAL","TRUE","FALSE"]
theorem G8(w:List Nat):w∈OWN↔w∈OWNS.map fun s=>cd s:=List.Perm.mem_iff (by decide+kernel)
theorem Cr{k:Nat}{n:List UInt8}{r:List az} :eu (k+1) (.word n:: .sign [58,58,61]::r)=if ng n=false\/((OWNS.map bi).contains n)=true then none else(match dt k r with
   |some (t,q)=>(eu k q).map fun s=>(n,t)::s
   |none=>none):=rfl
theorem vG(k:Nat)(l:List az):eu (k+1) l=match l with
  | []=>some []
  | .word n:: .sign [58,58,61]::r=>if ng n=false\/((OWNS.map bi).contains n)=true then none else(match dt k r with
   |some (t,q)=>(eu k q).map fun s=>(n,t)::s
   |none=>none)
  |_=>none:=rfl
theorem G9{k:Nat}{ts:List Tk}(h:Oks ts)(q:ts≠ [])(p:∀w r,ts≠ .word w:: .sign (cd "::=")::r):eu (k+1) (T ts)=none:=by
 rw[vG];split
 ·rename_i e;cases ts with
  |nil=>exact absurd rfl q
  |cons t r=>cases e
 ·rename_i n r e;obtain⟨x,g,v⟩:=wz h e;rw[g]at h;obtain⟨j,u,y⟩:=d6 h.tail v;exact absurd (by rw[g,u];rfl) (p (n.map aL) j)
 ·rfl
theorem yF{w:List Nat}(g:o6 w): (ng (un w)=false\/((OWNS.map bi).contains (un w))=true)↔eF w=false:=by
 rw[AI g,mw g (by decide)];have h:eF w= (p9 w&& !decide (w∈OWN)):=rfl;rw[h];have e:decide (w∈OWN)=decide (w∈OWNS.map fun s=>cd s):=by simp only[G8 w]
 rw[e];cases p9 w<;>cases decide (w∈OWNS.map fun s=>cd s)<;>simp
theorem wR(I:IntOk):∀(K N:Nat) (ts:List Tk) (ns:List (List Nat)) (j:List (List Nat×Kd)),ts.length < K->ts.length < N->Oks ts->(∀n∈ns,o6 n)->(j.map bO).Nodup->
  match eu K (T ts)with
  |none=>mDefsF N ns j ts=none
  |some s=>∃vs:List (List Nat),s.map (fun x=>x.1)=vs.map un/\(∀v∈vs,o6 v)/\(∀x∈s,tO x.2)/\(∀x∈s,Dp K x.2)/\
   (((j.map bO++vs).Nodup/\∀x∈s,Gd x.2)->∃(D:List Kd) (G:List (List Nat)),KTs D (s.map fun x=>x.2)/\NsUp ns G (fun b=>∃x∈s,Rf b x.2)/\mDefsF N ns j ts=some (j++vs.zip D,G))/\
   (¬((j.map bO++vs).Nodup/\∀x∈s,Gd x.2)->mDefsF N ns j ts=none)
 |0,_,_,_,_,h,_,_,_,_=>by lia
 |_,0,_,_,_,_,h,_,_,_=>by lia
 |K+1,N+1,ts,ns,j,hK,hN,h,hns,hd=>by
  rw[qM];cases ts with
  |nil=>
   have e:eu (K+1) (T [])=some []:=rfl;rw[e];refine⟨[],rfl,by simp,by simp,by simp,fun _=>⟨[],ns, .nil, .refl hns (by simp),by simp⟩,fun z=>absurd ⟨by rw[aG];exact hd,by simp⟩ z⟩
  |cons t r=>
   by_cases hs:∃w u,t::r= .word w:: .sign (cd "::=")::u
   ·obtain⟨w,u,e⟩:=hs;injection e with e1 e2
    subst e1 e2;have M:o6 w:=h.head;dsimp only;rw[bG];dsimp only;simp only[ae]at hK hN;show match eu (K+1) (.word (un w):: .sign [58,58,61]::T u)with
     |none=>_
     |some s=>_
    rw[Cr];by_cases O:eF w=false
    ·rw[qab ((yF M).mpr O)];exact qaa (fun z=>by rw[O]at z;exact absurd z.1 (by decide))
    ·have hk':eF w=true:=by simpa using O
     rw[qaa (mt (yF M).mp O),D9];have C:=(HM I K).1 u ns [] (by lia) h.tail.tail hns;cases et:dt K (T u)with
     |none=>
      rw[et]at C;have C':w6 ns [] u=none:=C;rw[C'];dsimp only;split<;>rfl
     |some x=>
      obtain⟨t,l⟩:=x;have dp:=((EB K).1 _ _ _ et).1;rw[et]at C;obtain⟨q,rfl,c2,c3,c4,c5,c6⟩:=C;dsimp only;by_cases F:Gd t/\w∉j.map bO
      ·rw[qab ⟨hk',F.2⟩];obtain⟨k,S,k1,k2,k3,k4⟩:=c5 F.1;rw[k1,D8 k2];dsimp only;have hd': ((j++ [(w,k.fin)]).map bO).Nodup:=by
        rw[ay,bJ];refine⟨hd,by simp,fun a ha b hb e=>F.2 ?_⟩;have hbw:b=w:=by simpa using hb
        rw[<-hbw,<-e];exact ha
       have E:=wR I K N q S (j++ [(w,k.fin)]) (by lia) (by lia) c3 k4.ok hd';cases Q:eu K (T q)with
       |none=>rw[Q]at E;exact E
       |some s=>
        rw[Q]at E;obtain⟨vs,i1,Z,Y,X,W,U⟩:=E;have en: (j++ [(w,k.fin)]).map bO++vs=j.map bO++w::vs:=by rw[ay,bD];rfl
        rw[en]at W U;refine⟨w::vs,by show un w::s.map (fun x=>x.1)=_;rw[i1];rfl,fun v hv=>?_,fun x p=>?_,fun x p=>?_,fun g=>?_,fun g=>?_⟩
        ·rcases am.mp hv with z|z
         ·rw[z];exact M
         ·exact Z v z
        ·rcases am.mp p with z|z
         ·rw[z];exact c4
         ·exact Y x z
        ·rcases am.mp p with z|z
         ·rw[z];exact dp.succ
         ·exact(X x z).succ
        ·obtain⟨D,R,p1,p2,p3⟩:=W ⟨g.1,fun x p=>g.2 x (ak _ p)⟩;refine⟨k.fin::D,R, .cons k3 p1,k4.trans p2 fun y=>?_,?_⟩
         ·exact⟨fun⟨z,hz,q⟩=>(am.mp hz).elim (fun e=> .inl (by rw[e]at q;exact q)) (fun e=> .inr ⟨z,e,q⟩),fun z=>z.elim (fun q=>⟨(un w,t),af,q⟩) (fun⟨x,p,q⟩=>⟨x,ak _ p,q⟩)⟩
         ·rw[p3,bD];rfl
        ·exact U fun z=>g ⟨z.1,fun x p=>(am.mp p).elim (fun e=>by rw[e];exact F.1) (z.2 x)⟩
      ·have B: (if eF w=true/\w∉j.map bO then match w6 ns [] u with
         |none=>none
         |some x=>mDefsF N x.1.2 (j++ [(w,x.1.1.fin)]) x.2 else none)=none:=by
        by_cases J:Gd t
        ·rw[qaa (fun z=>F ⟨J,z.2⟩)]
        ·rw[c6 J];dsimp only;split<;>rfl
       have E:=wR I K N q [] [] (by lia) (by lia) c3 (by simp) (by simp);cases Q:eu K (T q)with
       |none=>exact B
       |some s=>
        rw[Q]at E;obtain⟨vs,i1,Z,Y,X,W,U⟩:=E;refine⟨w::vs,by show un w::s.map (fun x=>x.1)=_;rw[i1];rfl,fun v hv=>?_,fun x p=>?_,fun x p=>?_,fun g=>?_,fun _=>B⟩
        ·rcases am.mp hv with z|z
         ·rw[z];exact M
         ·exact Z v z
        ·rcases am.mp p with z|z
         ·rw[z];exact c4
         ·exact Y x z
        ·rcases am.mp p with z|z
         ·rw[z];exact dp.succ
         ·exact(X x z).succ
        ·exfalso;refine F ⟨g.2 (un w,t) af,fun z=>?_⟩;exact(bJ.mp g.1).2.2 w z w af rfl
   ·rw[G9 h (by simp) fun w u e=>hs ⟨w,u,e⟩];show _=none;cases t with
    |word w=>
     dsimp only;split
     ·cases e:aJ (.sign (cd "::=")) r with
      |none=>rfl
      |some u=>exact absurd ⟨w,u,by rw[bL e]⟩ hs
     ·rfl
    |num z=>rfl
    |bits z=>rfl
    |octs z=>rfl
    |sign z=>rfl
theorem KTs.len:∀ {e:List Kd} {ts:List aS},KTs e ts->e.length=ts.length
 |_,_, .nil=>rfl
 |_,_, .cons _ b=>by rw[ae,ae,KTs.len b]
def AZ(s:Option aI)(d:Option (List (List Nat×Kd))):Prop:=match s,d with
 |none,none=>True
 |some s,some ds=>s.map (fun x=>x.1)=ds.map (fun x=>un x.1)/\(∀x∈ds,o6 x.1)/\KTs (ds.map fun x=>x.2) (s.map fun x=>x.2)/\s.length=ds.length
 |_,_=>False
theorem Ba{g e:Type} :∀ {l:List g} {m:List e},l.length=m.length->(l.zip m).map (fun x=>x.1)=l
 | [], [],_=>rfl
 |a::l,b::m,h=>by
  show a::(l.zip m).map (fun x=>x.1)=_;rw[Ba (by simpa using h)]
theorem Bb{g e:Type} :∀ {l:List g} {m:List e},l.length=m.length->(l.zip m).map (fun x=>x.2)=m
 | [], [],_=>rfl
 |a::l,b::m,h=>by
  show b::(l.zip m).map (fun x=>x.2)=_;rw[Bb (by simpa using h)]
theorem Cs(I:IntOk)(b:List UInt8)(cs:List Nat)(S:b.length<=65536)(hc:cs.map lc=L b):AZ (iC b) (yE cs):=by
 unfold iC yE;rw[pY (b.length+1) b (by lia),hc];cases et:toks (L b)with
 |none=>exact trivial
 |some ts=>
  have hok:Oks ts:=(j7 _ (by unfold L;rw[ah];exact S) (xS b) et).1;show AZ (match eu ((T ts).length+1) (T ts)with
   |none=>none
   |some s=>if(s.map fun x=>x.1).Nodup/\s≠ []/\s.length<=uG/\(s.all fun x=>d0 ((T ts).length+1) (s.map fun x=>x.1) x.2)=true then some s else none) (oS ts)
  have hl: (T ts).length=ts.length:=ah _;rw[hl];have D:=wR I (ts.length+1) (ts.length+1) ts [] [] (by lia) (by lia) hok (by simp) (by simp);unfold oS;cases ed:eu (ts.length+1) (T ts)with
  |none=>
   rw[ed]at D;rw[show mDefsF (ts.length+1) [] [] ts=none from D];exact trivial
  |some s=>
   rw[ed]at D;obtain⟨vs,B,R,i3,Q,Y,X⟩:=D;rw[show([]:List (List Nat×Kd)).map bO++vs=vs from rfl]at Y X;dsimp only;have nd: (s.map fun x=>x.1).Nodup↔vs.Nodup:=by rw[B];exact kh R
   have r:vs.length=s.length:=by have:=qaf cI B;rw[ah,ah]at this;exact this.symm
   have g: (s.all fun x=>d0 (ts.length+1) (s.map fun x=>x.1) x.2)=true↔(∀x∈s,Gd x.2)/\∀x∈s,∀b,Rf b x.2->b∈s.map fun x=>x.1:=by
    rw[bw];exact⟨fun z=>⟨fun x h=>((mU (Q x h)).mp (z x h)).1,fun x h=>((mU (Q x h)).mp (z x h)).2⟩,fun z x h=>(mU (Q x h)).mpr ⟨z.1 x h,z.2 x h⟩⟩
   by_cases E:vs.Nodup/\∀x∈s,Gd x.2
   ·obtain⟨j,u,W,O,p3⟩:=Y E;have y:vs.length=j.length:=by rw[W.len,ah,r]
    rw[show mDefsF (ts.length+1) [] [] ts=some (vs.zip j,u)from p3];dsimp only;unfold Ge;have U: (vs.zip j).length=s.length:=by rw[List.length_zip,<-y,Nat.min_self,r]
    have M: (vs.zip j).map bO=vs:=Ba y;rw[U,M];have p: (u.all fun n=>decide (n∈vs))=true↔∀x∈s,∀b,Rf b x.2->b∈s.map fun x=>x.1:=by
     rw[bw];constructor
     ·intro z x h b hb;obtain⟨n,G,rfl⟩:=i3 x h b hb;have:=(O.iff n G).mpr (.inr ⟨x,h,hb⟩);rw[B];exact bA.mpr ⟨n,qac (z n this),rfl⟩
     ·intro z n G;have C:=O.ok n G;rcases(O.iff n C).mp G with q| ⟨x,h,q⟩
      ·cases q
      ·have:=z x h _ q;rw[B]at this;obtain⟨v,Z,e⟩:=bA.mp this;have:=la (R v Z).2.1 C.2.1 e;exact qad (by rw[<-this];exact Z)
    by_cases J:s.length < 1\/256 < s.length
    ·rw[qab J,qaa (fun z=>?_)]
     ·exact trivial
     ·rcases J with q|q
      ·exact z.2.1 (lp.mp (by lia))
      ·have:uG=256:=rfl;have:=z.2.2.1
       lia
    ·rw[qaa J];by_cases F: (u.all fun n=>decide (n∈vs))=true
     ·rw[qab F,qab ⟨nd.mpr E.1,fun e=>J (.inl (by rw[e];simp)),by have:uG=256:=rfl;lia,g.mpr ⟨E.2,p.mp F⟩⟩];refine⟨?_,fun x h=>?_,?_,U.symm⟩
      ·rw[B];show vs.map un= (vs.zip j).map (un∘bO);rw[<-bV,M]
      ·have:x.1∈(vs.zip j).map bO:=bA.mpr ⟨x,h,rfl⟩;rw[M]at this;exact R _ this
      ·rw[Bb y];exact W
     ·rw[qaa F,qaa (fun z=>F (p.mpr (g.mp z.2.2.2).2))];exact trivial
   ·rw[show mDefsF (ts.length+1) [] [] ts=none from X E,qaa (fun z=>E ⟨nd.mp z.1,(g.mp z.2.2.2).1⟩)];exact trivial
end Sp
namespace Th
open PySem L2 Sp Wr
theorem Bc{p:aa}{tb:List (List Nat×aa)}{H:Hp}{w:List Nat}(j: (Tk.word w).ok):∀ {h:List (List Nat×aa)} {g:List (List Nat×Kd)} {s:aI},h.map bO=g.map bO->s.map (fun x=>x.1)=g.map (fun x=>un x.1)->(∀x∈g,(Tk.word x.1).ok)->
  KJs p tb H (h.map dS) (g.map dS)->KTs (g.map fun x=>x.2) (s.map fun x=>x.2)->
  (∀b,h.lookup w=some b->∃(t:aS) (k:Kd),s.lookup (un w)=some t/\KJ p tb H b k/\KT k t)/\(h.lookup w=none->s.lookup (un w)=none)
 | [], [], [],_,_,_,_,_=>⟨fun b e=>(by cases e),fun _=>rfl⟩
 | (n,b0)::h,(m,k0)::g,(x,t0)::s,e1,e2,ho,hj,ht=>by
  rw[bg,bg]at e1 e2 hj ht;injection e1 with e3 e4
  injection e2 with e5 e6
  dsimp only at e3 e5 hj ht;subst e3 e5;cases hj with
  |cons j1 j2=>
   cases ht with
   |cons t1 t2=>
    have u:=Bc j e4 e6 (fun y v=>ho y (ak _ v)) j2 t2;rw[bS,bS];by_cases q:w=n
    ·subst q;rw[qag,qag];exact⟨fun b e=>(by cases e;exact⟨t0,k0,rfl,j1,t1⟩),fun e=>(by cases e)⟩
    ·have r:¬un w=un n:=fun z=>q (la j.2.1 (ho _ af).2.1 z);rw[qae.mpr q,qae.mpr r];exact u
 | [],_::_,_,e,_,_,_,_=>by cases e
 |_::_, [],_,e,_,_,_,_=>by cases e
 |_, [],_::_,_,e,_,_,_=>by cases e
 |_,_::_, [],_,e,_,_,_=>by cases e
theorem Lj{p:aa}{H:Hp}{g:List (List Nat×aa)}{j:List (List Nat×Kd)}{s:aI}(h:AZ (some s) (some j))(r:g.map bO=j.map bO)(u:KJs p g H (g.map dS) (j.map dS)):TbAt p g H s:=
 fun w b q e=>(Bc q r h.1 h.2.1 u h.2.2.1).1 b e
structure Txq(K:PySem.W.Frag)(mg:aQ->Option ag)(NK NV:aa):Prop where
 ne:NK≠NV
 nk:mg "NoKind"=some (.ref NK)
 nkx:PySem.W.excIn K NK VE "ValueError.__new__"=true
 nv:mg "NoValue"=some (.ref NV)
 nvx:PySem.W.excIn K NV VE "ValueError.__new__"=true
 apart:∃o cd,K.lookup NV=some o/\o.data= .cls cd/\cd.mro.contains (.ref NK)=false
 answered:ou mg "MOST_ANSWERED" (.int 1048576)
 much:ou mg "TOO_MUCH" (.int (-1))
 nokind:ou mg "NO_KIND" (.int (-3))
 novalue:ou mg "NO_VALUE" (.int (-4))
 long:ou mg "TOO_LONG" (.int (-5))
def Jq(h j:aa)(o:Option (List (List Nat×Kd)))(nm:List Nat)(H:Hp)(Q:VK)(E:XK):Prop:=match o with
 |none=>∀od H',E (.ref h) od H'
 |some ds=>if nm∈ds.map bO then ∀(g:aa) (e:List (List Nat×aa)) (H':Hp),e.lookup nm=some g->e.map bO=ds.map bO->KJs j e H' (e.map dS) (ds.map dS)->(∀b o,H b=some o->H' b=some o)->Q (.ref g) H'
  else ∀od H',E (.ref h) od H'
def Jr(e:aa)(o:Option cA)(H:Hp)(Q:VK)(E:XK):Prop:=match o with
 |some v=>∀(y:V) (H':Hp),VAt [] H' y v->(∀b o,H b=some o->H' b=some o)->Q y H'
 |none=>∀od H',E (.ref e) od H'
theorem Bd{K:PySem.W.Frag}{H H':Hp}{a:aa}{xs:List V}(h:SqL K H a xs)(k:∀b o,H b=some o->H' b=some o):SqL K H' a xs:=
 h.elim (fun z=> .inl (z.elim (fun e=> .inl (k _ _ e)) fun⟨g,e⟩=> .inr ⟨g,k _ _ e⟩)) .inr
abbrev iv(cs:List Nat):List V:=cs.map fun(n:Nat)=>V.int (n:Int)
section
variable {P:aZ}{w:bB}{K:PySem.W.Frag}{mg:aQ->Option ag}{base:bH}{WT RC KC NK NV:aa}
def Js(K:PySem.W.Frag)(g h:aa):Sp:=fun vs H Q E=>CM fun(a b:aa) (e ns:List Nat)=>vs= [.ref a, .ref b]/\SqL K H a (iv e)/\SqL K H b (iv ns)/\e.length<=65536/\ns.length<=65536/\Jq g h (yE e) (ns.map lc) H Q E
theorem scKindCalled:bf ["schema_text","type_name","kinds","name"] ["schema_text","type_name"] (aA ml):=fP
theorem tS(D:Df K mg "kind_called" ml ["schema_text","type_name"])(Y:Txt K mg WT)(T:Txq K mg NK NV)(GS:Ok P w K mg base (cE P w) 11 "read_schema" ["text"] (kZ K WT KC))(GT:Ok P w K mg base fh 2 "text_of" ["codes"] (sL K)):
  Ok P w K mg base (cE P w) 12 "kind_called" ["schema_text","type_name"] (Js K NK KC):=by
 refine D.okX (k:=11) scKindCalled (fun fa cdv A outer s0 H vs Q E J h=>?_)
 ·obtain⟨a,b,B,ns,rfl,hS,hN,hl,M,g⟩:=h;have U:=qC J;have I:=J.mono (show 2<=11 by decide);refine⟨_,aj (Av (C:=WT) (tb:=fun Z=>zb (sf (kZ K WT KC) [] Z (ie (lz 0) tNil)) (ni 2)) BU PySem.F.excBase_ValueError Y.exc (by rfl) Y.wt vZ (fun Z pn xe hp ho=>aq (bR (i:=2) scKindCalled.nd rfl (Or.inl rfl) (cy GS J hp (ac (pv 0) ao))))
    (fun e oe ws ok de d2=>aq (u9 PySem.F.excBase_ValueError T.nkx de d2 (by rfl) T.nk (ac aX ao) (DG ok))))
   (aj (bR (i:=3) scKindCalled.nd rfl (Or.inl rfl) (cy GT I cD (ac (pv 1) ao)))
   (aj (bN (r8 (pH U (pv 3) (pv 2))) (aq (cX PySem.F.excBase_ValueError T.nkx rfl (by rfl) T.nk (ac aX ao) ft)) bh)
   (aq (bb (oF U (pv 2) (pv 3) (fun _ _=>rfl)))))),?_⟩
  refine⟨fun cls od H'=>cls= .ref WT/\od=none/\yE B=none,fun cls od H' z=>⟨z.1,z.2.1⟩,fun e σ' H' hσ z=>?_,?_⟩
  ·refine⟨by decide,?_⟩;rw[z.2.2]at g;exact g _ _
  ·refine⟨_,rfl,a,B,rfl,hS,hl,?_⟩;show D6 WT KC (yE B) _ _ _;cases e:yE B with
   |none=>exact fun H'=>⟨rfl,rfl,rfl⟩
   |some ds=>
    rw[e]at g;intro S r H1 h1 X h3 W;have O:SqL K H1 b (iv ns):=Bd hN W;refine⟨_,rfl,b,ns,rfl,O,M,fun H2 q=>?_⟩;have u:=q _ _ h1;refine⟨_,rfl,_,rfl,S,_,rfl,DGet.k (k:=bQ ⟨(ns.map lc).toArray⟩) u,_,rfl,?_⟩;have j:=oU (ns.map lc) r;have p:=tu (ns.map lc) r;rw[X]at j;have y:if ns.map lc∈ds.map bO then _ else _:=g
    by_cases x:ns.map lc∈ds.map bO
    ·rw[qab x]at y;rw[qad x]at j;rw[j];obtain⟨R,v⟩:∃b,r.lookup (ns.map lc)=some b:=by
      rw[p,dy]at j;exact dj.mp j
     rw[v]at p;have G:gf (vw r) (bQ (⟨(ns.map lc).toArray⟩:aQ))=some (.ref R):=p;refine eC ⟨_,rfl,_,rfl,S, .ref R,rfl,by rw[<-G];exact DGet.k (k:=bQ ⟨(ns.map lc).toArray⟩) u,?_⟩;exact y R r H2 v X (h3.keep (Ky.old q)) fun b o e=>q b o (W b o e)
    ·rw[qaa x]at y;rw[decide_eq_false x]at j;rw[j];exact d9 ⟨by decide,y _ _⟩
def Jt(K:PySem.W.Frag)(j h:aa):Sp:=fun vs H Q E=>FU fun(a g:aa) (e:List Nat) (tb:List (List Nat×aa)) (s:aI) (k:Kd) (t:aS)=>vs= [.ref g, .ref a]/\SqL K H a (iv e)/\e.length<=65536/\KJ h tb H g k/\KT k t/\TbAt h tb H s/\Jr j (ri s t e) H Q E
theorem Ct:bf ["kind","value_text"] ["kind","value_text"] (aA sA):=fP
theorem yG(D:Df K mg "value_of" sA ["kind","value_text"])(q:Txt K mg WT)(T:Txq K mg NK NV)(Z:Ok P w K mg base (cE P w) 137 "read_value_text" ["text","kind"] (Jk K WT KC)):Ok P w K mg base (cE P w) 138 "value_of" ["kind","value_text"] (Jt K NV KC):=by
 refine D.okX (k:=137) Ct (fun fa Y A outer s0 H vs Q E G h=>?_)
 ·obtain⟨a,x,p,tb,s,k,t,rfl,O,J,R,M,j,g⟩:=h;refine⟨_,aq (Av (C:=WT) (tb:=fun r=>Fv (sf (Jk K WT KC) [] r (ie (lz 1) (ie (lz 0) tNil)))) BU PySem.F.excBase_ValueError q.exc (by rfl) q.wt vZ (fun r pn xe I ho=>aq (bb (cy Z G I (ac (pv 1) (ac (pv 0) ao)))))
    (fun e oe ws ok W X=>aq (u9 PySem.F.excBase_ValueError T.nvx W X (by rfl) T.nv (ac aX ao) (DG ok)))),?_⟩
  refine⟨fun cls od H'=>cls= .ref WT/\od=none/\ri s t p=none,fun cls od H' z=>⟨z.1,z.2.1⟩,fun e u H' B z=>?_,?_⟩
  ·refine⟨by decide,?_⟩;rw[z.2.2]at g;exact g _ _
  ·refine⟨_,rfl,_,rfl,a,x,p,tb,s,k,t,rfl,O,J,R,M,j,?_⟩;cases e:ri s t p with
   |none=>exact fun H'=>⟨rfl,rfl,rfl⟩
   |some v=>
    rw[e]at g;exact fun y H' U S=>g y H' U S
end
end Th
namespace Sp
open Th
open L2 (v0 upC)
open Wr (xb lR uH)
def og(low:Option Int)(r:List Tk):Option (Option Int×List Tk):=match aJ (.word (cd "MAX")) r with
 |some r2=>some (none,r2)
 |none=>match cG eY ig r with
  |none=>none
  |some (h,r2)=>if(low.any fun a=>decide (h < a))=true then none else some (some h,r2)
def iA(e:List Tk):Option ((Option Int×Option Int)×List Tk):=match aJ (.word (cd "MIN")) e with
 |some r2=>match aJ (.sign (cd "..")) r2 with
  |none=>none
  |some r3=>match og none r3 with
   |none=>none
   |some (h,r4)=>match aJ (.sign (cd ")")) r4 with
    |none=>none
    |some r5=>some ((none,h),r5)
 |none=>match cG eY ig e with
  |none=>none
  |some (z,r2)=>match fM (some z) eY ig r2 with
   |none=>none
   |some (h,r3)=>match aJ (.sign (cd ")")) r3 with
    |none=>none
    |some r4=>some ((some z,h),r4)
theorem ln{h j:Int}{r:List Tk}{z:Int}{g:List Tk}(e:cG h j r=some (z,g)):r= .num z::g:=by
 unfold cG at e;split at e
 ·split at e
  ·cases e
  ·cases e;rfl
 ·cases e
theorem qp{low:Option Int}{r:List Tk}{h:Option Int}{j:List Tk}(e:og low r=some (h,j)):∃b,r=b::j:=by
 unfold og at e;split at e
 ·rename_i p g;cases e;exact⟨_,bL g⟩
 ·split at e
  ·cases e
  ·rename_i z p g;split at e
   ·cases e
   ·cases e;exact⟨_,ln g⟩
theorem kj(low:Option Int)(r:List Tk):fM low eY ig r=match aJ (.sign (cd "..")) r with
 |none=>match low with
  |none=>none
  |some a=>some (some a,r)
 |some r1=>og low r1:=by
 unfold fM og;cases aJ (.sign (cd "..")) r with
 |none=>rfl
 |some r1=>rfl
theorem Cu{r:List Tk}(p:¬yg r):iA r=none:=by
 unfold iA;cases C:aJ (.word (cd "MIN")) r with
 |some j=>
  dsimp only;cases v:aJ (.sign (cd "..")) j with
  |none=>rfl
  |some r3=>
   dsimp only;cases u:og none r3 with
   |none=>rfl
   |some x=>
    obtain⟨h,e⟩:=x;dsimp only;cases g:aJ (.sign (cd ")")) e with
    |none=>rfl
    |some r5=>
     obtain⟨b,q⟩:=qp u;exact absurd (.two _ b r5 (by rw[bL C,bL v,q,bL g];rfl)) p
 |none=>
  dsimp only;cases v:cG eY ig r with
  |none=>rfl
  |some x=>
   obtain⟨z,j⟩:=x;have y:=ln v;dsimp only;rw[kj];cases u:aJ (.sign (cd "..")) j with
   |none=>
    dsimp only;cases g:aJ (.sign (cd ")")) j with
    |none=>rfl
    |some e=>exact absurd (.one z e (by rw[y,bL g];rfl)) p
   |some r3=>
    dsimp only;cases g:og (some z) r3 with
    |none=>rfl
    |some x=>
     obtain⟨h,e⟩:=x;dsimp only;cases B:aJ (.sign (cd ")")) e with
     |none=>rfl
     |some r5=>
      obtain⟨b,q⟩:=qp g;exact absurd (.two _ b r5 (by rw[y,bL u,q,bL B];rfl)) p
theorem Ju:eY= -9223372036854775808:=rfl
theorem Jv:ig=9223372036854775807:=rfl
theorem EC(z:Int): (z < eY\/ig < z)↔¬(-9223372036854775808<=z/\z < 9223372036854775808):=by rw[Ju,Jv];lia
theorem mz(z:Int)(q:List Tk):cG eY ig (.num z::q)=if -9223372036854775808<=z/\z < 9223372036854775808 then some (z,q)else none:=by
 show(if z < eY\/ig < z then none else some (z,q))=_;by_cases h: -9223372036854775808<=z/\z < 9223372036854775808
 ·rw[qab h,qaa (fun x=>(EC z).mp x h)]
 ·rw[qaa h,qab ((EC z).mpr h)]
theorem ED{low:Option Int}{b:Tk}{q:List Tk}(h:b.ok): (match og low (b:: .sign [41]::q)with
  |none=>none
  |some (h,r4)=>match aJ (.sign (cd ")")) r4 with
   |none=>none
   |some r5=>some ((low,h),T r5))=uH (some low) (lR (fk b)) (T q):=by
 have j:aJ (.sign (cd ")")) (.sign [41]::q)=some q:=bG _ _;unfold og;cases b with
 |num z=>
  rw[cM (by intro z;cases z)];dsimp only;rw[mz];have r:lR (fk (.num z))=if -9223372036854775808<=z/\z < 9223372036854775808 then some (some z)else none:=by rw[<-iV];rfl
  rw[r];by_cases g: -9223372036854775808<=z/\z < 9223372036854775808
  ·rw[qab g,qab g];dsimp only;cases low with
   |none=>
    rw[qaa (by simp)];dsimp only;rw[j];rfl
   |some a=>
    show _=if a<=z then some ((some a,some z),T q)else none
    by_cases p:a<=z
    ·rw[qab p,qaa (show ¬((some a).any fun a=>decide (z < a))=true from fun y=>by
      have:=qac (show decide (z < a)=true from y);lia)]
     dsimp only;rw[j]
    ·rw[qaa p,qab (show((some a).any fun a=>decide (z < a))=true from by show decide (z < a)=true;exact qad (by lia))]
  ·rw[qaa g,qaa g];cases low<;>rfl
 |word w=>
  rw[tF h];by_cases e:w=cd "MAX"
  ·rw[qab e,e,bG];dsimp only;rw[j];cases low<;>rfl
  ·rw[qaa e,cM (fun z=>e (by injection z))];cases low<;>rfl
 |bits l=>rw[gW (by intro z e;cases e) (by intro z e;cases e),cM (by intro z;cases z)];cases low<;>rfl
 |octs l=>rw[gW (by intro z e;cases e) (by intro z e;cases e),cM (by intro z;cases z)];cases low<;>rfl
 |sign l=>rw[gW (by intro z e;cases e) (by intro z e;cases e),cM (by intro z;cases z)];cases low<;>rfl
theorem EE{r:List Tk}(h:Oks r):dU (.sign [40]::T r)= (iA r).map fun x=>(x.1,T x.2):=by
 by_cases p:yg r
 ·cases p with
  |one z q e=>
   subst e;rw[tD,iV];unfold iA;rw[cM (by intro z;cases z)];dsimp only;rw[mz];by_cases g: -9223372036854775808<=z/\z < 9223372036854775808
   ·rw[qab g,qab g];dsimp only;rw[kj,cM (by intro z;injection z with z;revert z;decide)];dsimp only;rw[show aJ (.sign (cd ")")) (.sign [41]::q)=some q from bG _ _];rfl
   ·rw[qaa g,qaa g];rfl
  |two a b q e=>
   subst e;rw[tE];have v:b.ok:=h.tail.tail.head;unfold iA;have u:aJ (.sign (cd "..")) (.sign [46,46]::b:: .sign [41]::q)=some (b:: .sign [41]::q):=bG _ _;cases a with
   |num z=>
    rw[cM (by intro z;cases z)];dsimp only;rw[mz];have C:xb (fk (.num z))=if -9223372036854775808<=z/\z < 9223372036854775808 then some (some z)else none:=by rw[<-iV];rfl
    rw[C];by_cases g: -9223372036854775808<=z/\z < 9223372036854775808
    ·rw[qab g,qab g];dsimp only;rw[kj,u];dsimp only;rw[<-ED v];cases og (some z) (b:: .sign [41]::q)with
     |none=>rfl
     |some x=>
      obtain⟨B,j⟩:=x;dsimp only;cases aJ (.sign (cd ")")) j with
      |none=>rfl
      |some r5=>rfl
    ·rw[qaa g,qaa g];rfl
   |word w=>
    have y: (Tk.word w).ok:=h.head;rw[vz y];by_cases e:w=cd "MIN"
    ·rw[qab e,e,bG];dsimp only;rw[u];dsimp only;rw[<-ED v];cases og none (b:: .sign [41]::q)with
     |none=>rfl
     |some x=>
      obtain⟨B,j⟩:=x;dsimp only;cases aJ (.sign (cd ")")) j with
      |none=>rfl
      |some r5=>rfl
    ·rw[qaa e,cM (fun z=>e (by injection z))];rfl
   |bits l=>rw[iU (by intro z e;cases e) (by intro z e;cases e),cM (by intro z;cases z)];rfl
   |octs l=>rw[iU (by intro z e;cases e) (by intro z e;cases e),cM (by intro z;cases z)];rfl
   |sign l=>rw[iU (by intro z e;cases e) (by intro z e;cases e),cM (by intro z;cases z)];rfl
 ·rw[vy h p,Cu p];rfl
theorem EF{r:List Tk}(h:Oks r)(g:∀q,r≠ .sign (cd "(")::q):dU (T r)=some ((none,none),T r):=by
 have no:∀ {q},T r≠ .sign [40]::q:=fun e=>by
  obtain⟨r1,e1,e2⟩:=d6 h e;exact absurd (by rw[e1];rfl) (g r1)
 have v:=Wr.E5 (T r);generalize dU (T r)=o at v ⊢;cases v with
 |one _ _ e=>exact absurd e no
 |two _ _ _ e=>exact absurd e no
 |no _ e=>exact absurd e no
 |nob=>rfl
end Sp
namespace Sp
open Th
theorem Jw(g:List Tk): (match aJ (.word (cd "MIN")) g with
  |some e=>lx none e
  |none=>match cG eY ig g with
   |none=>none
   |some (z,e)=>lx (some z) e)= (iA g).map fun x=>(({ form:="INTEGER",low:=x.1.1,high:=x.1.2 } :Kr),x.2):=by
 unfold iA;cases aJ (.word (cd "MIN")) g with
 |some e=>
  dsimp only;unfold lx;rw[kj];cases aJ (.sign (cd "..")) e with
  |none=>rfl
  |some j=>
   dsimp only;cases og none j with
   |none=>rfl
   |some x=>
    obtain⟨h,p⟩:=x;dsimp only;cases aJ (.sign (cd ")")) p with
    |none=>rfl
    |some r5=>rfl
 |none=>
  dsimp only;cases cG eY ig g with
  |none=>rfl
  |some x=>
   obtain⟨z,e⟩:=x;dsimp only;unfold lx;cases fM (some z) eY ig e with
   |none=>rfl
   |some x=>
    obtain⟨h,j⟩:=x;dsimp only;cases aJ (.sign (cd ")")) j with
    |none=>rfl
    |some p=>rfl
theorem yH{low:Option Int}{r:List Tk}{x:Option Int×List Tk}(h:Oks r)(e:og low r=some x):Oks x.2:=by
 obtain⟨p,j⟩:=x;obtain⟨b,g⟩:=qp e;rw[g]at h;exact h.tail
theorem z3{r:List Tk}{x: (Option Int×Option Int)×List Tk}(h:Oks r)(e:iA r=some x):Oks x.2:=by
 unfold iA at e;cases D:aJ (.word (cd "MIN")) r with
 |some q=>
  rw[D]at e;dsimp only at e;cases p:aJ (.sign (cd "..")) q with
  |none=>rw[p]at e;cases e
  |some r3=>
   rw[p]at e;dsimp only at e;have B:=(h.skip D).skip p;cases j:og none r3 with
   |none=>rw[j]at e;cases e
   |some y=>
    have u:=yH B j;obtain⟨F,v⟩:=y;rw[j]at e;dsimp only at e u;cases g:aJ (.sign (cd ")")) v with
    |none=>rw[g]at e;cases e
    |some r5=>rw[g]at e;cases e;exact u.skip g
 |none=>
  rw[D]at e;dsimp only at e;cases p:cG eY ig r with
  |none=>rw[p]at e;cases e
  |some y=>
   obtain⟨z,q⟩:=y;have E:Oks q:=by rw[ln p]at h;exact h.tail
   rw[p]at e;dsimp only at e;rw[kj]at e;cases j:aJ (.sign (cd "..")) q with
   |none=>
    rw[j]at e;dsimp only at e;cases g:aJ (.sign (cd ")")) q with
    |none=>rw[g]at e;cases e
    |some v=>rw[g]at e;cases e;exact E.skip g
   |some r3=>
    rw[j]at e;dsimp only at e;have B:=E.skip j;cases g:og (some z) r3 with
    |none=>rw[g]at e;cases e
    |some y=>
     have u:=yH B g;obtain⟨F,v⟩:=y;rw[g]at e;dsimp only at e u;cases C:aJ (.sign (cd ")")) v with
     |none=>rw[C]at e;cases e
     |some r5=>rw[C]at e;cases e;exact u.skip C
theorem yI{r g:List Tk}(e:aJ (.sign (cd "(")) r=some g):eG r= (iA g).map fun x=>(({ form:="INTEGER",low:=x.1.1,high:=x.1.2 } :Kr),x.2):=by
 unfold eG;rw[e];exact Jw g
theorem iok:IntOk:=fun r h=>by
 cases e:aJ (.sign (cd "(")) r with
 |none=>
  have u:eG r=some ({ form:="INTEGER" },r):=by unfold eG;rw[e]
  rw[u];refine⟨?_,fun x g=>?_⟩
  ·rw[EF h (fun q z=>by rw[z,bG]at e;cases e)];rfl
  ·cases g;exact⟨rfl,h⟩
 |some r1=>
  have p:=h.skip e;rw[yI e];refine⟨?_,fun x g=>?_⟩
  ·rw[bL e];show dU (.sign [40]::T r1)=_;rw[EE p];cases iA r1 with
   |none=>rfl
   |some y=>rfl
  ·cases j:iA r1 with
   |none=>rw[j]at g;cases g
   |some y=>rw[j]at g;cases g;exact⟨rfl,z3 p j⟩
end Sp
namespace Th
open PySem L2 Sp Wr
abbrev vH(cs:List Nat):List UInt8:=cs.map bW
def jj(most:Int)(cs ns xs:List Nat):List Int:=match iC (vH cs)with
 |none=> [-3]
 |some s=>match s.lookup (vH ns)with
  |none=> [-3]
  |some t=>match ri s t xs with
   |none=> [-4]
   |some v=>if 1048576 < most then [-1]else if most < ((tx v).length:Int)then [-5]else((tx v).length:Int)::(tx v).map fun(n:Nat)=>(n:Int)
theorem EG{cs:List Nat}(h:∀c∈cs,c < 256):cs.map lc=L (vH cs):=by
 unfold L;rw[bV];refine bI fun x e=>?_;show lc x=lc (bW x).toNat;rw[eZ,E3 (h x e)]
theorem EH:∀y∈WLET,y∈TC:=by decide+kernel
theorem HP{v:List Nat}(g:∀c∈v,c∈WLET):∀ {ns:List Nat},(∀c∈ns,c < 256)->(ns.map lc=v↔ns=v):=by
 induction v with
 |nil=>intro ns _;simp
 |cons y v ih=>
  intro ns h;cases ns with
  |nil=>simp
  |cons n ns=>
   rw[bg,Ac,Ac,ih (fun c e=>g c (ak _ e)) fun c e=>h c (ak _ e)];have:=DP n (h n af) y (EH y (g y af));rw[decide_eq_decide]at this;rw[this]
theorem Ha{l m:List Nat}(h:∀c∈l,c < 256)(h':∀c∈m,c < 256)(e:vH l=vH m):l=m:=by
 have g:∀ {l:List Nat},(∀c∈l,c < 256)->(vH l).map aL=l:=fun {l} h=>by
  rw[bV];conv=>rhs;rw[<-m8 l]
  exact bI fun c j=>by show(bW c).toNat=c;rw[eZ,E3 (h c j)]
 rw[<-g h,<-g h',e]
theorem Cv{s:aI}{v:List (List Nat×Kd)}(z:AZ (some s) (some v)){ns:List Nat}(h:∀c∈ns,c < 256): (ns.map lc∈v.map bO->ns.map lc=ns/\o6 ns)/\(ns.map lc∉v.map bO->s.lookup (vH ns)=none):=by
 obtain⟨B,y,_⟩:=z;constructor
 ·intro r;obtain⟨x,p,e⟩:=bA.mp r;have g:=y x p;have:=(HP g.2.2.2 h).mp e.symm;rw[<-this]at g e;exact⟨e.symm.trans (by rw[this]),g⟩
 ·intro r;cases q:s.lookup (vH ns)with
  |none=>rfl
  |some t=>
   have j:vH ns∈s.map fun x=>x.1:=bA.mpr ⟨_,hZ q,rfl⟩;rw[B]at j;obtain⟨x,p,e⟩:=bA.mp j;have g:=y x p;have C:x.1=ns:=Ha (fun c u=>jl (g.2.1 c u) (by decide)) h e;refine absurd (bA.mpr ⟨x,p,?_⟩) r;rw[<-C];refine((HP g.2.2.2 ?_).mpr rfl).symm;exact fun c u=>jl (g.2.1 c u) (by decide)
section
variable {P:aZ}{w:bB}{K:PySem.W.Frag}{mg:aQ->Option ag}{base:bH}{WT RC KC NK NV:aa}
def tT(K:PySem.W.Frag):Sp:=fun vs H Q _=>FU fun(most:Int) (a b c:aa) (e ns xs:List Nat)=>vs= [.int most, .ref a, .ref b, .ref c]/\SqL K H a (iv e)/\SqL K H b (iv ns)/\SqL K H c (iv xs)/\(e.length<=65536/\ns.length<=65536/\xs.length<=65536)/\(∀n∈e,n < 256)/\(∀n∈ns,n < 256)/\
 ∀(p:aa) (H':Hp),H' p=some (.lst ((jj most e ns xs).map V.int))->Q (.ref p) H'
theorem scTell:bf ["most","schema_text","type_name","value_text","kind","value","told"] ["most","schema_text","type_name","value_text"] (aA vd):=fP
theorem Hb{fa:aa}{fd:gc}(D:Fun K "tell" "tell" vd fa fd)(T0:Txt K mg WT)(T:Txq K mg NK NV)(GK:Ok P w K mg base (cE P w) 12 "kind_called" ["schema_text","type_name"] (Js K NK KC))(GV:Ok P w K mg base (cE P w) 138 "value_of" ["kind","value_text"] (Jt K NV KC))
  (GB:Ok P w K mg base fh 198 "told_bytes" ["kind","value"] (qQ KC)):lZ P w K mg base (cE P w) 199 fa fd ["most","schema_text","type_name","value_text"] (tT K):=by
 refine D.okX (k:=198) scTell (fun cdv A outer s0 H vs Q E hr h=>?_)
 ·obtain⟨most,a,b,c,u,ns,xs,rfl,hA,hB,hC,⟨R,hl2,O⟩,h8,h9,g⟩:=h;have hr1:=hr.mono (show 12<=198 by decide);have hr2:=hr.mono (show 138<=198 by decide);refine⟨_,aj (FZ (C:=NK) (Dc:=NV) (tb:=fun E'=>xq (zb (sf (Js K NK KC) [] E' (ie (lz 1) (ie (lz 2) tNil))) (ni 4)) (zb (sf (Jt K NV KC) [] E' (ie (lz 4) (ie (lz 3) tNil))) (ni 5))) BU PySem.F.excBase_ValueError T.nkx T.nvx T.apart (by rfl) T.nk (by rfl) T.nv vZ
    (fun E' pn xe r ho=>aj (bR (i:=4) scTell.nd rfl (Or.inl rfl) (cy GK hr1 r (ac (pv 1) (ac (pv 2) ao)))) (aq (bR (i:=5) scTell.nd rfl (Or.inl rfl) (cy GV hr2 r (ac (pv 4) (ac (pv 3) ao))))))
    (fun e oe=>aq (bb (iq (ac (ek T.nokind) ao)))) (fun e oe=>aq (bb (iq (ac (ek T.novalue) ao)))))
   (aj (bN (bo lY (pv 0) (ek T.answered) (bE _)) (aq (bb (iq (ac (ek T.much) ao)))) bh)
   (aj (bR (i:=6) scTell.nd rfl (Or.inl rfl) (cy GB hr cD (ac (pv 4) (ac (pv 5) ao))))
   (aj (bN (bo lY (cJ d5 (by rfl) T0.len PySem.boot_len (ac (pv 6) ao)) (pv 0) (bE _)) (aq (bb (iq (ac (ek T.long) ao)))) bh)
   (aq (bb (fU Iy (iq (ac (cJ d5 (by rfl) T0.len PySem.boot_len (ac (pv 6) ao)) ao)) (pv 6))))))),?_⟩
  have S:=Cs iok (vH u) u (by rw[ah];exact R) (EG h8);refine⟨fun cls od H'=>(cls= .ref NK/\jj most u ns xs= [-3])\/(cls= .ref NV/\jj most u ns xs= [-4]),fun cls od H' z=>z.elim (fun z=> .inl z.1) (fun z=> .inr z.1),fun X od H' hσ z=>?_,fun X od H' hσ z=>?_,?_⟩
  ·have e:jj most u ns xs= [-3]:=z.elim (fun z=>z.2) fun z=>absurd (CH z.1) T.ne;refine⟨by decide,fun p r=>g p _ ?_⟩;rw[aU,e];rfl
  ·have e:jj most u ns xs= [-4]:=z.elim (fun z=>absurd (CH z.1).symm T.ne) fun z=>z.2;refine⟨by decide,fun p r=>g p _ ?_⟩;rw[aU,e];rfl
  ·refine⟨_,rfl,_,rfl,a,b,u,ns,rfl,hA,hB,R,hl2,?_⟩;cases G:iC (vH u)with
   |none=>
    cases W:yE u with
    |some ds=>rw[G,W]at S;exact S.elim
    |none=>exact fun od H'=> .inl ⟨rfl,by unfold jj;rw[G]⟩
   |some s=>
    cases W:yE u with
    |none=>rw[G,W]at S;exact S.elim
    |some ds=>
     rw[G,W]at S;obtain⟨n1,n2⟩:=Cv S h9;show if ns.map lc∈ds.map bO then _ else _
     by_cases U:ns.map lc∈ds.map bO
     ·rw[qab U];obtain⟨m1,m2⟩:=n1 U;intro Z Y H1 h1 h2 h3 hk1;have B:TbAt KC Y H1 s:=Lj S h2 h3;rw[m1]at h1;obtain⟨t,k,t1,t2,t3⟩:=B ns Z m2 h1;have J:s.lookup (vH ns)=some t:=t1;refine⟨_,rfl,_,rfl,c,Z,xs,Y,s,k,t,rfl,Bd hC hk1,O,t2,t3,B,?_⟩;cases ev:ri s t xs with
      |none=>exact fun od H'=> .inr ⟨rfl,by unfold jj;rw[G];dsimp only;rw[J];dsimp only;rw[ev]⟩
      |some v=>
       intro y H2 hy hk2;have I:jj most u ns xs=if 1048576 < most then [-1]else if most < ((tx v).length:Int)then [-5]else((tx v).length:Int)::(tx v).map fun(n:Nat)=>(n:Int):=by
        unfold jj;rw[G];dsimp only;rw[J];dsimp only;rw[ev]
       obtain⟨f1,f2⟩:=G0 O ev;refine⟨_,rfl,_,_,rfl,rfl,_,rfl,?_⟩;refine du (fun x=>?_) (fun x=>?_)
       ·have x:=qac x;rw[qab x]at I;refine⟨by decide,fun p r=>g p _ ?_⟩;rw[aU,I];rfl
       ·have x:¬1048576 < most:=fun z=>x (qad z);rw[qaa x]at I;have M:Ky H1 H2:=Ky.old hk2;refine⟨_,rfl,_,rfl,Z,y,Y,s,k,t,v,rfl,t2.keep M,t3,B.keep M,hy,f1,f2,fun p H3 r hk3=>?_⟩;refine⟨_,rfl,p,_,rfl, .inl (SqL.of r),_,rfl,_,_,rfl,rfl,_,rfl,?_⟩;rw[ah];refine du (fun j=>?_) (fun j=>?_)
        ·have j:=qac j;rw[qab j]at I;refine⟨by decide,fun p r=>g p _ ?_⟩;rw[aU,I];rfl
        ·have j:¬most < ((tx v).length:Int):=fun z=>j (qad z);rw[qaa j]at I;refine⟨_,rfl,p,_,rfl, .inl (SqL.of r),(by show 1<=aO;decide),fun q hq=>?_⟩;have hqp:p≠q:=fun z=>by rw[<-z,r]at hq;cases hq
         refine⟨_,rfl,q,p,_,_,rfl,rfl,aU,(aY hqp).trans r,?_,fun p2 hp2=>g p2 _ ?_⟩
         ·rw[ah];show 1+ (tx v).length<=aO;exact cn (CC f2 1) (by decide)
         ·rw[aU,I,ah,bg,bV];rfl
     ·rw[qaa U];exact fun od H'=> .inl ⟨rfl,by unfold jj;rw[G];dsimp only;rw[n2 U]⟩
end
end Th
namespace Sp
open Th Wr
theorem Jx:Kh Gd where
 row:=fun l m h=>by cases h;exact⟨by assumption,by assumption⟩
 one:=fun l m h=>by cases h;assumption
 many:=fun e g t h=>by cases h;assumption
theorem EI:∀(K:Nat) (l:List az) (s:aI),eu K l=some s->∀x∈s,Dp K x.2/\Op (ow l) x.2
 |0,l,s,h=>by cases(show none=some _ from h)
 |K+1,l,s,h=>by
  rw[vG]at h;split at h
  ·cases h;intro x e;cases e
  ·rename_i n r;split at h
   ·cases h
   ·split at h
    ·rename_i t q p;obtain⟨y,B,v⟩:=(EB K).1 _ _ _ p;obtain⟨j,u,rfl⟩:=d7.mp h;have g:=EI K q j u;intro x e;simp only[gO];rcases am.mp e with z|z
     ·rw[z];exact⟨y.succ,v.mono (by lia)⟩
     ·exact⟨(g x z).1.succ,(g x z).2.mono (by lia)⟩
    ·cases h
  ·cases h
theorem wS{b:List UInt8}{s:aI}(v:b.length<=65536)(h:iC b=some s)(n:bP)(t:aS)(p:s.lookup n=some t):Gd t/\Op 8192 t:=by
 unfold iC at h;rw[pY (b.length+1) b (by lia)]at h;cases e:toks (L b)with
 |none=>rw[e]at h;cases h
 |some ts=>
  rw[e]at h;have h: (match eu ((T ts).length+1) (T ts)with
   |none=>none
   |some s=>if(s.map fun x=>x.1).Nodup/\s≠ []/\s.length<=uG/\(s.all fun x=>d0 ((T ts).length+1) (s.map fun x=>x.1) x.2)=true then some s else none)=some s:=h
  have j:=yo _ e;unfold L at j;rw[ah]at j;cases g:eu ((T ts).length+1) (T ts)with
  |none=>rw[g]at h;cases h
  |some s'=>
   rw[g]at h;dsimp only at h;split at h
   ·rename_i q;cases h;obtain⟨u,r⟩:=EI _ _ _ g _ (hZ p);exact⟨((mU u).mp (bw.mp q.2.2.2 _ (hZ p))).1,r.mono (by lia)⟩
   ·cases h
theorem EJ{s:aI}{t:aS}{xs:List Nat}(q:∀n t,s.lookup n=some t->Gd t/\Op 8192 t)(p:Gd t/\Op 8192 t)(r:xs.length<=65536)(u:∀c∈xs,c < 256)(v:cA):
  (CI s t (vH xs)=some v/\(nD s t v).isSome=true)↔ri s t xs=some v:=by
 unfold ri;rw[EG u];have e:=pY ((vH xs).length+1) (vH xs) (by lia);cases j:toks (L (vH xs))with
 |none=>
  rw[j]at e;refine⟨fun z=>?_,fun z=>(by cases z)⟩;have:=z.1;unfold CI at this;rw[e]at this;cases this
 |some ts=>
  rw[j]at e;have e:cq ((vH xs).length+1) (vH xs)=some (T ts):=e;have g: (T ts).length=ts.length:=ah _;have h:=(j7 _ (by unfold L;rw[ah,ah];exact r) (xS _) j).2;unfold L at h;rw[ah,ah]at h;rw[Bx Jx q e (by lia) (aC _) p.1 p.2 v,g];dsimp only;constructor
  ·intro z;rw[z]
  ·intro z;split at z
   ·rename_i y x;cases z;exact x
   ·cases z
theorem tell_eq(most:Int)(s t x:List Int)(D:s.length<=65536/\∀c∈s,0<=c/\c<=255)(M:∀c∈t,0<=c/\c<=255)(r:x.length<=65536/\∀c∈x,0<=c/\c<=255):
  HZ most s t x=jj most (s.map bt) (t.map bt) (x.map bt):=by
 have p:∀l:List Int,vH (l.map bt)=d3 l:=fun l=>by unfold vH d3;rw[bV];rfl
 have I:∀ {l:List Int},(∀c∈l,0<=c/\c<=255)->∀c∈l.map bt,c < 256:=fun h c E=>by
  obtain⟨z,C,rfl⟩:=bA.mp E;have:=h z C
  lia
 show(match ue s t x with
  |none=> [-3]
  |some z=>(match z.2.2,z.2.2.bind (nD z.1 z.2.1)with
   |some v,some _=>if(1048576:Int) < most then [-1]else wZ most ((dY gE v).map aL)
   |_,_=> [-4]))=_
 unfold jj ue;rw[p s,p t];cases F:iC (d3 s)with
 |none=>rfl
 |some y=>
  dsimp only;cases G:y.lookup (d3 t)with
  |none=>rfl
  |some ty=>
   have e:=wS (b:=d3 s) (by unfold d3;rw[ah];exact D.1) F;have g:=EJ (xs:=x.map bt) e (e _ _ G) (by rw[ah];exact r.1) (I r.2);rw[p x]at g;dsimp only[JO];cases u:ri y ty (x.map bt)with
   |some v=>
    obtain⟨B,q⟩:=(g v).mpr u;rw[B];dsimp only[Ia];cases j:nD y ty v with
    |none=>rw[j]at q;cases q
    |some l=>
     dsimp only;unfold wZ Ql51Neutral.ints tx;rfl
   |none=>
    cases J:CI y ty (d3 x)with
    |none=>rfl
    |some v=>
     dsimp only[Ia];cases j:nD y ty v with
     |none=>rfl
     |some l=>
      have:=(g v).mp ⟨J,by rw[j];rfl⟩;rw[u]at this;cases this
end Sp
namespace L2
open PySem PySem.Spec PyProof.Rows
def AllL:Nat->(List ag->Prop)->Prop
 |0,C=>C []
 |n+1,C=>∀a,AllL n fun l=>C (a::l)
theorem AllL.all:∀ {n:Nat} {C:List ag->Prop},AllL n C->∀us:List ag,us.length=n->C us
 |0,_,h, [],_=>h
 |_+1,_,h,a::l,e=>(h a).all l (Nat.succ.inj e)
def Be(x q:aQ)(st:ck)(h:List aQ):Prop:=∀(kV e j:ag) (p:Option aa) (g ct:ag),AllL h.length fun us=>bindArgs (PySem.W.fnOf x q (hJ st) (ew st) (aA st) .none kV e j p g ct) ⟨us, []⟩=pure (h.zip us)
section
variable {K:PySem.W.Frag}{h:bH}{mg:aQ->Option ag}{C f:aa}{oc:ag}{od an:Option aa}{osl:Array (Option ag)}{kV doc pm cdv ct:ag}{x m qual:aQ}{st:ck}{ps:List aQ}
theorem df_mk(X:K.In h)(G:h.Ns cf mg)(a:PySem.W.nsIn K cf x=some (some (.ref f)))(l:K.lookup f=some ⟨oc,od, .func (PySem.W.fnOf x x (hJ st) (ew st) (aA st) .none kV doc pm an cdv ct),osl⟩)
  (c:PySem.W.codeIn K cdv x=true) (k:PySem.W.keepIn K (.ref f)=true) (b:Be x x st ps):Df K mg x st ps:=
 ⟨f,_,kD l c k,PySem.W.mg_of X G a,(kD l c k).binds fun _ _ _ _ _ _=>(b _ _ _ _ _ _).all⟩
theorem dfm_mk(a:PySem.W.findIn K (.ref C) m=some (some (.ref f)))(i:PySem.W.isFn K (.ref f)=true)(l:K.lookup f=some ⟨oc,od, .func (PySem.W.fnOf m qual (hJ st) (ew st) (aA st) .none kV doc pm an cdv ct),osl⟩)
  (c:PySem.W.codeIn K cdv qual=true) (k:PySem.W.keepIn K (.ref f)=true) (b:Be m qual st ps):DfM K C m qual st ps:=
 ⟨f,_,kD l c k,⟨a,i,k⟩,(kD l c k).binds fun _ _ _ _ _ _=>(b _ _ _ _ _ _).all⟩
theorem dfi_mk(X:K.In h)(G:h.Ns cf mg)(g:PySem.W.nsIn K cf x=some (some (.ref C)))(mk:PySem.W.makesIn K C=true)(e:PySem.W.keepIn K (.ref C)=true)
  (a:PySem.W.findIn K (.ref C) "__init__"=some (some (.ref f))) (i:PySem.W.isFn K (.ref f)=true) (l:K.lookup f=some ⟨oc,od, .func (PySem.W.fnOf "__init__" qual (hJ st) (ew st) (aA st) .none kV doc pm an cdv ct),osl⟩)
  (c:PySem.W.codeIn K cdv qual=true) (k:PySem.W.keepIn K (.ref f)=true) (b:Be "__init__" qual st ps):DfI K mg x C qual st ps:=
 ⟨f,_,kD l c k,⟨mk,a,i,e⟩,(kD l c k).binds fun _ _ _ _ _ _=>(b _ _ _ _ _ _).all,PySem.W.mg_of X G g⟩
theorem dfa_mk{y:aQ}(X:K.In h)(G:h.Ns cf mg)(a:PySem.W.nsIn K cf y=some (some (.ref f)))(l:K.lookup f=some ⟨oc,od, .func (PySem.W.fnOf x x (hJ st) (ew st) (aA st) .none kV doc pm an cdv ct),osl⟩)
  (c:PySem.W.codeIn K cdv x=true) (k:PySem.W.keepIn K (.ref f)=true) (b:Be x x st ps):DfA K mg y x st ps:=
 ⟨f,_,kD l c k,PySem.W.mg_of X G a,(kD l c k).binds fun _ _ _ _ _ _=>(b _ _ _ _ _ _).all⟩
theorem Lk{g e:aa}{cs:ag}{dd:Option aa}{cd:ClassData}{h:Array (Option ag)}(l:K.lookup e=some ⟨cs,dd, .cls cd,h⟩)(n:cd.mro.contains (.ref g)=false):∃o cd,K.lookup e=some o/\o.data= .cls cd/\cd.mro.contains (.ref g)=false:=⟨_,_,l,rfl,n⟩
theorem cst_mk{u:ag}{v:V}(X:K.In h)(G:h.Ns cf mg)(a:PySem.W.nsIn K cf x=some (some u))(r:RelV v u):ou mg x v:=⟨u,PySem.W.mg_of X G a,r⟩
theorem tup_mk{cs:ag}{d:Option aa}{e:Array ag}{n:Nat}{g:Array (Option ag)}{xs:List V}(X:K.In h)(G:h.Ns cf mg)(a:PySem.W.nsIn K cf x=some (some (.ref f)))(l:K.lookup f=some ⟨cs,d, .seq e n,g⟩)
  (c:cs= .type "tuple") (z:e.size<=aO) (v:Vals xs e.toList):∃a,mg x=some (.ref a)/\∀H,SqT K H a xs:=⟨f,PySem.W.mg_of X G a,fun H=> .inr ⟨_,e,n,l,c,rfl,z,v⟩⟩
end
end L2
namespace Th
open PySem L2
structure Prog(K:PySem.W.Frag)(mg:aQ->Option ag)(WT RC KC NK NV:aa):Prop where
 t0:Txt K mg WT
 t1:D2 K mg
 tv:Txv mg
 tq:Txq K mg NK NV
 ord_:mg "ord"=none
 str_:mg "str"=none
 tr:mO K RC
 tk:rA K KC
 letter_of:Df K mg "letter_of" pJ ["code"]
 remark_end:Df K mg "remark_end" nM ["text","start"]
 skip_blanks:Df K mg "skip_blanks" md ["text","start"]
 run_end:Df K mg "run_end" wa ["text","start","letters"]
 word_token:Df K mg "word_token" nN ["piece"]
 number_token:Df K mg "number_token" kE ["piece"]
 only_of:Df K mg "only_of" ry ["digits","allowed"]
 string_end:Df K mg "string_end" nO ["text","start"]
 string_token:Df K mg "string_token" kF ["piece"]
 sign_end:Df K mg "sign_end" su ["text","start"]
 begins_number:Df K mg "begins_number" jH ["letter"]
 token_end:Df K mg "token_end" pK ["text","start"]
 token_of:Df K mg "token_of" sw ["piece"]
 text_of:Df K mg "text_of" rx ["codes"]
 tokens_of:Df K mg "tokens_of" pL ["codes"]
 r_init:DfI K mg "Reader" RC "Reader.__init__" me ["self","tokens"]
 r_ended:DfM K RC "ended" "Reader.ended" kG ["self"]
 r_skips:DfM K RC "skips" "Reader.skips" kH ["self","token"]
 r_skips_sign:DfM K RC "skips_sign" "Reader.skips_sign" gP ["self","sign"]
 r_skips_word:DfM K RC "skips_word" "Reader.skips_word" gQ ["self","word"]
 r_needs_sign:DfM K RC "needs_sign" "Reader.needs_sign" gR ["self","sign"]
 r_needs_word:DfM K RC "needs_word" "Reader.needs_word" gS ["self","word"]
 r_takes:DfM K RC "takes" "Reader.takes" kI ["self","sort"]
 r_takes_number:DfM K RC "takes_number" "Reader.takes_number" gg ["self","least","most"]
 k_init:DfI K mg "Kind" KC "Kind.__init__" pM ["self","form"]
 checked_kind_name:Df K mg "checked_kind_name" gT ["word"]
 read_high:Df K mg "read_high" pN ["reader","low","least","most"]
 read_integer:DfA K mg "read_integer_schemas" "read_integer" kJ ["reader"]
 read_size:Df K mg "read_size" pO ["reader","kind"]
 read_string:Df K mg "read_string" mf ["reader","form"]
 add_name:Df K mg "add_name" sy ["reader","kind"]
 next_name:Df K mg "next_name" pP ["reader","kind"]
 read_enumerated:Df K mg "read_enumerated" iw ["reader"]
 begin_choice:Df K mg "begin_choice" kK ["reader"]
 begin_sequence_of:Df K mg "begin_sequence_of" gU ["reader"]
 begin_sequence:Df K mg "begin_sequence" jb ["reader"]
 named_kind:Df K mg "named_kind" nP ["word","named"]
 begin_kind:Df K mg "begin_kind" nQ ["reader","named"]
 take_inner:Df K mg "take_inner" nR ["reader","outer","inner"]
 read_kind:Df K mg "read_kind" pQ ["reader","named"]
 join_named:Df K mg "join_named" nS ["kinds","named"]
 read_schema:Df K mg "read_schema" mh ["text"]
 in_brackets:Df K mg "in_brackets" mi ["items"]
 told_sequence:Df K mg "told_sequence" fW ["kind","parts"]
 told_sequence_of:Df K mg "told_sequence_of" fc ["kind","values"]
 told_choice:Df K mg "told_choice" jx ["kind","chosen"]
 told_part:Df K mg "told_part" mK ["kind","name","value"]
 told_value:Df K mg "told_value" nT ["kind","value"]
 told_bytes:Df K mg "told_bytes" kL ["kind","value"]
 deeper:Df K mg "deeper" wb ["depth"]
 check_bounds:Df K mg "check_bounds" kM ["kind","number"]
 read_boolean:Df K mg "read_boolean" kN ["reader"]
 read_null:Df K mg "read_null" pR ["reader"]
 read_integer2:DfA K mg "read_integer_values" "read_integer" jI ["reader","kind"]
 read_name:Df K mg "read_name" pS ["reader","kind"]
 read_bits:Df K mg "read_bits" pT ["reader","kind"]
 read_octets:Df K mg "read_octets" mj ["reader","kind"]
 next_item:Df K mg "next_item" pU ["reader","count"]
 check_left_out:Df K mg "check_left_out" jJ ["kind","start","end"]
 read_sequence:Df K mg "read_sequence" hL ["reader","kind","depth"]
 read_sequence_of:Df K mg "read_sequence_of" f9 ["reader","kind","depth"]
 read_choice:Df K mg "read_choice" jy ["reader","kind","depth"]
 read_value:Df K mg "read_value" nU ["reader","kind","depth"]
 read_value_text:Df K mg "read_value_text" jc ["text","kind"]
 kind_called:Df K mg "kind_called" ml ["schema_text","type_name"]
 value_of:Df K mg "value_of" sA ["kind","value_text"]
theorem Prog.ok{K:PySem.W.Frag}{mg:aQ->Option ag}{WT RC Z NK NV fa:aa}{fd:gc}(D:Prog K mg WT RC Z NK NV)(F:Fun K "tell" "tell" vd fa fd)(P:aZ)(w:bB)(base:bH):lZ P w K mg base (cE P w) 199 fa fd ["most","schema_text","type_name","value_text"] (tT K):=by
 have g1:=wc (P:=P) (w:=w) (base:=base) D.letter_of D.t0;have g2:=ui (P:=P) (w:=w) (base:=base) D.remark_end D.t0;have g3:=F1 D.skip_blanks D.t0 g2;have g4:=zw (P:=P) (w:=w) (base:=base) D.run_end D.t0;have g5:=uj (P:=P) (w:=w) (base:=base) D.word_token D.t0;have g6:=qZ (P:=P) (w:=w) (base:=base) D.number_token D.t0;have g7:=zx (P:=P) (w:=w) (base:=base) D.only_of D.t0;have g8:=uk (P:=P) (w:=w) (base:=base) D.string_end D.t0;have g9:=q0 D.string_token D.t0 g7;have Y:=xN (P:=P) (w:=w) (base:=base) D.sign_end D.t0;have u:=pV (P:=P) (w:=w) (base:=base) D.begins_number D.t0;have X:=wf D.token_end D.t0 g4 u g8 Y;have U:=xP D.token_of D.t0 u g5 g6 g9;have q:=zI D.text_of g1;have r:=wj D.tokens_of D.t0 q g3 X U;have r1:=sM (P:=P) (w:=w) (base:=base) D.r_init D.tr;have x:=q7 (P:=P) (w:=w) (base:=base) D.r_ended D.tr D.t0.len;have r3:=DX D.r_skips D.tr x;have h:=um D.r_skips_sign D.tr D.t0.sign r3;have p:=uo D.r_skips_word D.tr D.t0.word r3;have e:=uq D.r_needs_sign D.tr D.t0 h;have j:=ur D.r_needs_word D.tr D.t0 p;have g:=DY D.r_takes D.tr D.t0 x;have k0:=wp (P:=P) (w:=w) (base:=base) D.k_init D.tk;have k1:=ra (P:=P) (w:=w) (base:=base) D.checked_kind_name D.t0 D.t1;have k2:=rb D.r_takes_number D.t0 D.tr g;have k3:=wq D.read_high D.t0 D.tr h p e k2;have k4:=rc D.read_integer D.t1 D.tr D.tk k0 h p e k2 k3;have k5:=wu D.read_size D.t1 D.tr D.tk h j e k2 k3;have k6:=sT D.read_string D.tr k0 j k5;have y:=ye D.add_name D.t0 D.tr D.tk g;have k8:=wv D.next_name D.tr D.tk h e y;have k9:=nZ D.read_enumerated D.tr k0 e y k8;have S:=re D.begin_choice D.tr D.tk k0 e y;have R:=ms D.begin_sequence_of D.t1 D.tr D.tk k0 j k5;have Q:=oP D.begin_sequence D.tr D.tk k0 h e y R;have O:=uw D.named_kind D.t1 D.tk k0 k1;have M:=uy D.begin_kind D.t0 D.tr g k0 k4 k9 k6 Q S O;have J:=uz D.take_inner D.t1 D.tr D.tk p k8;have I:=wy D.read_kind D.t0 D.tk M J;have E:=Gg (P:=P) (w:=w) (base:=base) D.join_named D.t0 D.tk;have G:=tz D.read_schema D.t0 D.t1 D.tr r1 r x g k1 e I E;have v1:=Ch (P:=P) (w:=w) (base:=base) D.deeper D.t0 D.tv;have v:=rg (P:=P) (w:=w) (base:=base) D.check_bounds D.t0 D.tk;have v3:=rh D.read_boolean D.tr p j;have v4:=wF D.read_null D.tr j;have v5:=qh D.read_integer2 D.t1 D.tr k2 v;have v6:=wG D.read_name D.t0 D.tr D.tk g;have v7:=wH D.read_bits D.t0 D.tr g v;have v8:=tJ D.read_octets D.t0 D.tv D.tr g v;have v9:=wI D.next_item D.tr h e;have C:=o4 (P:=P) (w:=w) (base:=base) D.check_left_out D.t0 D.tk;have B:Vd P w K mg base WT RC Z:=⟨D.t0,D.t1,D.tr,D.tk,D.read_value,D.read_sequence,D.read_sequence_of,D.read_choice,e,v9,v6,C,v1,v,v3,v4,v5,v7,v8⟩;have z:=n6 D.read_value_text B r1 r x;have B2:Td P w K mg base Z:=⟨D.t1,D.tk,D.str_,D.told_value,D.told_part,D.told_sequence,D.told_sequence_of,D.told_choice,tM D.in_brackets D.t0.len⟩;have x1:=uC D.told_bytes D.ord_ B2;have y1:=tS D.kind_called D.t0 D.tq G q;have y2:=yG D.value_of D.t0 D.tq z;exact Hb F D.t0 D.tq y1 y2 x1
end Th
namespace Th
open PySem PySem.Spec PyProof.Rows L2
theorem fin_mk{P:aZ}{w:bB}{K:PySem.W.Frag}{h:bH}{mg:aQ->Option ag}{C f r E F v u:aa}{J:ag}{od M:Option aa}{j:Array (Option ag)}{kV q I g ct:ag}(X:K.In h)(G:h.Ns cf mg)(p:mg "tell"=some (.ref C))
  (O:PySem.W.nsIn K cf "WrongText"=some (some (.ref r))) (aR:PySem.W.nsIn K cf "Reader"=some (some (.ref E))) (aK:PySem.W.nsIn K cf "Kind"=some (some (.ref F))) (R:PySem.W.nsIn K cf "NoKind"=some (some (.ref v))) (Q:PySem.W.nsIn K cf "NoValue"=some (some (.ref u)))
  (a:PySem.W.nsIn K cf "tell"=some (some (.ref f))) (l:K.lookup f=some ⟨J,od, .func (PySem.W.fnOf "tell" "tell" (hJ vd) (ew vd) (aA vd) .none kV q I M g ct),j⟩)
  (c:PySem.W.codeIn K g "tell"=true) (k:PySem.W.keepIn K (.ref f)=true) (D:mg "WrongText"=some (.ref r)->mg "NoKind"=some (.ref v)->mg "NoValue"=some (.ref u)->Prog K mg r E F v u):
  ∃fd:gc,(∀(s:ap) (B z y x:ag),CT s fd ⟨[B,z,y,x], []⟩ [("most",B),("schema_text",z),("type_name",y),("value_text",x)])/\∀base:bH,K.In base->base.Ns cf mg->lZ P w K mg base (cE P w) 199 C fd ["most","schema_text","type_name","value_text"] (tT K):=by
 have e:=p.symm.trans (PySem.W.mg_of X G a);cases e;exact⟨_,fun s Z Y U S=> .of_eq rfl,fun base _ _=>(D (PySem.W.mg_of X G O) (PySem.W.mg_of X G R) (PySem.W.mg_of X G Q)).ok (kD l c k) P w base⟩
theorem Bf{ns:List Int}(h:∀x∈ns,0<=x/\x<=255):∀n∈ns.map bt,n < 256:=fun n g=>by
 obtain⟨z,e,rfl⟩:=bA.mp g;have:=h z e
 lia
theorem z4{ns:List Int}(h:∀x∈ns,0<=x/\x<=255):iv (ns.map bt)=ns.map V.int:=by
 unfold iv;rw[bV];refine bI fun x e=>?_;show V.int ((x.toNat:Nat):Int)=V.int x;rw[Int.toNat_of_nonneg (h x e).1]
abbrev Jy(ns:List Int):Prop:=ns.length<=65536/\∀x∈ns,0<=x/\x<=255
theorem walk{r:PySem.W.OpenSpec}{q:aZ}{S:List aQ}{XP: (aQ->Option ag)->bH->Prop}{YP:bB->bH->Prop}{d:DefRec}{K:Params->PySem.W.Frag}
  (Z:∀args,r.pre args=true->∃(m:Int) (C y x:List Int),args= [.int m, .list (C.map .int), .list (y.map .int), .list (x.map .int)]/\Jy C/\Jy y/\Jy x/\r.post args (.list ((jj m (C.map bt) (y.map bt) (x.map bt)).map .int))=true)
  (hdf:d.params.defaults= []) (hY:∀(w:bB) (h:bH),YP w h->(K w.params).In h)
  (F:∀(w:bB) (mg:aQ->Option ag) (fa:aa) (h:bH),(K w.params).In h->h.Ns cf mg->mg d.name=some (.ref fa)->
   ∃fd:gc,(∀(s:ap) (u0 u1 u2 u3:ag),CT s fd ⟨[u0,u1,u2,u3], []⟩ [("most",u0),("schema_text",u1),("type_name",u2),("value_text",u3)])/\∀base:bH,(K w.params).In base->base.Ns cf mg->lZ r.prog w (K w.params) mg base (cE r.prog w) 199 fa fd ["most","schema_text","type_name","value_text"] (tT (K w.params))):
  PySem.W.WalkOS q S XP YP r d [] (fun f vs=>PySem.call f vs):=by
 intro w s₀ j mg mb G Y fa o pm cd doc dV kV ho hd hcd hD hmg hg args X as J a5 hrd hwl hlo;obtain⟨m,C,y,x,rfl,b1,b2,b3,U⟩:=Z args J;obtain⟨t,I,R,E,O,D,M,rfl,o1,i1,o2,i2,o3,i3⟩:∃t I R E O D M,X= [jk m t,bU I,bU E,bU D]/\j.heap.get? I=some { cls:= .type "list",data:= .seq R.toArray } /\ua R C/\
   j.heap.get? E=some { cls:= .type "list",data:= .seq O.toArray } /\ua O y/\j.heap.get? D=some { cls:= .type "list",data:= .seq M.toArray } /\ua M x:=by
  cases hwl with
  |cons w0 w1=>
   cases w1 with
   |cons w1 w2=>
    cases w2 with
    |cons w2 w3=>
     cases w3 with
     |cons w3 w4=>
      cases w4;cases w0 with
      |int=>
       cases w1 with
       |list p1 q1=>
        cases w2 with
        |list p2 q2=>
         cases w3 with
         |list p3 q3=>exact⟨_,_,_,_,_,_,_,rfl,p1,Att.CK C _ q1,p2,Att.CK y _ q2,p3,Att.CK x _ q3⟩
 have KX:=hY w _ Y;obtain⟨fd,hb,hF⟩:=F w mg fa _ KX G.T.g hmg;have mem:∀p∈ [(I,R,C),(E,O,y),(D,M,x)],p= (I,R,C)\/p= (E,O,y)\/p= (D,M,x):=fun p J=>by simpa using J
 refine PySem.W.enter_call (t9 (BW (k:=199) (CX:=cE r.prog w) (sp:=tT (K w.params)) (L:= [(I,R,C),(E,O,y),(D,M,x)]) (us:= [.int m t, .ref I, .ref E, .ref D]) (vs:= [.int m, .ref I, .ref E, .ref D]) (Q:=fun v H'=>∃p,v= .ref p/\H' p=some (.lst ((jj m (C.map bt) (y.map bt) (x.map bt)).map V.int))) KX G.T.g G.T.b G.T.builtins G.T.nolimit hg
  ⟨fun p J=>?_,fun p J=>?_,fun p J=>?_⟩ ⟨rfl,by decide,by decide⟩ hF (hb _ _ _ _ _) (.cons ⟨t,rfl⟩ (.cons rfl (.cons rfl (.cons rfl .nil)))) (fun H hO hS=>?_) fun H e s' z=>?_) fun res s' h=>?_)
 ·rcases mem p J with z|z|z<;>subst z<;>assumption
 ·rcases mem p J with z|z|z<;>subst z<;>assumption
 ·rcases mem p J with z|z|z<;>subst z
  ·exact cn b1.1 (by decide)
  ·exact cn b2.1 (by decide)
  ·exact cn b3.1 (by decide)
 ·refine⟨m,I,E,D,_,_,_,rfl,?_,?_,?_,⟨by rw[ah];exact b1.1,by rw[ah];exact b2.1,by rw[ah];exact b3.1⟩,Bf b1.2,Bf b2.2,fun p H' h=>⟨p,rfl,h⟩⟩
  ·rw[z4 b1.2];exact hS (I,R,C) (by simp)
  ·rw[z4 b2.2];exact hS (E,O,y) (by simp)
  ·rw[z4 b3.2];exact hS (D,M,x) (by simp)
 ·obtain⟨ea,cls,a0,B,H',rfl,os,bare,un,hok,fl,a7,a6,hE⟩:=z;exact hE
 ·obtain⟨u,v,H',rfl,rv,a4,⟨p,rfl,hp'⟩,h2,h3,h4⟩:=h;obtain rfl:u= .ref p:=rv;exact⟨.inl ⟨.ref p,_,_,rfl,fun _=>rfl,zp a4 hp',U,fun z=>nomatch z⟩,h2,h3,h4⟩
end Th
namespace Th
open PySem PySem.W
theorem z5{ns:List Int}(g: (mW 0 65536 ns.length&&ns.all (jP 0 255))=true):Jy ns:=by
 rw[bY]at g;obtain⟨e,j⟩:=g;unfold mW at e;simp only[bY,decide_eq_true_eq]at e;refine⟨e.2,fun x h=>?_⟩;have:=bw.mp j x h;unfold jP at this;simpa only[bY,decide_eq_true_eq]using this
theorem Ll(args:List WData)(B:PySem.Challenge.rw_thinbits_s03_tell.pre args=true):
  ∃(m:Int) (h g e:List Int),args= [.int m, .list (h.map .int), .list (g.map .int), .list (e.map .int)]/\Jy h/\Jy g/\Jy e/\PySem.Challenge.rw_thinbits_s03_tell.post args (.list ((jj m (h.map bt) (g.map bt) (e.map bt)).map .int))=true:=by
 have j:PySem.Challenge.rw_thinbits_s03_tell.wellSaid=true:=by decide+kernel
 obtain⟨a,q,_,rfl⟩:=(OpenSpec.pre_iff j args).mp B;obtain⟨m,h,g,e,u⟩:=a;change Int at m;change List Int at h;change List Int at g;change List Int at e;have p: (jP 0 4294967295 m&&((mW 0 65536 h.length&&h.all (jP 0 255))&&((mW 0 65536 g.length&&g.all (jP 0 255))&&((mW 0 65536 e.length&&e.all (jP 0 255))&&true))))=true:=q;have p:=(bY _ _).mp p;have v:=(bY _ _).mp p.2;have r:=(bY _ _).mp v.2;have C:=(bY _ _).mp r.2;have z:=z5 v.1;have y:=z5 r.1;have x:=z5 C.1;refine⟨m,h,g,e,rfl,z,y,x,?_⟩;refine(OpenSpec.post_iff j q _ []).mpr ?_;show J5 _=J5 ((HZ m h g e).map Ls);rw[Sp.tell_eq m h g e z y.2 x]
end Th
open PySem PySem.W PyProof.Rows
namespace PySem.W.Fast
def tw10029676601566557653:=()
def tw10052114314389880572:=()
def tw10084532640086418071:=()
def tw10107475373095521644:=()
def tw10116379381501110252:=()
def tw10132613356525204952:=()
def tw1015018588581585064:=()
def tw10183368815083159693:=()
def tw10189959308825862117:=()
def tw10254525620371131994:=()
def tw10260866441177366342:=()
def tw10272940220559085366:=()
def tw10439585362923277120:=()
def tw10448600668819170991:=()
def tw10581060041540043463:=()
def tw10589057194644004643:=()
def tw10667497796810619433:=()
def tw1070480780069187948:=()
def tw10727838448720197831:=()
def tw10777516280781198808:=()
def tw10779340492850405537:=()
def tw10804692768163243090:=()
def tw10805938181813082905:=()
def tw10811497250958525646:=()
def tw10812058846032210855:=()
def tw10836547754233925073:=()
def tw10914037456331233423:=()
def tw10952139510923377667:=()
def tw10979864224137666217:=()
def tw10981616729119099431:=()
def tw1103617960308830736:=()
def tw11087311212450963159:=()
def tw11320147455579611829:=()
def tw11354419518975536109:=()
def tw1141968863332396348:=()
def tw11440943469245828547:=()
def tw11442094413765543925:=()
def tw11493469008693460225:=()
def tw11594724607338471308:=()
def tw11603929028936174719:=()
def tw11766235258228524719:=()
def tw11775094592934255690:=()
def tw11781265175145587002:=()
def tw11782048472901223089:=()
def tw11843749908696193067:=()
def tw11862897226855090692:=()
def tw1203081337851767503:=()
def tw12041105732177852047:=()
def tw12047668069108217457:=()
def tw12102063492230310831:=()
def tw1214267717628686646:=()
def tw12158618333342105058:=()
def tw1220870139741809062:=()
def tw12471303073359832137:=()
def tw12582476986529728453:=()
def tw12588888426721217140:=()
def tw12623122450104352458:=()
def tw12662824170197973191:=()
def tw12714043703554953953:=()
def tw12830246080649117567:=()
def tw12877194751765324317:=()
def tw12987834790081738456:=()
def tw12998394662970274444:=()
def tw13013459013657212501:=()
def tw13027528850655630873:=()
def tw13102465524037867495:=()
def tw13216269686678066247:=()
def tw1327620284672009383:=()
def tw13280970916207777897:=()
def tw13357744992830637860:=()
def tw13381924316310028360:=()
def tw135489962144445318:=()
def tw13594109188746035325:=()
def tw13658955663193733189:=()
def tw13765482647997173129:=()
def tw13895920448908064743:=()
def tw14007188312820633187:=()
def tw14024502366145172937:=()
def tw14096007157679386900:=()
def tw14117575231763976391:=()
def tw1414425344143722808:=()
def tw14169588188915842211:=()
def tw14229006188153445408:=()
def tw14262285111410859895:=()
def tw14309129536043932216:=()
def tw14346750561027399824:=()
def tw14420359186077742238:=()
def tw14431491074476412853:=()
def tw14433807327518086391:=()
def tw14437809450010917314:=()
def tw14466188451144093846:=()
def tw14484709420181593583:=()
def tw14639171907631323285:=()
def tw14696105361013674798:=()
def tw14797165458332531183:=()
def tw14818127498387985486:=()
def tw1494208561065949077:=()
def tw14949032950498900921:=()
def tw15010255897181257177:=()
def tw15109087841804473746:=()
def tw15120895083139837371:=()
def tw15160769816734632651:=()
def tw15174731673074985316:=()
def tw15323970465536139835:=()
def tw15371313834708243926:=()
def tw15407602609078727250:=()
def tw15470461838557797500:=()
def tw15471331277720809247:=()
def tw15475742972836025385:=()
def tw15480965223229482974:=()
def tw15715404320959210415:=()
def tw15735227458149986151:=()
def tw15829861396562377295:=()
def tw15864797806396241880:=()
def tw15865717296661459626:=()
def tw15927231529754019413:=()
def tw15980448427699549111:=()
def tw15981403910288068674:=()
def tw16051270317431771299:=()
def tw16253737021809851710:=()
def tw16278812568928622999:=()
def tw16309246250496610655:=()
def tw16310347108237915282:=()
def tw1632474070193821116:=()
def tw1644497947416026497:=()
def tw16492435372477317252:=()
def tw16612497101099103651:=()
def tw16647459924788935031:=()
def tw16699107494518558902:=()
def tw16722106686258146447:=()
def tw16723466131791278590:=()
def tw16906419621559740548:=()
def tw16945445632719673344:=()
def tw17029499187366366682:=()
def tw17082852802595752554:=()
def tw1711216177622814587:=()
def tw17128444097227993067:=()
def tw17255966795226109455:=()
def tw17262263865103158569:=()
def tw17304159396647115885:=()
def tw17330928955147754665:=()
def tw17334776210645204526:=()
def tw17386123564373109695:=()
def tw17478092982871829847:=()
def tw17494110142128519929:=()
def tw17833252040980328370:=()
def tw17937235053360451217:=()
def tw18035170755589237360:=()
def tw18073242475033910328:=()
def tw18089608297780382192:=()
def tw1812805127693722646:=()
def tw18150563253946625210:=()
def tw18168682546767124893:=()
def tw18228743027029000520:=()
def tw18364700978775749052:=()
def tw18374405308141407826:=()
def tw1858822921381886761:=()
def tw1859070316926525348:=()
def tw1884131216961598212:=()
def tw1909202435202830935:=()
def tw1940931491999901141:=()
def tw1975834216785444559:=()
def tw2009279515070969492:=()
def tw2023514706310128938:=()
def tw2059824182433845855:=()
def tw2116509470594560552:=()
def tw2144576205772450751:=()
def tw2219379530803715508:=()
def tw2235808927720226985:=()
def tw2317306771726016977:=()
def tw2438511279039687649:=()
def tw254077876046896450:=()
def tw2563295704689574010:=()
def tw2576135260960020218:=()
def tw2604188616011637475:=()
def tw2648590536781842880:=()
def tw2702570060487472592:=()
def tw2772774194164375882:=()
def tw2805338617361095524:=()
def tw2808583556040212222:=()
def tw2811644250604784273:=()
def tw2852616089801749225:=()
def tw2983666120866291811:=()
def tw3154245283623326984:=()
def tw3201824111656952570:=()
def tw3208560902573135769:=()
def tw3260130456608185180:=()
def tw3315182503067510120:=()
def tw3315456650031806364:=()
def tw3353063137608260546:=()
def tw3381355550140575097:=()
def tw3420891209600186026:=()
def tw3529880018072407181:=()
def tw3561040052434566120:=()
def tw3575818782886158814:=()
def tw3607807465234946876:=()
def tw3655247895246883339:=()
def tw3686585917872808916:=()
def tw3750975886204000238:=()
def tw3768684362030760502:=()
def tw3795987574269386843:=()
def tw383865990191015057:=()
def tw4132792971105417223:=()
def tw4172554559965901966:=()
def tw4181813662152081321:=()
def tw4201701586909953172:=()
def tw4239669680338406161:=()
def tw425816719805789709:=()
def tw4310938095497316969:=()
def tw4338582155014975849:=()
def tw4397734240248199680:=()
def tw4404084907805307463:=()
def tw4437994153772656346:=()
def tw4469003427764071922:=()
def tw4495227635594838407:=()
def tw4517305894961835223:=()
def tw4533284651696539076:=()
def tw4547663261661144776:=()
def tw4650038992109140673:=()
def tw4860722016179419159:=()
def tw4973617200543841040:=()
def tw5079559903055028160:=()
def tw5089483121003826979:=()
def tw5107398830696639268:=()
def tw5124184916581752527:=()
def tw521993616310431697:=()
def tw5221015667764956909:=()
def tw5283770790487746862:=()
def tw5417244122781077807:=()
def tw5458334240842336588:=()
def tw5474918351811139526:=()
def tw5476397913414808355:=()
def tw548142073645639808:=()
def tw5512562264370184928:=()
def tw5557812139239622651:=()
def tw5574533877445292206:=()
def tw5762649930190147178:=()
def tw5887008295989322819:=()
def tw5895534125948865470:=()
def tw5925114483650733459:=()
def tw6027510204546949462:=()
def tw6099855516074248820:=()
def tw6115121274502661474:=()
def tw6183879759711091226:=()
def tw6262902171138460439:=()
def tw626380708887986106:=()
def tw6288250457825716366:=()
def tw6311107823225661145:=()
def tw6358216421757268294:=()
def tw644948787404426513:=()
def tw6463713564779195721:=()
def tw6489257197402218354:=()
def tw649345036185865006:=()
def tw6493659529444755220:=()
def tw6533788918238606426:=()
def tw6547074778185637144:=()
def tw6585033297049933461:=()
def tw6649147478566790882:=()
def tw6691142630995911642:=()
def tw6757978614875778590:=()
def tw6788641704943005230:=()
def tw6810813659387351050:=()
def tw6811134842226771223:=()
def tw6915026887736808425:=()
def tw694560985775379969:=()
def tw6960210458471868562:=()
def tw7044006452132457032:=()
def tw7070997071437654031:=()
def tw7184178113185557576:=()
def tw7278860667394688702:=()
def tw7280821203577211431:=()
def tw7285528426629722376:=()
def tw7315302176772647666:=()
def tw733250641063776890:=()
def tw7356523646108820108:=()
def tw7410401035470481391:=()
def tw7439504373935626343:=()
def tw7472598501554955129:=()
def tw7523021987716959982:=()
def tw757032529759512541:=()
def tw761367480609979983:=()
def tw7734595063087124995:=()
def tw7788277852609849470:=()
def tw7844634433442670385:=()
def tw7923744844225265382:=()
def tw7936510830927514433:=()
def tw8029560758926186691:=()
def tw8151484600356890718:=()
def tw8229728213694632010:=()
def tw8237295779564133977:=()
def tw8267174517876477929:=()
def tw8299012996252671933:=()
def tw8327237180924800034:=()
def tw833863161899518068:=()
def tw8411398866365861946:=()
def tw8632167301019481979:=()
def tw8638912916939981862:=()
def tw8713350664527428017:=()
def tw8735857026681102695:=()
def tw8763344250077685509:=()
def tw8847891984843838788:=()
def tw8849313661448981536:=()
def tw8926672682151432248:=()
def tw8944268808604206177:=()
def tw8959396864435851992:=()
def tw9049972435421469690:=()
def tw90799980345232283:=()
def tw9139300783806868141:=()
def tw9159154035485802435:=()
def tw9160531272312982761:=()
def tw9217882570714651901:=()
def tw9221147013778773038:=()
def tw9247590133927715160:=()
def tw9288104938935498749:=()
def tw9288558299794033700:=()
def tw9345863308411531894:=()
def tw9385657222345703615:=()
def tw9434098827093052933:=()
def tw9463210863158659639:=()
def tw9464490280470535114:=()
def tw9465254478692266561:=()
def tw9513070392960643478:=()
def tw9562198852389029379:=()
def tw9565691375399738255:=()
def tw9619707490678850849:=()
def tw970622784920548319:=()
def tw9807852070046836166:=()
def tw9854949728994638731:=()
def tw9939467579929706877:=()
end PySem.W.Fast
set_option maxRecDepth 100000 in
set_option maxHeartbeats 0 in
theorem PySem.Challenge.cw_thinbits_s03_tell_holds : PySem.Challenge.rw_thinbits_s03_tell.Holds := by
 w_on;k_headS;(case hw=>exact⟨[.int 0, .list [], .list [], .list []],by decide+kernel,by decide+kernel⟩)
 k_fillS
 refine Th.walk Th.Ll rfl (fun w h Y=>PySem.W.kIn_of Y) ?F
 case F=>
  intro w mg u h e G g;refine' Th.fin_mk e G g ?aW ?aR ?aK ?aN ?aV ?a ?l ?c ?k ?D
  case aW|aR|aK|aN|aV|a|l|c|k=>k_is
  case D=>
   intro j q p;refine' Th.Prog.mk ?t0 ?t1 ?tv ?tq ?ord_ ?str_ ?tr ?tk ?letter_of ?remark_end ?skip_blanks ?run_end ?word_token ?number_token ?only_of ?string_end ?string_token ?sign_end ?begins_number ?token_end ?token_of ?text_of ?tokens_of ?r_init ?r_ended ?r_skips ?r_skips_sign ?r_skips_word ?r_needs_sign ?r_needs_word ?r_takes ?r_takes_number ?k_init ?checked_kind_name ?read_high ?read_integer ?read_size ?read_string ?add_name ?next_name ?read_enumerated ?begin_choice ?begin_sequence_of ?begin_sequence ?named_kind ?begin_kind ?take_inner ?read_kind ?join_named ?read_schema ?in_brackets ?told_sequence ?told_sequence_of ?told_choice ?told_part ?told_value ?told_bytes ?deeper ?check_bounds ?read_boolean ?read_null ?read_integer2 ?read_name ?read_bits ?read_octets ?next_item ?check_left_out ?read_sequence ?read_sequence_of ?read_choice ?read_value ?read_value_text ?kind_called ?value_of
   case t0=>
    constructor
    case len|int_|all_=>exact(Ib e G (by k_is))
    case exc=>k_exc
    case wt=>exact(j)
    case letters|blanks|bitd|dig|octd|wlet|word|number|bits|octets|sign|lword|mdig=>exact(by refine' L2.cst_mk e G ?a ?r;(case a=>k_is);(case r=>exact⟨_,rfl⟩))
    case signs=>exact(by refine' L2.tup_mk e G ?a ?l ?c ?z ?v;(case a=>k_is);(case l=>k_is);(case c=>rfl);(case z=>decide);(case v=>repeat' (first|exact .nil|refine .cons ⟨_,rfl⟩ ?_)))
   case t1=>
    constructor
    case kinds|least|most|size|named|seqof=>exact(by refine' L2.cst_mk e G ?a ?r;(case a=>k_is);(case r=>exact⟨_,rfl⟩))
    case own=>exact(by refine' L2.tup_mk e G ?a ?l ?c ?z ?v;(case a=>k_is);(case l=>k_is);(case c=>rfl);(case z=>decide);(case v=>repeat' (first|exact .nil|refine .cons ⟨_,rfl⟩ ?_)))
   case tv=>
    constructor
    case depth|dob=>exact(by refine' L2.cst_mk e G ?a ?r;(case a=>k_is);(case r=>exact⟨_,rfl⟩))
   case tq=>
    constructor
    case ne=>exact(by decide)
    case nk=>exact(q)
    case nkx|nvx=>k_exc
    case nv=>exact(p)
    case apart=>exact(by refine' L2.Lk ?l ?n;(case l=>k_is);(case n=>decide))
    case answered|much|nokind|novalue|long=>exact(by refine' L2.cst_mk e G ?a ?r;(case a=>k_is);(case r=>exact⟨_,rfl⟩))
   case ord_=>exact(Ib e G (by k_is))
   case str_=>exact(Ib e G (by k_is))
   case tr=>
    constructor
    case cl=>exact(⟨by k_is,by k_is,by k_is,by k_is⟩)
    case tokens|place=>exact(by show PySem.W.findIn _ _ _=_;k_is)
   case tk=>
    constructor
    case cl=>exact(⟨by k_is,by k_is,by k_is,by k_is⟩)
    case form|target|low|high|places|roots|ext|parts|opt|waits=>exact(by show PySem.W.findIn _ _ _=_;k_is)
   case letter_of|word_token|number_token|string_token|begins_number|token_of|text_of|tokens_of|checked_kind_name|read_enumerated|begin_choice|begin_sequence_of|begin_sequence|read_schema|in_brackets|deeper|read_boolean|read_null=>refine' L2.df_mk e G ?a ?l ?c ?k (fun _ _ _ _ _ _ _=>rfl);(case a|l|c|k=>k_is)
   case remark_end|skip_blanks|only_of|string_end|sign_end|token_end|read_size|read_string|add_name|next_name|named_kind|begin_kind|read_kind|join_named|told_sequence|told_sequence_of|told_choice|told_value|told_bytes|check_bounds|read_name|read_bits|read_octets|next_item|read_value_text|kind_called|value_of=>refine' L2.df_mk e G ?a ?l ?c ?k (fun _ _ _ _ _ _ _ _=>rfl);(case a|l|c|k=>k_is)
   case run_end|take_inner|told_part|check_left_out|read_sequence|read_sequence_of|read_choice|read_value=>refine' L2.df_mk e G ?a ?l ?c ?k (fun _ _ _ _ _ _ _ _ _=>rfl);(case a|l|c|k=>k_is)
   case r_init|k_init=>refine' L2.dfi_mk e G ?ax ?mk ?kc ?a ?i ?l ?c ?k (fun _ _ _ _ _ _ _ _=>rfl);(case ax|mk|kc|a|i|l|c|k=>k_is)
   case r_ended=>refine' L2.dfm_mk ?a ?i ?l ?c ?k (fun _ _ _ _ _ _ _=>rfl);(case a|i|l|c|k=>k_is)
   case r_skips|r_skips_sign|r_skips_word|r_needs_sign|r_needs_word|r_takes=>refine' L2.dfm_mk ?a ?i ?l ?c ?k (fun _ _ _ _ _ _ _ _=>rfl);(case a|i|l|c|k=>k_is)
   case r_takes_number=>refine' L2.dfm_mk ?a ?i ?l ?c ?k (fun _ _ _ _ _ _ _ _ _=>rfl);(case a|i|l|c|k=>k_is)
   case read_high=>refine' L2.df_mk e G ?a ?l ?c ?k (fun _ _ _ _ _ _ _ _ _ _=>rfl);(case a|l|c|k=>k_is)
   case read_integer=>refine' L2.dfa_mk e G ?a ?l ?c ?k (fun _ _ _ _ _ _ _=>rfl);(case a|l|c|k=>k_is)
   case read_integer2=>refine' L2.dfa_mk e G ?a ?l ?c ?k (fun _ _ _ _ _ _ _ _=>rfl);(case a|l|c|k=>k_is)
