import PyProof.Rows.All
import Open.SpecLaws
import KE.OsGo
import PySem.Challenge.RW_settingsbook_s01_answers
open Array renaming append_assoc->FD,length_toList->Ew,toList->Gu
open Bool renaming and_eq_true->AX,and_eq_true_iff->F6,and_false->CI,and_true->Bz,beq_eq_decide_eq->Fx,decide_or->He,eq_iff_iff->A9,false->AJ,false_and->Be,false_eq_true->Ai,false_ne_true->AH,false_or->CH,noConfusion->Bc,not_false->Bd,not_true->BO,or_eq_true->BE,or_false->B8,or_true->Cz,true->AF,true_and->BZ,true_or->Cy
open ForInStep renaming yield->Er
open Function renaming comp->FL
open Int renaming natCast_add->Ep,natCast_ediv->FW,natCast_emod->FV,toNat_natCast->Bw
open LawfulBEq renaming eq_of_beq->Bs
open List renaming all_cons->CT,all_eq_true->A7,all_map->Gk,all_takeWhile->Ck,any_cons->CS,any_eq_false->FI,any_eq_true->G2,append_assoc->Ah,append_eq_nil_iff->EI,append_nil->An,concat_eq_append->Fv,cons_append->Az,contains_cons->FA,dropLast_concat->F5,dropLast_concat_getLast->Bb,dropWhile_cons->Bj,dropWhile_suffix->EN,drop_drop->BR,drop_eq_getElem_cons->Cn,drop_left->F4,drop_length->EX,drop_of_length_le->EH,drop_succ_cons->GC,drop_suffix->CO,drop_take->F3,drop_zero->DB,eq_nil_of_length_eq_zero->Ej,eq_nil_or_concat->EM,eq_of_mem_replicate->FK,eq_replicate_iff->DO,filterMap_cons->Eu,flatMap_append->Ce,flatMap_cons->BW,flatten_cons->DT,foldl->Hb,foldl_append->DS,foldl_cons->Dv,foldl_nil->Ha,forIn_cons->Fs,forIn_nil->E9,getElem_cons_drop->EG,isEmpty_iff->FU,length->A5,length_append->AG,length_cons->AN,length_drop->AS,length_eq_zero_iff->FT,length_map->AY,length_nil->Cr,length_pos_iff->CJ,length_pos_of_mem->Fi,length_replicate->B6,length_reverse->GB,length_singleton->Am,length_take->AW,lookup->DZ,lookup_cons->CN,map->Gj,map_append->A8,map_congr_left->Dh,map_cons->Av,map_drop->Dr,map_id->AAZ,map_map->Gi,map_nil->EF,map_take->Dq,mem_append->AQ,mem_append_left->Bl,mem_append_right->Bi,mem_cons->AO,mem_cons_of_mem->Au,mem_cons_self->BA,mem_filter->HF,mem_filterMap->E8,mem_map->Fh,mem_of_getElem?->BI,mem_of_getLast?->Ei,mem_of_mem_drop->CD,mem_of_mem_take->Eh,mem_singleton->AV,nil_append->A6,nodup_append->A2,nodup_cons->BP,nodup_nil->HZ,not_mem_nil->Ba,of_mem_zip->Fq,range->GW,range_succ_eq_map->Fg,replicate->Ad,replicate_succ->B4,reverse_append->GA,reverse_cons->DR,set->F2,singleton_append->EL,size_toArray->Aq,suffix_append->GV,suffix_cons->Al,sum_append->HE,sum_cons->EZ,takeWhile->E7,takeWhile_append_dropWhile->A1,takeWhile_append_of_pos->BD,takeWhile_cons->Aw,take_add->AAD,take_add_one->Cw,take_append_drop->As,take_left->F1,take_length->BG,take_of_length_le->B2,take_succ->Br,take_succ_cons->B3,take_take->EE,take_zero->HY,zip->E6,zipIdx_cons->G1,zipIdx_nil->HD,zipWith->Cg,zip_cons_cons->GU
open List.cons renaming injEq->Dy
open Nat renaming add_assoc->AAC,add_comm->Ff,add_sub_cancel_left->FR,add_zero->E1,ble->Fe,eq_zero_or_pos->GR,le_add_left->DK,le_add_right->DA,le_of_ble_eq_true->DN,le_of_eq->Ez,le_of_lt->Gh,le_of_succ_le->ED,le_refl->AR,le_succ_of_le->Gg,le_total->Fb,le_trans->Aa,log2_lt->AAY,lt_irrefl->CQ,lt_of_le_of_lt->Bg,lt_of_lt_of_le->A0,lt_or_ge->Cv,lt_succ_of_le->DQ,lt_succ_of_lt->FH,lt_succ_self->B1,lt_trans->AAL,min_eq_left->DJ,min_eq_right->EW,min_le_left->Cq,min_le_right->De,mod_lt->AAq,mul_assoc->AAB,mul_comm->FZ,mul_succ->AAK,ne_of_gt->Cu,ne_of_lt->BH,not_lt_zero->Eo,pow_le_pow_right->Eg,pow_pos->AAX,pow_succ->Ey,strongRecOn->BV,sub_zero->Gf,toDigits->AAJ,toDigits_append_toDigits->En,toDigits_of_lt_base->Cb,toList_repr->HC,zero_add->Dd,zero_le->Ax
open Option renaming bind->AAW,bind_some->AE,getD_none->G0,isSome_map->EC,isSome_none->Bp,isSome_some->Bf,map_eq_some_iff->EB,map_map->C9,map_none->HB,map_some->Bq,none->AB,some->U
open Option.some renaming inj->BU,injEq->Ca
open Or renaming inl->CW,inr->HX
open Prod.mk renaming inj->AAV,injEq->DM
open PyFlat renaming call->DY,calls->D9,played->GH,row->HW,rows->D3,told->FG
open PyInside renaming call->Dl,calls->HV,within->Em
open PyProof.Rows renaming Constant_none->AAE,Subscript_->HQ,callWith_builtin1->Gz,callWith_type1->Bv,iadd_int->AAN,subscriptTail_builtinR->FX
open PyRc40 renaming answers->C8,answers_asked->Ef,bound->Ct,shape->Bo,whole->Bu
open PySem renaming Addr->AK,Around->CA,DictEntry->Cc,FuncData->CY,Params->CF,Program->BB,Shared->AZ,Stmt->DW,World->BJ,bootBuiltins->Bt,builtinLookup_eq_fast->Fu,call_meets->FY,cellsFrom->Bx,codeAny_mono->Ex,compareOp->Bm,evalPart_none->Hj,intBits_le_64->Hi,int_text_length_le10->Eb,isSubtype_stop->HN,mainGlobals->BQ,model->Ay,pushCells_keeps->El,sizeLine->Ac,sizeLine_eq->CV,size_of_entries->HA,starEach->BC,sysModules->CM,tupleKind_room_in1->Dz,typeIs_int->HM,typeLookup_type->G9,wpAny->Ar,wpAny_Call_Name_kw->Cj,wpAny_Name->HL,wpAny_Return_some->Ge,wpAny_assign_Name->Gb,wpAny_attempt->FJ,wpAny_bind->AL,wpAny_call->HK,wpAny_call_entry->C5,wpAny_dictEntries->D5,wpAny_dictEpoch->Fp,wpAny_execs_cons->FP,wpAny_execs_nil->Ek,wpAny_field->CU,wpAny_fieldsOf->E4,wpAny_getItem_of->Gx,wpAny_holding->GG,wpAny_isInstance->FO,wpAny_isOneOf_itemiter->DD,wpAny_isTrue_Compare1->Ft,wpAny_letGo->FE,wpAny_loadName_cell->F9,wpAny_loadName_local->Fz,wpAny_mono->CL,wpAny_newObj_type->DP,wpAny_newTuple->HJ,wpAny_onRaise->GF,wpAny_passesOwn->Co,wpAny_pure->Ab,wpAny_pyIter_ascii->GL,wpAny_pyIter_enum->Ga,wpAny_pyIter_list->D4,wpAny_pyIter_tuple->GK,wpAny_pyIter_zip->Gw,wpAny_seqItems->DV,wpAny_setField_rec->Bn,wpAny_specialOf->Fn,wpAny_standAt->Hh,wpAny_truthy_bool->B5,wpAny_typeNameOfWhole_itemiter->CK,wpAny_typeNameOf_itemiter->Cm,wpAny_updateSeq_pair->Fy
open PySem.Around renaming under->Gv
open PySem.AutoListH renaming list___mul___list_int_3->GZ
open PySem.AutoSeq1 renaming list_extend_list_list_0->Gs
open PySem.BindsTo renaming of_defaults->GD
open PySem.Builtin.Dict renaming noArgs->AAm,pendingCount->Hg,showsAll->Fw
open PySem.Builtin.Dict_items renaming dictOf->Hf,newIterator->G4,ownedTupleFields->Dt,ownedTupleIsFree->Ds,ownsTuple->DL,pairFromOwner->EJ
open PySem.Builtin.List renaming listExtendWith->DU,listFitsIndex->Hd,listItems->Fm,listLengthHint->E3,listSameRef->FN,listTooLong->C3,listUpdate->AAH
open PySem.Builtin.Range renaming rangeSize->AAG
open PySem.Builtin.SmallTypes renaming nextOf->Df,ownedTupleHandOut->Dj,ownedTupleIsFree->B7
open PySem.Calls renaming Constant_str->GY,Name_function_global->FC,callWith_builtin->Fl,spliced_cons->GX,spliced_nil->Gr
open PySem.CmpOp renaming In->AA0,NotIn->AAb
open PySem.Code renaming frames->AAa,isFrame->Gq
open PySem.Data renaming dict->AAw,seq->Hc
open PySem.DictEntry renaming refKey->AAv
open PySem.F renaming args_dict_itemiterator_next_1->EK,args_zip_next_1->Gp,entry_dict_itemiterator_next->EY,entry_zip_next->G3,slot_dict_itemiterator_next->CZ,slot_dict_items->Gn,slot_dict_items_iter->Fj,slot_dict_len->HI,slot_int_rmul->HG,slot_zip_next->Es
open PySem.Heap renaming FlyingW->Gm,SameBut->E2,lt_size->Aj,size_push->BM
open PySem.Heap.IsSliceOf renaming new->AAr
open PySem.Heap.SameBut renaming extBut->Di,update->AAl
open PySem.NameKind renaming cell->GJ,free->Dn
open PySem.Obj renaming mapSeq->GQ
open PySem.PassesOwn renaming leaving->Ag
open PySem.PassesOwnAt renaming leaving->AAk
open PySem.PyData renaming canLayAll0->EA,depthAll->Du,eqv->GP,eqvAll->AAA
open PySem.SeqAt renaming EqAt->AAp,shaped->D7
open PySem.SeqAt.EqAt renaming bool_bool->AAU,bool_int->AAj,bool_none->AAT,bool_str->AAi,int_bool->AAh,int_int->AAo,int_none->AAg,int_str->GO,none_bool->AAS,none_int->AAf,none_str->AAe,same->AAx,str_bool->AAd,str_int->GN,str_none->AAc,str_str->AAn
open PySem.Shared renaming TypeIs->Hl
open PySem.Str renaming empty->F8,ofString->BK
open PySem.Value renaming bytes->AAR,float->G5,isInt->AAQ,isStrOf->Hk,none->DF,ref->BF,type->C0
open PySem.Value.type renaming inj->HP
open Rc40 renaming Abs->DI,Rows->Ae,So->AAs,Value->AU,blank->A3,countOf->D8,daysIn->FF,digit->HU,dotted->F0,ended->HS,eol->E5,escape->DX,find->CC,hexDigit->CP,int64->HR,into->B0,isDay->DH,isDigit->BY,isHex->EV,isHour->DC,isScalar->C2,isWord->Ci,kindOf->Ee,lineOf->G8,newElement->Cp,newTable->CG,number->Ao,part->AAF,quoted->G7,read->D1,replace->DG,room_->EU,seen->ET,shape->B9,shown->ES,shownText->By,text->Bh,two->Dk,utf8->D0,walk->C7,wayOf->Cd
open Rc40.Value renaming table->Ed,time->AAy
open Rc40Neutral renaming natsOf->A4,step->BN
open Sum renaming inl->Cf,inr->F7
open Sum.inl renaming inj->G6
open True renaming intro->C1
abbrev AD:=@if_neg
abbrev AI:=@if_pos
abbrev AM:=@decide_eq_false
abbrev Af:=@decide_eq_true
abbrev Ak:=@decide_eq_true_iff
abbrev BL:=@beq_iff_eq
abbrev BS:=@if_true
abbrev BX:=@if_false
abbrev CB:=@decide_true
abbrev Cs:=@decide_eq_true_eq
abbrev C4:=@beq_eq_false_iff_ne
abbrev C6:=@or_false
abbrev DE:=@decide_false
abbrev D6:=@of_decide_eq_true
abbrev EO:=@false_and
abbrev ER:=@and_false
abbrev Ea:=@true_and
abbrev Ec:=@and_true
abbrev FQ:=@decide_eq_decide
set_option compiler.extract_closed false
set_option bootstrap.genMatcherCode false
set_option Elab.async false
set_option linter.all false
set_option maxRecDepth 100000
set_option maxHeartbeats 4000000
set_option hygiene false
noncomputable section
theorem pk_ {A : Prop} (h : (A → False) → False) : A := Classical.byContradiction h
def I_ (k:List Lean.Syntax)(n:Nat)(c:Lean.Name):=Lean.Syntax.node .none c (k.take n).reverse.toArray::k.drop n
def K_ (a:Array Lean.Syntax)(s:String):=((s.splitOn " ").foldl (λk t=>match t.toList with
 |c::r=>let n:=(r.headD c).toNat-48;let s:=String.ofList r
  if c=='\'' then .atom .none s::k else if c=='$' then a.getD n .missing::k else if c=='&' then I_ (I_ (I_ k n `null) 1 `Lean.Parser.Tactic.tacticSeq1Indented) 1 `Lean.Parser.Tactic.tacticSeq else if c=='%' then I_ (I_ k 0 `null) 1 `Lean.Parser.Tactic.optConfig else if c<'A' then I_ k (c.toNat-48) (match r with|[]=>`null|'T'::r=>.str `Lean.Parser.Term (String.ofList r)|_=>.str `Lean.Parser.Tactic s) else Lean.mkIdent t.toName::k
 |_=>k) []).headD .missing
def W_:List String:=let z:="'refine F.Us $0 'fun S Kg AA outer s H vs Q E hr h ; 0 '=> '? '_ 2TsyntheticHole 4TbasicFun 2Tfun 2 2Tapp 2refine";["'decide '+ kernel 2posConfigItem 1configItem 1 1optConfig 2decide","'decide % 2decide","'simp % 0 0 0 0 6simp","'lia % 2lia","'omega % 2omega","'nofun 1tacticNofun","'rfl 1tacticRfl","'assumption 1assumption","'simpa 0 0 % 0 0 0 'using $0 2 5simpaArgsRest 4simpa","","'refine pk_ 'fun x_ 1 0 '=> '? '_ 2TsyntheticHole 4TbasicFun 2Tfun 1 2Tapp 2refine '; 'rcases 0 $0 2elimTarget 1 'with $1 0 2rcasesPatLo 2 3rcases '<;> 'refine x_ '? '_ 2TsyntheticHole 1 2Tapp 2refine '; 'clear x_ 1 2clear &3 3tactic_<;>_ &3","'rcases 0 $0 2elimTarget 1 'with $1 0 2rcasesPatLo 2 3rcases","","'simp % 0 'only 1 '[ 0 0 Option.bind_some 3simpLemma 1 '] 3 0 6simp","'dsimp % 0 'only 1 0 0 6dsimp","'rw % '[ 0 $0 2rwRule 1 '] 3rwRuleSeq 'at $1 1 1locationHyp 2location 1 4rwSeq '; 'simp % 0 'only 1 '[ 0 0 Option.bind_some 3simpLemma 1 '] 3 'at $1 1 1locationHyp 2location 1 6simp &3","'rw % '[ 0 $0 2rwRule 1 '] 3rwRuleSeq 'at $1 1 1locationHyp 2location 1 4rwSeq '; 'cases 0 $1 2elimTarget 1 0 0 4cases &3","","'refine T.fn $1 rfl 2 2Tapp '. at 3Tproj 'fun F 1 0 '=> '? '_ 2TsyntheticHole 4TbasicFun 2Tfun 1 2Tapp 2refine '; "++z++" &3",z,"FnAt P w K mg base $0 $1 $2 List.nil $3 : 2Tapp"]
def N_ (t:Lean.Syntax)(i:Nat):Lean.MacroM Lean.Syntax:=match (if t.isOfKind `Lean.Parser.Term.app then t[0] else t).isNatLit? with
 |some n=>let w:=W_.getD (n+i) "";pure (K_ t[1].getArgs (if n+i>9 then w else "'by "++w++" &1 2TbyTactic"))
 |_=>Lean.Macro.throwUnsupported
def L_ (s:String)(e:Array Lean.Syntax):=e++((s.splitOn " ").map λn=>K_ #[] ("0 0 "++n++" 3simpLemma")).toArray
def M_ (e:Array Lean.Syntax):=Lean.mkNullNode (Lean.mkSepArray e (Lean.mkAtom ","))
def Z_ (s:String)(e:Array Lean.Syntax)(o:String):Lean.MacroM Lean.Syntax:=pure (K_ #[M_ (L_ s e)] ("'simp! % 0 "++o++" '[ $0 '] 3 0 6simpAutoUnfold"))
local macro_rules
 |`(tactic|show $t)=>N_ t 10
 |`(!$t)=>N_ t 0
 |`(tactic|obtain $p:rcasesPatMed:=$e)=>pure (K_ #[e,p] (W_.getD (if (p.raw.reprint.getD "").toList.contains ',' then 10 else 11) ""))
 |`(tactic|omega)=>pure (K_ #[] "'first '| 'omega '+ splitNatSub 2posConfigItem 1configItem 1 1optConfig 2omega &1 2 '| 'lia % 2lia &1 2 2 2first")
 |`(tactic|nofun)=>pure (K_ #[K_ #[] "'by 'assumption 1assumption &1 2TbyTactic",K_ #[] "'by 'decide % 2decide &1 2TbyTactic"] "'first '| 'assumption 1assumption &1 2 '| 'exact Nat.le_of_lt $0 1 2Tapp 2exact &1 2 '| 'exact Nat.le_add_right '_ 1Thole '_ 1Thole 2 2Tapp 2exact &1 2 '| 'exact Nat.le_trans $0 $0 2 2Tapp 2exact &1 2 '| 'exact Nat.lt_of_lt_of_le $0 $0 2 2Tapp 2exact &1 2 '| 'exact Nat.lt_of_le_of_lt $0 $0 2 2Tapp 2exact &1 2 '| 'exact Nat.le_trans $0 $1 2 2Tapp 2exact &1 2 '| 'exact absurd $0 $0 2 2Tapp 2exact &1 2 '| 'lia % 2lia &1 2 '| 'omega % 2omega &1 2 : 2first")
def KJ:Lean.Syntax:=K_ #[] "'rfl 1tacticRfl &1"
def Li:Lean.Syntax:=K_ #[] "'decide % 2decide &1"
def eD:Lean.Syntax:=K_ #[] "'exact rfl 2exact &1"
def jI:Lean.Syntax:=K_ #[] "'first '| 'exact '. inl 2TdotIdent rfl 1 2Tapp 2exact &1 2 '| 'exact '. inr 2TdotIdent rfl 1 2Tapp 2exact &1 2 '| 'assumption 1assumption &1 2 3 2first &1"
def jH:Lean.Syntax:=K_ #[] "'exact Kz.mono 'by 'assumption 1assumption &1 2TbyTactic 'by 'decide % 2decide &1 2TbyTactic 2 2Tapp 2exact &1"
def jG:Lean.Syntax:=K_ #[] "'exact AA6 2exact &1"
def l9:Lean.Syntax:=K_ #[] "'intro '_ 1Thole 1 2intro '; 'rfl 1tacticRfl &3"
def ur:Lean.Syntax:=K_ #[] "'exact xc '_ 1Thole 1 2Tapp 2exact &1"
def uq:Lean.Syntax:=K_ #[] "'with_unfolding_all 'rfl 1tacticRfl &1 2withUnfoldingAll &1"
def AA2:Lean.Syntax:=K_ #[] "'first '| 'exact gJ '_ 1Thole 'by 'decide % 2decide &1 2TbyTactic 'by 'decide % 2decide &1 2TbyTactic 3 2Tapp 2exact &1 2 '| 'rfl 1tacticRfl &1 2 2 2first &1"
def uy:Lean.Syntax:=K_ #[] "'exact Ji.nd 'by 'assumption 1assumption &1 2TbyTactic 1 2Tapp 2exact &1"
def ux:Lean.Syntax:=K_ #[] "'exact Or.inl rfl 1 2Tapp 2exact &1"
def uw:Lean.Syntax:=K_ #[] "'first '| 'exact Or.inl rfl 1 2Tapp 2exact &1 2 '| 'exact Or.inr Or.inl rfl 1 2Tapp 1 2Tapp 2exact &1 2 '| 'exact Or.inr Or.inr rfl 1 2Tapp 1 2Tapp 2exact &1 2 3 2first &1"
def uv:Lean.Syntax:=K_ #[] "'exact '⟨ rfl ', rfl ', rfl ', 'by 'decide '+ kernel 2posConfigItem 1configItem 1 1optConfig 2decide &1 2TbyTactic ', rfl ', 'by 'decide '+ kernel 2posConfigItem 1configItem 1 1optConfig 2decide &1 2TbyTactic ', 'by 'decide '+ kernel 2posConfigItem 1configItem 1 1optConfig 2decide &1 2TbyTactic = '⟩ 3TanonymousCtor 2exact &1"
def uu:Lean.Syntax:=K_ #[] "'intro '_ 1Thole '_ 1Thole '_ 1Thole '_ 1Thole h 5 2intro '; 'first '| 'cases 0 h 2elimTarget 1 0 0 4cases '; 'subst_vars 1substVars '; 'rfl 1tacticRfl &5 &1 2 '| 'repeat 'apply Exists.elim h 1 2Tapp 2apply '; 'intro '_ 1Thole h 2 2intro &3 &1 2tacticRepeat_ &1 '; 'rw % '[ 0 h.left 2rwRule 1 '] 3rwRuleSeq 0 4rwSeq '; 'rfl 1tacticRfl &5 &1 2 2 2first &3"
set_option tactic.hygienic false
namespace _L
open PySem PySem.Spec PyProof.Rows
noncomputable abbrev Key:=Sum Int Str
def Vj:Key->Value->Bool
 |.inl k,v=>AAQ k v
 |.inr x,v=>Hk x v
def xp(w:BJ):Key->Int
 |.inl k=>hashInt k
 |.inr x=>hashStr w x
def J7: ∀{k:Key}{v:Value},Vj k v=AF->(∃i t,k=Cf i/\v=Value.int i t)\/(∃x t,k=F7 x/\v=Value.str x t)
 |.inl i,v,h=>by
  obtain⟨t,e⟩:=Value.isInt_shape (k:=i) (v:=v) h;exact .inl ⟨i,t,rfl,e⟩
 |.inr x,v,h=>by
  obtain⟨t,e⟩:=Value.isStrOf_shape (x:=x) (v:=v) h;exact .inr ⟨x,t,rfl,e⟩
def Vi(i:Int)(t:Tok):Vj (.inl i) (.int i t)=AF:=by simp[Vj,AAQ]
def cn(x:Str)(t:Tok):Vj (.inr x) (.str x t)=AF:=by simp[Vj,Hk]
def pG(a b:Int):decide ((Cf a:Key)=Cf b)=(a==b):=by
 by_cases e:a=b
 .subst e;simp
 have h: ¬(Cf a:Key)=Cf b:=λq=>e (G6 q);rw[AM h];exact(C4.mpr e).symm
def pD(a b:Str):decide ((F7 a:Key)=F7 b)=decide (a=b):=by
 by_cases e:a=b
 .subst e;simp
 have h: ¬(F7 a:Key)=F7 b:=λq=>e (Sum.inr.inj q);rw[AM h,AM e]
def pF(a:Int)(b:Str):decide ((Cf a:Key)=F7 b)=AJ:=AM (λq=>nomatch q)
def pE(a:Str)(b:Int):decide ((F7 a:Key)=Cf b)=AJ:=AM (λq=>nomatch q)
def J0(prog:BB)(w:BJ):PySem.KeyKind prog w Key where
 is:=Vj
 hash:=xp w
 inj:=λv a b ha hb=>by
  obtain⟨i,t,rfl,rfl⟩|⟨x,t,rfl,rfl⟩:=J7 ha
  .obtain⟨j,u,rfl,e⟩|⟨y,u,rfl,e⟩:=J7 hb
   .injection e with e1 _;rw[e1]
   exact nomatch e
  obtain⟨j,u,rfl,e⟩|⟨y,u,rfl,e⟩:=J7 hb
  .exact nomatch e
  injection e with e1 _;rw[e1]
 byValue:=λk v h=>by
  obtain⟨i,t,rfl,rfl⟩|⟨x,t,rfl,rfl⟩:=J7 h<;>rfl
 pyHash:=λhv h=>by
  obtain⟨i,t,rfl,rfl⟩|⟨x,t,rfl,rfl⟩:=J7 hv
  .exact wpAny_pyHash_int h
  exact wpAny_pyHash_str h
 eqBool:=λhu hv h=>by
  obtain⟨i,t,rfl,rfl⟩|⟨x,t,rfl,rfl⟩:=J7 hu
  .obtain⟨j,u,rfl,rfl⟩|⟨y,u,rfl,rfl⟩:=J7 hv
   .rw[pG]at h;exact wpAny_eqBool_int h
   rw[pF]at h;exact GO i t y u _ _ _ _ h
  obtain⟨j,u,rfl,rfl⟩|⟨y,u,rfl,rfl⟩:=J7 hv
  .rw[pE]at h;exact GN x t j u _ _ _ _ h
  rw[pD]at h;exact wpAny_eqBool_str h
 «strs»:=λk x t v h=>by
  obtain⟨i,u,rfl,e⟩|⟨y,u,rfl,e⟩:=J7 h
  .exact nomatch e
  injection e with e1 _
  subst e1;cases v<;>rfl
def X3(prog:BB)(w:BJ)(i:Int)(t:Tok):(J0 prog w).is (.inl i) (.int i t)=AF:=Vi i t
def X2(prog:BB)(w:BJ)(x:Str)(t:Tok):(J0 prog w).is (.inr x) (.str x t)=AF:=cn x t
inductive V where
 |Jm|bl (b:Bool)|int (i:Int)|str (x:Str)|Yf (b:Array UInt8)|m8 (b:UInt64)|ref (a:AK)|ty (n:String)
 deriving DecidableEq
noncomputable def IU:V->Value->Prop
 |.Jm,u=>u=DF
 |.bl b,u=>u=Value.bool b
 |.int i,u=> ∃t,u=Value.int i t
 |.str x,u=> ∃t,u=Value.str x t
 |.Yf b,u=> ∃t,u=AAR b t
 |.m8 b,u=> ∃t,u=G5 b t
 |.ref a,u=>u=BF a
 |.ty n,u=>u=C0 n
noncomputable abbrev IM:List V->List Value->Prop:=Paired IU
theorem IM.length(r:IM xs us):xs.length=us.length:=Paired.length r
theorem IM.get: ∀{xs:List V}{us:List Value}{i:Nat}{x:V},IM xs us->xs[i]? =U x-> ∃u,us[i]? =U u/\IU x u
 |_,_,_,_,.nil,e=>by simp at e
 |_,_,0,_,.cons r _,e=>by simp at e;subst e;exact⟨_,rfl,r⟩
 |_,_,i+1,x,.cons _ t,e=>by
  obtain⟨u,B,D⟩:=IM.get (i:=i) (x:=x) t (!8 e);exact⟨u,by simpa using B,D⟩
theorem IM.append: ∀{xs B:List V}{us ws:List Value},IM xs us->IM B ws->IM (xs++B) (us++ws)
 |_,_,_,_,.nil,s=>s
 |_,_,_,_,.cons r t,s=>.cons r (IM.append t s)
theorem IM.take: ∀{xs:List V}{us:List Value}(n:Nat),IM xs us->IM (xs.take n) (us.take n)
 |_,_,0,_=>.nil
 |_,_,_+1,.nil=>.nil
 |_,_,n+1,.cons r t=>.cons r (IM.take n t)
theorem IM.drop: ∀{xs:List V}{us:List Value}(n:Nat),IM xs us->IM (xs.drop n) (us.drop n)
 |_,_,0,r=>r
 |_,_,_+1,.nil=>.nil
 |_,_,n+1,.cons _ t=>IM.drop n t
noncomputable def O1:Option V->Option Value->Prop
 |some v,U u=>IU v u
 |none,AB=>True
 |_,_=>False
noncomputable def KV{B:Type}:List (B×V)->List (B×Value)->Prop:=Paired λ(p:B×V)(q:B×Value)=>p.1=q.1/\IU p.2 q.2
def kV:Key->V
 |.inl i=>.int i
 |.inr x=>.str x
inductive HO where
 |lst (xs:List V)
 |tup (xs:List V)
 |dK (LZ:List (Key×V))|dT (LZ:List (List Key×V))
 |set (S:Int->Bool)(n:Nat)
 |ins (C dx:AK)(fs:List (Str×V))
 |own (x:AK)
 |xd (fs:List (Str×V))
 |met (f x:AK)
 |w9 (lo hi:Int)
 |MZ (o:Obj)(u:HO)
 |ni (ps:Array Value)
 |ext (φ:Heap->Prop)
noncomputable abbrev Hp:=AK->Option HO
noncomputable def Hu(H:Hp)(a:AK)(o:HO):Hp:=λb=>if b=a then U o else H b
def Hq:Hu H a o a=U o:=by unfold Hu;rw[AI rfl]
def Hv(h:b≠a):Hu H a o b=H b:=by unfold Hu;rw[AD h]
def OY{H:Hp}(h:H a=U o)(h':H b=U u)(d:o≠u):a≠b:=by
 intro e;subst e;rw[h]at h';exact d (BU h')
def IJ{H:Hp}(h:H a=U o)(h':H b=AB):a≠b:=by
 intro e;subst e;show 6 h h'
section
variable(P:BB)(w:BJ)
noncomputable def Jp(H:Hp)(h:Heap)(a:AK):HO->Prop
 |.lst xs=>xs.length<=Ac/\ ∃(B:List Value)(n:Nat),IM xs B/\h.get? a=U {cls:=.type "list",data:=.seq B.toArray n}
 |.tup xs=>xs.length<=Ac/\ ∃B:List Value,IM xs B/\IsTup h a B.toArray
 |.dK D=>D.length<=Ac/\(a==CM)=AJ/\ ∃vs,KV D vs/\h.DictOf (J0 P w) a vs
 |.dT D=>D.length<=Ac/\(a==CM)=AJ/\ ∃xs:List (List Key×AK×Value),
  Paired (λ(p:List Key×V)(q:List Key×AK×Value)=>p.1=q.1/\H q.2.1=U (.tup (p.1.map kV))/\IU p.2 q.2.2) D xs∧
  ∃o F J,h.get? a=U o/\o.ExactDict/\o.data=.dict F J/\F.toList=xs.map (entryOfKey (tupleKind (J0 P w)))/\(xs.map (·.1)).Nodup
 |.set S n=>h.SetOf (intKind P w) a S n
 |.ins C dx fs=>H dx=U (.own a)/\fs.length<=1000/\dx≠a/\h.get? a=U (PySem.W.instObj C dx)∧
  ∃E,h.Ns1 dx E/\(∀f,O1 (fs.lookup f) (E f))/\PySem.Within E (fs.map (·.1))
 |.own _=> ∃o,h.get? a=U o
 |.xd fs=> ∃E,h.Ns1 a E/\ ∀f,O1 (fs.lookup f) (E f)
 |.w9 lo L=> ∃t u v,h.get? a=U {cls:=.type "range",data:=.fields #[.int lo t,.int L u,.int 1 v]}
 |.MZ o u=>h.get? a=U o/\Jp H h a u
 |.ni ps=>h.get? a=U {cls:=.none,data:=.fields ps}
 |.met f x=>h.get? a=U (PySem.W.methodObj (.ref f) (.ref x))
 |.ext φ=>φ h/\(∃o,h.get? a=U o)/\ ∀G I:Heap,φ G->(∀o,G.get? a=U o->I.get? a=U o)->φ I
noncomputable def OA(H:Hp)(h:Heap):Prop:= ∀a o,H a=U o->Jp P w H h a o
end
section
variable{P:BB}{w:BJ}{H H':Hp}{h h':Heap}{a:AK}{o:HO}
theorem Jp.lt(x:Jp P w H h a o):a<h.objs.size:=by
 cases o with
 |lst xs=>obtain⟨_,_,_,_,e⟩:=x;exact Aj e
 |tup xs=>obtain⟨_,_,_,p⟩:=x;exact p.lt
 |dK B=>obtain⟨_,_,_,_,o,_,_,e,_⟩:=x;exact Aj e
 |dT B=>obtain⟨_,_,_,_,o,_,_,e,_⟩:=x;exact Aj e
 |set S n=>obtain⟨o,_,_,_,e,_⟩:=x;exact Aj e
 |ins C dx fs=>obtain⟨_,_,_,e,_⟩:=x;exact Aj e
 |own y=>obtain⟨_,e⟩:=x;exact Aj e
 |xd fs=>obtain⟨_,⟨_,_,_,e,_⟩,_⟩:=x;exact Aj e
 |w9 lo D=>obtain⟨_,_,_,e⟩:=x;exact Aj e
 |MZ ob u=>obtain⟨e,_⟩:=x;exact Aj e
 |ni ps=>exact Aj (show h.get? a=U _ from x)
 |met f y=>exact Aj (show h.get? a=U _ from x)
 |ext φ=>obtain⟨_,⟨_,e⟩,_⟩:=x;exact Aj e
theorem Paired.o8: ∀{l₁:List α}{l₂:List β},Paired F l₁ l₂->(∀a b,F a b->G a b)->Paired G l₁ l₂
 |_,_,.nil,_=>.nil
 |_,_,.cons r t,f=>.cons (f _ _ r) (Paired.o8 t f)
def Jp.Sx(x:Jp P w H h a o)(k: ∀b u,(b=a\/H b=U (.own a))->h.get? b=U u->h'.get? b=U u)
  (I: ∀b,H b=U (.own a)->H' b=U (.own a))(J: ∀b xs,H b=U (.tup xs)->H' b=U (.tup xs)):Jp P w H' h' a o:=by
 induction o with
 |lst xs=>obtain⟨z,E,n,r,e⟩:=x;exact⟨z,E,n,r,k _ _ (.inl rfl) e⟩
 |tup xs=>obtain⟨z,E,r,ob,e,c⟩:=x;exact⟨z,E,r,ob,k _ _ (.inl rfl) e,c⟩
 |dK F=>obtain⟨z,y,vs,r,ob,B,D,e,c⟩:=x;exact⟨z,y,vs,r,ob,B,D,k _ _ (.inl rfl) e,c⟩
 |dT F=>
  obtain⟨z,y,xs,r,ob,B,D,e,c⟩:=x;exact⟨z,y,xs,Paired.o8 r λp q z=>⟨z.1,J _ _ z.2.1,z.2.2⟩,ob,B,D,k _ _ (.inl rfl) e,c⟩
 |set S n=>obtain⟨ob,B,D,t,e,c⟩:=x;exact⟨ob,B,D,t,k _ _ (.inl rfl) e,c⟩
 |ins C dx fs=>
  obtain⟨d,z,ne,e,G,⟨od,B,D,e2,c⟩,r⟩:=x;exact⟨I _ d,z,ne,k _ _ (.inl rfl) e,G,⟨od,B,D,k _ _ (.inr d) e2,c⟩,r⟩
 |own y=>obtain⟨ob,e⟩:=x;exact⟨ob,k _ _ (.inl rfl) e⟩
 |xd fs=>obtain⟨G,⟨od,B,D,e,c⟩,r⟩:=x;exact⟨G,⟨od,B,D,k _ _ (.inl rfl) e,c⟩,r⟩
 |w9 lo M=>obtain⟨t,u,v,e⟩:=x;exact⟨t,u,v,k _ _ (.inl rfl) e⟩
 |MZ ob u L=>obtain⟨e,q⟩:=x;exact⟨k _ _ (.inl rfl) e,L q⟩
 |ni ps=>
  have e:h.get? a=U {cls:=.none,data:=.fields ps}:=x;show h'.get? a=U {cls:=.none,data:=.fields ps};exact k a _ (.inl rfl) e
 |met f y=>
  have e:h.get? a=U (PySem.W.methodObj (.ref f) (.ref y)):=x;show h'.get? a=U (PySem.W.methodObj (.ref f) (.ref y));exact k a _ (.inl rfl) e
 |ext φ=>obtain⟨p,⟨o,e⟩,st⟩:=x;exact⟨st _ _ p λo q=>k _ _ (.inl rfl) q,⟨o,k _ _ (.inl rfl) e⟩,st⟩
theorem OA.lt(x:OA P w H h)(e:H a=U o):a<h.objs.size:=(x a o e).lt
def OA.fresh(x:OA P w H h)(e:h.objs.size<=a):H a=AB:=by
 cases q:H a with
 |none=>rfl
 |some u=>exact absurd (A0 (x.lt q) e) (CQ _)
def OA.kept(x:OA P w H h)(k: ∀b u,h.get? b=U u->h'.get? b=U u):OA P w H h':=λa o e=>
 (x a o e).Sx (λb u z q=>k b u q) (λz q=>q) λz z q=>q
def OA.laid(x:OA P w H h)(k: ∀b u,h.get? b=U u->h'.get? b=U u)(D:h.objs.size<=a)(new:Jp P w (Hu H a o) h' a o):OA P w (Hu H a o) h':=λb u e=>by
 have hn:=x.fresh D;by_cases B:b=a
 .subst B;show 6 Hq e;exact new
 rw[Hv B]at e;exact(x b u e).Sx (λc v z q=>k c v q) (λc q=>by rw[Hv (IJ q hn)];exact q) λc xs q=>by rw[Hv (IJ q hn)];exact q
end
noncomputable def Rd(H:Hp)(a:AK)(u:HO):Prop:=H a=U u\/ ∃o,H a=U (.MZ o u)
def Rd.ok(r:Rd H a u)(x:OA P w H h):Jp P w H h a u:=by
 obtain r|⟨o,r⟩:=r
 .exact x a u r
 obtain⟨_,q⟩:=x a _ r;exact q
noncomputable def nP:Option HO->Prop
 |some (.lst _)=>True
 |some (.dK _)=>True
 |some (.dT _)=>True
 |some (.set _ _)=>True
 |some (.ins _ _ _)=>True
 |some (.ext _)=>True
 |_=>False
section
variable{P:BB}{w:BJ}{H:Hp}{h h':Heap}{x e:AK}{o':HO}
def OA.write(ok:OA P w H h)(F:nP (H x))(L:e=x\/H e=U (.own x))(k: ∀b u,b≠e->h.get? b=U u->h'.get? b=U u)(J: ∃u,h'.get? e=U u)
  (new:Jp P w (Hu H x o') h' x o'):OA P w (Hu H x o') h':=λb u q=>by
 have D: ∀c y,H c=U (.own y)->c≠x:=λc y r z=>by subst z;rw[r]at F;exact F
 have E: ∀c xs,H c=U (.tup xs)->c≠x:=λc xs r z=>by subst z;rw[r]at F;exact F
 by_cases G:b=x
 .subst G;show 6 Hq q;exact new
 rw[Hv G]at q;by_cases B:b=e
 .have M:H b=U (.own x):=by
   obtain z|z:=L
   .exact absurd (B.trans z) G
   rw[B];exact z
  show 6 q M;obtain⟨v,O⟩:=J;exact⟨v,by rw[B];exact O⟩
 refine(ok b u q).Sx (λc v I r=>k c v ?_ r) (λc r=>by rw[Hv (D c b r)];exact r) λc xs r=>by rw[Hv (E c xs r)];exact r
 obtain rfl|I:=I
 .exact B
 rintro rfl;obtain z|z:=L
 .exact D c b I z
 show 6 I z;exact G rfl
end
structure Un(fs ex:List AK)(H H':Hp)(h h':Heap):Prop where
 keep: ∀b o,h.get? b=U o->H b=AB->b∉fs->b∉ex->h'.get? b=U o
 slot: ∀b o,h.get? b=U o->H b=AB->b∈fs->b∉ex-> ∃sl,h'.get? b=U {o with slots:=sl}
 free: ∀b o,h.get? b=U o->H b=AB->b∉ex->H' b=AB
 there: ∀b o,h.get? b=U o->b∉ex-> ∃o',h'.get? b=U o'
 Pb: ∀b xs,H b=U (.tup xs)->H' b=U (.tup xs)
 OG: ∀b o u,H b=U (.MZ o u)->H' b=U (.MZ o u)
 Pd: ∀b ps,H b=U (.ni ps)-> ∃more,H' b=U (.ni (ps++more))
section
variable{fs fs' ex ex':List AK}{H H1 H2:Hp}{h h1 h2 h':Heap}{a x e:AK}{o:HO}
def Un.any(u:Un fs ex H H1 h h1)(q:h.get? b=U ob)(n:H b=AB)(hx:b∉ex): ∃D,h1.get? b=U {ob with slots:=D}:=by
 by_cases B:b∈fs
 .exact u.slot b ob q n B hx
 exact⟨ob.slots,u.keep b ob q n B hx⟩
theorem Un.trans(a:Un fs ex H H1 h h1)(b:Un fs ex H1 H2 h1 h2):Un fs ex H H2 h h2 where
 keep:=λc ob q n hc hx=>b.keep c ob (a.keep c ob q n hc hx) (a.free c ob q n hx) hc hx
 slot:=λc ob q n hc hx=>by
  obtain⟨sl,e1⟩:=a.slot c ob q n hc hx;obtain⟨vF,e2⟩:=b.slot c _ e1 (a.free c ob q n hx) hc hx;exact⟨vF,e2⟩
 free:=λc ob q n hx=>by
  obtain⟨o',e1⟩:=a.there c ob q hx;exact b.free c o' e1 (a.free c ob q n hx) hx
 there:=λc ob q hx=>by
  obtain⟨o',e1⟩:=a.there c ob q hx;exact b.there c o' e1 hx
 Pb:=λc xs q=>b.Pb c xs (a.Pb c xs q)
 OG:=λc ob xs q=>b.OG c ob xs (a.OG c ob xs q)
 Pd:=λc ps q=>by
  obtain⟨m1,e1⟩:=a.Pd c ps q;obtain⟨m2,e2⟩:=b.Pd c _ e1;exact⟨m1++m2,by rw[e2,FD]⟩
def Un.kept(k: ∀b u,h.get? b=U u->h'.get? b=U u):Un fs ex H H h h':=
 ⟨λb ob q z z z=>k b ob q,λb ob q z z z=>⟨ob.slots,k b ob q⟩,λz z z n z=>n,λb ob q z=>⟨ob,k b ob q⟩,λz z q=>q,λz z z q=>q,λz ps q=>⟨#[],by rw[q];simp⟩⟩
def Un.refl:Un fs ex H H h h:=Un.kept λz z q=>q
theorem Un.laid(k: ∀b u,h.get? b=U u->h'.get? b=U u)(hp:h.objs.size<=a)(hn:H a=AB):Un fs ex H (Hu H a o) h h' where
 keep:=λb u q z z z=>k b u q
 slot:=λb u q z z z=>⟨u.slots,k b u q⟩
 free:=λb u q n z=>by rw[Hv (BH (A0 (Aj q) hp))];exact n
 there:=λb u q z=>⟨u,k b u q⟩
 Pb:=λb xs q=>by rw[Hv (IJ q hn)];exact q
 OG:=λb u xs q=>by rw[Hv (IJ q hn)];exact q
 Pd:=λb ps q=>⟨#[],by rw[Hv (IJ q hn),q];simp⟩
def Un.write(D:nP (H x))(G:e=x\/H e=U (.own x))(k: ∀b u,b≠e->h.get? b=U u->h'.get? b=U u)(E: ∃u,h'.get? e=U u):Un fs ex H (Hu H x o) h h':=by
 have hx: ∀b,H b=AB->b≠x:=λb n z=>by subst z;rw[n]at D;exact D
 have F: ∀b,H b=AB->b≠e:=λb n z=>by
  subst z;obtain r|r:=G
  .exact hx b n r
  show 6 n r
 have hm: ∀b u,H b=U u-> ¬nP (U u)->b≠x:=λb u q nm z=>by subst z;rw[q]at D;exact nm D
 refine⟨λb u q n y y=>k b u (F b n) q,λb u q n y y=>⟨u.slots,k b u (F b n) q⟩,λb u q n y=>by rw[Hv (hx b n)];exact n,λb u q y=>?_,
  λb xs q=>by rw[Hv (hm b _ q λz=>z)];exact q,λb u xs q=>by rw[Hv (hm b _ q λz=>z)];exact q,λb ps q=>⟨#[],by rw[Hv (hm b _ q λz=>z),q];simp⟩⟩
 by_cases B:b=e
 .subst B;exact E
 exact⟨u,k b u B q⟩
end
noncomputable def KO(h:Heap)(H:Hp):List AK:=(GW h.objs.size).filter λa=>(H a).isSome
def W0(h:Heap)(H:Hp):Heap:=PySem.W.hideAll h (KO h H)
def dA(h:Heap)(H:Hp):(W0 h H).objs.size=h.objs.size:=PySem.W.hideAll_size _ _
def g8(e:h.get? b=U o)(n:H b=AB):(W0 h H).get? b=U o:=
 PySem.W.hideAll_get _ e λhm=>by
  have q:(H b).isSome=AF:=(HF.mp hm).2;rw[n]at q;simp at q
def kU(e:(W0 h H).get? b=U o):h.get? b=U o/\H b=AB:=by
 have B:h.get? b=U o:=PySem.W.of_hideAll (KO h H) e;refine⟨B,?_⟩;cases q:H b with
 |none=>rfl
 |some x=>
  have hm:b∈KO h H:=HF.mpr ⟨List.mem_range.mpr (Aj B),by simp[q]⟩;have z:(W0 h H).get? b=AB:=PySem.W.hideAll_none (KO h H) hm;show 6 z e
noncomputable def lp(g h:Heap)(L:AK):List (AK×Obj):=(GW h.objs.size).filterMap λa=>if a=L\/(g.get? a).isSome=AF then AB else(h.get? a).map λo=>(a,o)
def rest(g h:Heap)(L d:AK):List (AK×Obj):=(lp g h L).filter λp=>decide (p.1≠d)
structure Mod(K:PySem.W.Frag)(mg:Str->Option Value)(base:Heap):Prop where
 qw:K.In base
 glob:base.Ns BQ mg
 blt: ∃mb,base.Ns builtinsNs mb/\ ∀x:Str,x≠"__name__"->mb x=Bt x
 nolimit:base.NoLimit
structure Cx where
 prog:BB
 w:BJ
 K:PySem.W.Frag
 mg:Str->Option Value
 base:Heap
 A:CA
 N:List Str
 VZ:AZ
 qm:Hp
 env:Env
 outer:List Env
 stack:List Env
 ex:List AK
 fn:Str->Bool
 calm:Bool
 pn:List (AK×Obj)
 xe:Value->AZ->Prop
noncomputable def OH(l:List Env):List AK:=l.filterMap (·.frame)
abbrev Cx.fs(X:Cx):List AK:=OH X.outer
noncomputable def rH(sc:Scope)(x:Str):Prop:=sc.names.lookup x=U .local\/sc.names.lookup x=U .cell\/sc.names.lookup x=U .free
noncomputable def Loc(sc:Scope)(x:Str):Prop:=sc.names.lookup x=U .local\/sc.names.lookup x=U .cell
noncomputable def Look(env:Env)(h:Heap)(m:Str->Option Value)(x:Str)(u:Value):Prop:=
 (env.kindOf x=U .local/\m x=U u)\/((env.kindOf x=U .cell\/env.kindOf x=U .free)/\ ∃c,env.cells.lookup x=U c/\h.IsCell c (U u))
structure Cx.Ok(X:Cx):Prop where
 mod:Mod X.K X.mg X.base
 kind:X.env.scope.kind=.function
 glob:X.env.globals=BQ
 blt:X.env.builtins=builtinsNs
 above:X.VZ.heap.objs.size<=X.env.locals
 inj: ∀x y c,X.env.cells.lookup x=U c->X.env.cells.lookup y=U c->x=y
 has: ∀x,(X.env.kindOf x=U .cell\/X.env.kindOf x=U .free)-> ∃c,X.env.cells.lookup x=U c
 qT: ∀x c,X.fn x=AF->X.env.cells.lookup x=U c->X.VZ.heap.objs.size<=c
 hd:X.calm=AF->X.A.handled=AB
 frames:X.A.frames=U X.stack
 mH:X.stack=X.outer\/(X.stack=X.env::X.outer/\X.env.frame=U X.env.locals)
 rD: ∀b∈X.ex,b≠X.env.locals/\ ∀x c,X.env.cells.lookup x=U c->c≠b
 bs: ∀b o,X.base.get? b=U o->X.VZ.heap.get? b=U o/\X.qm b=AB
 eO:X.base.objs.size<=X.VZ.heap.objs.size
 ZW: ∀b o,X.base.get? b=U o->b∉X.ex
 Zi: ∀b∈X.ex,b∉X.fs
 QE:X.VZ.heap.FunFrames X.base X.outer
 dG: ∀b∈X.fs,X.qm b=AB
structure Hs(X:Cx)(Ho:List (AK×Obj))(σ:List (Option V))(H:Hp)(s:AZ):Prop where
 ok:X.Ok
 os:s.os=X.VZ.os
 bare:AllBare s.gens
 base:Un X.fs X.ex X.qm H X.VZ.heap s.heap
 loc: ∃m,s.heap.Ns X.env.locals m/\ ∀(i:Nat)(x:Str)(v:V),X.N[i]? =U x->σ[i]? =U (U v)->rH X.env.scope x-> ∃u,IU v u/\Look X.env s.heap m x u
 cell: ∀x c,X.env.cells.lookup x=U c-> ∃v,s.heap.IsCell c v
 free:H X.env.locals=AB
 MR: ∀x c,X.env.cells.lookup x=U c->H c=AB
 pin: ∀p∈X.pn++Ho,s.heap.get? p.1=U p.2/\H p.1=AB/\p.1≠X.env.locals/\p.1∉X.fs/\ ∀v,p.2.data≠ .cell v
 JM:OA X.prog X.w H s.heap
 len:σ.length=X.N.length
section
variable{X:Cx}{Ho:List (AK×Obj)}{σ:List (Option V)}{H H':Hp}{s:AZ}{h':Heap}
def Cx.Ok.xg(ok:X.Ok)(e:X.base.get? b=U o):b∉X.fs:=λB=>by
 have:=(ok.QE.mem B).1;show 6 e this
theorem Hs.bs(I:Hs X Ho σ H s): ∀b o,X.base.get? b=U o->s.heap.get? b=U o/\H b=AB:=λb o e=>
 ⟨I.base.keep b o (I.ok.bs b o e).1 (I.ok.bs b o e).2 (I.ok.xg e) (I.ok.ZW b o e),I.base.free b o (I.ok.bs b o e).1 (I.ok.bs b o e).2 (I.ok.ZW b o e)⟩
def Hs.bk(I:Hs X Ho σ H s): ∀b o,X.base.get? b=U o->s.heap.get? b=U o:=λb o e=>(I.bs b o e).1
theorem Hs.mod(I:Hs X Ho σ H s):Mod X.K X.mg X.base:=I.ok.mod
def Hs.Pu(I:Hs X Ho σ H s):X.K.In s.heap:=I.ok.mod.qw.keeps I.bk
def Hs.fr(I:Hs X Ho σ H s): ∃m,Fr X.base X.env.locals s.heap m:=
 let⟨m,hn,_⟩:=I.loc
 ⟨m,hn,I.bk,Aa I.ok.eO I.ok.above⟩
theorem Hs.lt(I:Hs X Ho σ H s):X.env.locals<s.heap.objs.size:=let⟨_,hn,_⟩:=I.loc;hn.lt
def Hs.sz(I:Hs X Ho σ H s):X.VZ.heap.objs.size<=s.heap.objs.size:=Aa I.ok.above (Gh I.lt)
def Hs.xf(I:Hs X Ho σ H s){a:AK}(h:s.heap.objs.size<=a):a∉X.fs:=λB=>by
 obtain⟨_,o,D,_⟩:=I.ok.QE.mem B;exact absurd (A0 (Aj D) (Aa I.sz h)) (CQ _)
def Hs.qS(I:Hs X Ho σ H s): ∀x c,X.env.cells.lookup x=U c->c≠X.env.locals:=λx c e z=>by
 obtain⟨v,o,E,hd⟩:=I.cell x c e;obtain⟨m,⟨F,G,J,B,D,_⟩,_⟩:=I.loc;rw[z,B]at E;cases E;show 6 D hd
theorem Hs.QE(I:Hs X Ho σ H s):s.heap.FunFrames X.base X.outer:=by
 have all: ∀(l:List Env),(∀b∈OH l,b∈X.fs)->X.VZ.heap.FunFrames X.base l->s.heap.FunFrames X.base l:=by
  intro l
  induction l with
  |nil=>intro _ _;trivial
  |cons env r F=>
   intro hs G;obtain⟨J,⟨L,o,B,hn,M,hd⟩,hr⟩:=G;have D:L∈X.fs:=hs L (by unfold OH;rw[Eu,B];exact BA);obtain⟨O,e⟩:=I.base.slot L o M (I.ok.dG L D) D λz=>I.ok.Zi L z D;exact⟨J,⟨L,_,B,hn,e,hd⟩,F (λb E=>hs b (by unfold OH;rw[Eu,B];exact Au _ E)) hr⟩
 exact all X.outer (λy E=>E) I.ok.QE
theorem Hs.stack(I:Hs X Ho σ H s):s.heap.FunFrames X.base X.stack:=by
 obtain e|⟨e,B⟩:=I.ok.mH
 .rw[e];exact I.QE
 rw[e];obtain⟨m,hn,_⟩:=I.loc;refine .cons (by rw[I.ok.kind];decide) B hn ?_ I.QE
 exact Heap.get?_none_of_le (Aa I.ok.eO I.ok.above)
def Hs.Sv(I:Hs X Ho σ H s): ∀b∈OH X.stack,b∈X.env.locals::X.fs:=λb B=>by
 obtain e|⟨e,D⟩:=I.ok.mH
 .rw[e]at B;exact Au _ B
 rw[e]at B;unfold OH at B;rw[Eu,D]at B;exact B
def Hs.WK(I:Hs X Ho σ H s): ∀b∈OH X.stack,H b=AB:=λb B=>by
 obtain e|B:=AO.mp (I.Sv b B)
 .rw[e];exact I.free
 obtain⟨_,o,D,_⟩:=I.ok.QE.mem B;exact I.base.free b o D (I.ok.dG b B) λz=>I.ok.Zi b z B
def Hs.step{ch:List AK}(I:Hs X Ho σ H s)(B: ∀b∈ch,(b∈X.ex\/X.VZ.heap.objs.size<=b)/\b≠X.env.locals/\(∀x c,X.env.cells.lookup x=U c->c≠b)/\ ∀p∈X.pn++Ho,p.1≠b)(keep: ∀b o,b≠X.env.locals->b∉X.fs->b∉ch->s.heap.get? b=U o->H b=AB->h'.get? b=U o)(slot: ∀b o,b≠X.env.locals->b∈X.fs->b∉ch->s.heap.get? b=U o->H b=AB-> ∃M,h'.get? b=U {o with slots:=M})(free: ∀b o,b∉ch->s.heap.get? b=U o->H b=AB->H' b=AB)(there: ∀b o,b∉ch->s.heap.get? b=U o-> ∃J,h'.get? b=U J)(Pb: ∀b xs,H b=U (.tup xs)->H' b=U (.tup xs))(OG: ∀b o u,H b=U (.MZ o u)->H' b=U (.MZ o u))(Pd: ∀b ps,H b=U (.ni ps)-> ∃more,H' b=U (.ni (ps++more)))(ns: ∀m,s.heap.Ns X.env.locals m->h'.Ns X.env.locals m)(JM:OA X.prog X.w H' h')(hg:AllBare g'):
  Hs X Ho σ H' {s with heap:=h',gens:=g',drawn:=d',toks:=t'}:=by
 have L: ∀b o,X.VZ.heap.get? b=U o->b≠X.env.locals:=λb o e=>BH (A0 (Aj e) I.ok.above);have E: ∀b o,X.VZ.heap.get? b=U o->b∉X.ex->b∉ch:=λb o e hx F=>by
  obtain z|z:=(B b F).1
  .exact hx z
  exact absurd (A0 (Aj e) z) (CQ _)
 have cellK: ∀x c,X.env.cells.lookup x=U c-> ∀v,s.heap.IsCell c v->h'.IsCell c v:=λx c e v ⟨o,G,hd⟩=>by
  have D:c∉ch:=λz=>(B c z).2.2.1 x c e rfl;by_cases S:c∈X.fs
  .obtain⟨M,q⟩:=slot c o (I.qS x c e) S D G (I.MR x c e);exact⟨_,q,hd⟩
  exact⟨o,keep c o (I.qS x c e) S D G (I.MR x c e),hd⟩
 refine⟨I.ok,I.os,hg,⟨λb o e n F hx=>?_,λb o e n F hx=>?_,λb o e n hx=>?_,λb o e hx=>?_,λb xs e=>Pb b xs (I.base.Pb b xs e),λb o xs e=>OG b o xs (I.base.OG b o xs e),λb ps e=>?_⟩,?_,λx c e=>?_,?_,λx c e=>?_,λp Y=>?_,JM,I.len⟩
 .exact keep b o (L b o e) F (E b o e hx) (I.base.keep b o e n F hx) (I.base.free b o e n hx)
 .obtain⟨M,e1⟩:=I.base.slot b o e n F hx;obtain⟨O,e2⟩:=slot b _ (L b o e) F (E b o e hx) e1 (I.base.free b o e n hx);exact⟨O,e2⟩
 .obtain⟨J,e1⟩:=I.base.there b o e hx;exact free b J (E b o e hx) e1 (I.base.free b o e n hx)
 .obtain⟨J,e1⟩:=I.base.there b o e hx;exact there b J (E b o e hx) e1
 .obtain⟨m1,e1⟩:=I.base.Pd b ps e;obtain⟨m2,e2⟩:=Pd b _ e1;exact⟨m1++m2,by rw[e2,FD]⟩
 .obtain⟨m,hn,hl⟩:=I.loc;refine⟨m,ns m hn,λi x v e1 e2 e3=>?_⟩;obtain⟨u,r,l⟩:=hl i x v e1 e2 e3;refine⟨u,r,?_⟩;obtain l|⟨k,c,e,z⟩:=l
  .exact .inl l
  exact .inr ⟨k,c,e,cellK x c e _ z⟩
 .obtain⟨v,z⟩:=I.cell x c e;exact⟨v,cellK x c e v z⟩
 .obtain⟨m,⟨o,_,_,G,_⟩,_⟩:=I.loc;exact free _ o (λz=>(B _ z).2.1 rfl) G I.free
 .obtain⟨v,o,G,hd⟩:=I.cell x c e;exact free c o (λz=>(B c z).2.2.1 x c e rfl) G (I.MR x c e)
 obtain⟨e,n,ne,Z,d⟩:=I.pin p Y;have D:p.1∉ch:=λz=>(B p.1 z).2.2.2 p Y rfl;exact⟨keep p.1 p.2 ne Z D e n,free p.1 p.2 D e n,ne,Z,d⟩
def Hs.un(I:Hs X Ho σ H s)(u:Un X.fs [] H H' s.heap h')(JM:OA X.prog X.w H' h'):Hs X Ho σ H' {s with heap:=h',toks:=t'}:=by
 obtain⟨m,⟨o,M,O,G,r⟩,_⟩:=id I.loc;obtain⟨S,J⟩:=u.any G I.free (!2);exact I.step (g':=s.gens) (d':=s.drawn) (ch:=[]) (λy z=>nomatch z) (λb o y D y e n=>u.keep b o e n D (!2)) (λb o y D y e n=>u.slot b o e n D (!2)) (λb o y e n=>u.free b o e n (!2)) (λb o y e=>u.there b o e (!2)) u.Pb u.OG u.Pd (λY hm=>by
  obtain⟨Z,E,F,B,L⟩:=hm;show 6 G B;exact⟨_,E,F,J,L⟩) JM I.bare
def Hs.call(I:Hs X Ho σ H s)(u:Un (OH X.stack) ch H H' s.heap h')(JM:OA X.prog X.w H' h')(M:AllBare g')(D: ∀b∈ch,(b∈X.ex\/X.VZ.heap.objs.size<=b)/\b≠X.env.locals/\(∀x c,X.env.cells.lookup x=U c->c≠b)/\ ∀p∈X.pn++Ho,p.1≠b):
  Hs X Ho σ H' {s with heap:=h',gens:=g',drawn:=d',toks:=t'}:=by
 obtain⟨m,⟨o,Y,Z,L,r⟩,_⟩:=id I.loc;obtain⟨sl,F⟩:=u.any L I.free λz=>(D _ z).2.1 rfl;exact I.step (ch:=ch) D (λb o F O B e n=>u.keep b o e n (λz=>(AO.mp (I.Sv b z)).elim F O) B) (λb o y y B e n=>u.any e n B) (λb o B e n=>u.free b o e n B) (λb o B e=>u.there b o e B) u.Pb u.OG u.Pd (λm' hm=>by
  obtain⟨o',G,J,E,S⟩:=hm;show 6 L E;exact⟨_,G,J,F,S⟩) JM M
def Hs.turned(I:Hs X Ho σ H s)(k: ∀b o,b≠B->s.heap.get? b=U o->h'.get? b=U o)(hn:H B=AB)(F:B≠X.env.locals)(G:B∈X.ex\/X.VZ.heap.objs.size<=B)(J: ∀x c,X.env.cells.lookup x=U c->c≠B)(L: ∀p∈X.pn++Ho,p.1≠B):Hs X Ho σ H {s with heap:=h',toks:=t'}:=by
 have E: ∀b u,H b=U u->b≠B:=λb u e z=>by rw[z,hn]at e;cases e
 refine I.step (g':=s.gens) (d':=s.drawn) (ch:=[B]) (λb M=>?_) (λb o y y D e y=>k b o (λz=>D (by simp[z])) e) (λb o y y D e y=>⟨o.slots,k b o (λz=>D (by simp[z])) e⟩) (λy y y y n=>n)
  (λb o D e=>⟨o,k b o (λz=>D (by simp[z])) e⟩) (λy y e=>e) (λy y y e=>e) (λb ps e=>⟨#[],by rw[e];simp⟩) (λm hm=>?_) (λb u e=>?_) I.bare
 .have e:b=B:=by simpa using M
  subst e;exact⟨G,F,J,L⟩
 .obtain⟨o,O,S,Y,r⟩:=hm;exact⟨o,O,S,k _ o (Ne.symm F) Y,r⟩
 refine(I.JM b u e).Sx (λc v D q=>k c v ?_ q) (λy q=>q) λy y q=>q;obtain z|z:=D
 .rw[z];exact E b u e
 exact E c _ z
def Hs.tok(I:Hs X Ho σ H s)(t:Nat):Hs X Ho σ H {s with toks:=t}:=I.un (h':=s.heap) (t':=t) Un.refl I.JM
theorem Hs.kept(I:Hs X Ho σ H s)(k: ∀b u,s.heap.get? b=U u->h'.get? b=U u):Hs X Ho σ H {s with heap:=h',toks:=t'}:=I.un (Un.kept k) (I.JM.kept k)
theorem Hs.laid{a:AK}(I:Hs X Ho σ H s)(k: ∀b u,s.heap.get? b=U u->h'.get? b=U u)(B:s.heap.objs.size<=a)(new:Jp X.prog X.w (Hu H a o) h' a o):
 Hs X Ho σ (Hu H a o) {s with heap:=h',toks:=t'}:=I.un (Un.laid k B (I.JM.fresh B)) (I.JM.laid k B new)
theorem Hs.write(I:Hs X Ho σ H s)(D:nP (H x))(E:e=x\/H e=U (.own x))(k: ∀b u,b≠e->s.heap.get? b=U u->h'.get? b=U u)(B: ∃u,h'.get? e=U u)(new:Jp X.prog X.w (Hu H x o) h' x o):Hs X Ho σ (Hu H x o) {s with heap:=h',toks:=t'}:=I.un (Un.write D E k B) (I.JM.write D E k B new)
def Hs.weak(I:Hs X Ho σ H s)(E:B.length=σ.length)(w: ∀(i:Nat) v,B[i]? =U (U v)->σ[i]? =U (U v)):Hs X Ho B H s:=
 ⟨I.ok,I.os,I.bare,I.base,let⟨m,hn,D⟩:=I.loc;⟨m,hn,λi x v e1 e2 e3=>D i x v e1 (w i v e2) e3⟩,I.cell,I.free,I.MR,I.pin,I.JM,E.trans I.len⟩
def Hs.aK(I:Hs X Ho σ H s)(h: ∀p∈B,s.heap.get? p.1=U p.2/\H p.1=AB/\p.1≠X.env.locals/\p.1∉X.fs/\ ∀v,p.2.data≠ .cell v):Hs X B σ H s:=
 ⟨I.ok,I.os,I.bare,I.base,I.loc,I.cell,I.free,I.MR,λp D=>(AQ.mp D).elim (λz=>I.pin p (Bl _ z)) (h p),I.JM,I.len⟩
def Td{N:List Str}(B:N.Nodup){j:Nat}(a:N[i]? =U x)(b:N[j]? =U x):i=j:=by
 obtain⟨D,e1⟩:=List.getElem?_eq_some_iff.mp a;obtain⟨E,e2⟩:=List.getElem?_eq_some_iff.mp b;exact(List.getElem_inj B).mp (e1.trans e2.symm)
def VR(I:Hs X Ho σ H s)(hN:X.N.Nodup)(S:X.N[i]? =U x)(hx:Loc X.env.scope x)(r:IU v u)(h: ∀s',Hs X Ho (σ.set i (U v)) H s'->(∃a,E2 a s.heap s'.heap/\(a=X.env.locals\/X.env.cells.lookup x=U a))->Q () s')(hf:autoParam (X.fn x=AF\/X.env.scope.names.lookup x=U .local) jI):Ar M A (storeName X.env x u) Q E s:=by
 obtain⟨m,hn,hl⟩:=id I.loc;have Y:(X.env.scope.kind== .class||(X.env.scope.kind== .module&&X.env.locals != X.env.globals))=AJ:=by rw[I.ok.kind];rfl
 have F:i<σ.length:=by rw[I.len];exact(List.getElem?_eq_some_iff.mp S).1
 have qS:=I.qS;have tracked: ∀{a:AK}{h':Heap},(∃o,s.heap.get? a=U o/\H a=AB)->E2 a s.heap h'->OA X.prog X.w H h':=λ{a h'} ha hs b ob e=>by
  obtain⟨_,_,D⟩:=ha;refine(I.JM b ob e).Sx (λc w' B q=>(hs.2 c ?_).trans q) (λt q=>q) λt t q=>q;rintro rfl;obtain rfl|B:=B
  .show 6 D e
  show 6 D B
 obtain G|G:=hx
 .refine wpAny_storeName_local G hn (λh' vV hs=>?_) Y;obtain⟨oL,_,_,hoL,_⟩:=id hn;refine h _ ⟨I.ok,I.os,I.bare,⟨λb o e n J hx=>?_,λb o e n J hx=>?_,I.base.free,λb o e hx=>?_,I.base.Pb,I.base.OG,I.base.Pd⟩,⟨_,vV,λj y v' e1 e2 e3=>?_⟩,λy c e=>?_,I.free,I.MR,λp hp=>?_,tracked ⟨oL,hoL,I.free⟩ hs,by simpa using I.len⟩ ⟨_,hs,.inl rfl⟩
  .exact(hs.2 b (BH (A0 (Aj e) I.ok.above))).trans (I.base.keep b o e n J hx)
  .obtain⟨sl,e1⟩:=I.base.slot b o e n J hx;exact⟨sl,(hs.2 b (BH (A0 (Aj e) I.ok.above))).trans e1⟩
  .obtain⟨o',e1⟩:=I.base.there b o e hx;exact⟨o',(hs.2 b (BH (A0 (Aj e) I.ok.above))).trans e1⟩
  .by_cases L:j=i
   .subst L;show 6 S e1;rw[List.getElem?_set_self F]at e2;cases e2;exact⟨u,r,.inl ⟨G,!2⟩⟩
   rw[List.getElem?_set_ne (Ne.symm L)]at e2;obtain⟨u',r',q⟩:=hl j y v' e1 e2 e3;refine⟨u',r',?_⟩;obtain⟨k,e⟩|⟨k,c,e,z⟩:=q
   .refine .inl ⟨k,?_⟩;have:y≠x:=λe=>L (Td hN e1 (e▸S));simp[this,e]
   exact .inr ⟨k,c,e,z.sameBut hs (qS y c e)⟩
  .obtain⟨w',z⟩:=I.cell y c e;exact⟨w',z.sameBut hs (qS y c e)⟩
  obtain⟨e,n,ne,nf,d⟩:=I.pin p hp;exact⟨(hs.2 p.1 ne).trans e,n,ne,nf,d⟩
 have O:X.fn x=AF:=by
  obtain z|z:=hf
  .exact z
  show 6 z G
 obtain⟨c,B⟩:=I.ok.has x (.inl G);obtain⟨w',z⟩:=I.cell x c B;refine wpAny_storeName_cell I.ok.kind G B z (λh' Z hs=>?_);obtain⟨oc,hoc,yb⟩:=id z;refine h {s with heap:=h'} ⟨I.ok,I.os,I.bare,⟨λb o e n J hx=>?_,λb o e n J hx=>?_,I.base.free,λb o e hx=>?_,I.base.Pb,I.base.OG,I.base.Pd⟩,⟨m,hn.sameBut hs (Ne.symm (qS x c B)),λj y v' e1 e2 e3=>?_⟩,λy c' e=>?_,I.free,I.MR,λp hp=>?_,tracked ⟨oc,hoc,I.MR x c B⟩ hs,by simpa using I.len⟩ ⟨c,hs,.inr B⟩
 .exact(hs.2 b (BH (A0 (Aj e) (I.ok.qT x c O B)))).trans (I.base.keep b o e n J hx)
 .obtain⟨sl,e1⟩:=I.base.slot b o e n J hx;exact⟨sl,(hs.2 b (BH (A0 (Aj e) (I.ok.qT x c O B)))).trans e1⟩
 .obtain⟨o',e1⟩:=I.base.there b o e hx;exact⟨o',(hs.2 b (BH (A0 (Aj e) (I.ok.qT x c O B)))).trans e1⟩
 .by_cases L:j=i
  .subst L;show 6 S e1;rw[List.getElem?_set_self F]at e2;cases e2;exact⟨u,r,.inr ⟨.inl G,c,B,Z⟩⟩
  rw[List.getElem?_set_ne (Ne.symm L)]at e2;obtain⟨u',r',q⟩:=hl j y v' e1 e2 e3;refine⟨u',r',?_⟩;obtain q|⟨k,c',e,z'⟩:=q
  .exact .inl q
  refine .inr ⟨k,c',e,z'.sameBut hs ?_⟩;rintro rfl;exact L (Td hN e1 (I.ok.inj _ _ _ e B▸S))
 .by_cases mw:c'=c
  .subst mw;exact⟨_,Z⟩
  obtain⟨w2,z2⟩:=I.cell y c' e;exact⟨w2,z2.sameBut hs mw⟩
 obtain⟨e,n,ne,nf,d⟩:=I.pin p hp;refine⟨(hs.2 p.1 ?_).trans e,n,ne,nf,d⟩;intro q;rw[q,hoc]at e;have q':oc=p.2:=BU e;exact d w' (by rw[<-q'];exact yb)
def Su(I:Hs X Ho σ H s)(B:X.N.Nodup)(D:X.N[i]? =U x)(hx:Loc X.env.scope x)(r:IU v u)(h: ∀s',Hs X Ho (σ.set i (U v)) H s'->Q () s')(F:autoParam (X.fn x=AF\/X.env.scope.names.lookup x=U .local) jI):Ar M A (storeName X.env x u) Q E s:=
 VR I B D hx r (λs' G z=>h s' G) F
def Hs.nI(I:Hs X Ho σ H s)(D:s'.os=s.os)(u:Un (OH X.stack) ch H H' s.heap s'.heap)(JM:OA X.prog X.w H' s'.heap)(E:AllBare s'.gens)(B: ∀b∈ch,(b∈X.ex\/X.VZ.heap.objs.size<=b)/\b≠X.env.locals/\(∀x c,X.env.cells.lookup x=U c->c≠b)/\ ∀p∈X.pn++Ho,p.1≠b):Hs X Ho σ H' s':=by
 obtain⟨h',g',d',t',F⟩:=s';have e:F=s.os:=D;subst e;exact I.call (g':=g') (t':=t') (d':=d') u JM E B
end
abbrev XK:=Value->Option AK->Hp->Prop
noncomputable abbrev St:=List (Option V)
abbrev VK:=V->Hp->Prop
abbrev TE:=St->Hp->VK->Prop
abbrev TT:=St->Hp->(Bool->Hp->Prop)->Prop
abbrev TA:=St->Hp->(List V->Hp->Prop)->Prop
structure Ends where
 nx:St->Hp->Prop
 rt:VK
 bk:St->Hp->Prop:=λz z=>False
 ct:St->Hp->Prop:=λz z=>False
abbrev TS:=Ends->St->Hp->Prop
def mV{o:Option (Option V)}{P:V->Prop}(h:match o with|some (U v)=>P v|_=>False): ∃v,o=U (U v)/\P v:=by
 split at h
 .exact⟨_,rfl,h⟩
 exact h.elim
def mB{x:V}{P:Bool->Prop}(h:match x with|.bl c=>P c|_=>False): ∃c,x=.bl c/\P c:=by
 split at h
 .exact⟨_,rfl,h⟩
 exact h.elim
def mI{x:V}{P:Int->Prop}(h:match x with|.int c=>P c|_=>False): ∃c,x=.int c/\P c:=by
 split at h
 .exact⟨_,rfl,h⟩
 exact h.elim
def mR{x:V}{P:AK->Prop}(h:match x with|.ref c=>P c|_=>False): ∃c,x=.ref c/\P c:=by
 split at h
 .exact⟨_,rfl,h⟩
 exact h.elim
def qu{x y:V}{P:Int->Int->Prop}(h:match x with|.int i=>(match y with|.int j=>P i j|_=>False)|_=>False): ∃i j,x=.int i/\y=.int j/\P i j:=by
 obtain⟨i,e,h⟩:=mI h;obtain⟨j,f,h⟩:=mI h;exact⟨i,j,e,f,h⟩
def xi{x y:V}{P:AK->Int->Prop}(h:match x with|.ref i=>(match y with|.int j=>P i j|_=>False)|_=>False): ∃i j,x=.ref i/\y=.int j/\P i j:=by
 obtain⟨i,e,h⟩:=mR h;obtain⟨j,f,h⟩:=mI h;exact⟨i,j,e,f,h⟩
def mRR{x y:V}{P:AK->AK->Prop}(h:match x with|.ref i=>(match y with|.ref j=>P i j|_=>False)|_=>False): ∃i j,x=.ref i/\y=.ref j/\P i j:=by
 obtain⟨i,e,h⟩:=mR h;obtain⟨j,f,h⟩:=mR h;exact⟨i,j,e,f,h⟩
def m1{vs:List V}{P:V->Prop}(h:match vs with|[y]=>P y|_=>False): ∃y,vs=[y]/\P y:=by
 split at h
 .exact⟨_,rfl,h⟩
 exact h.elim
def mR1{x:V}{vs:List V}{P:AK->V->Prop}(h:match x with|.ref i=>(match vs with|[y]=>P i y|_=>False)|_=>False): ∃i y,x=.ref i/\vs=[y]/\P i y:=by
 obtain⟨i,e,h⟩:=mR h;obtain⟨j,f,h⟩:=m1 h;exact⟨i,j,e,f,h⟩
def xj{x:V}{vs:List V}{P:AK->AK->Prop}(h:match x with|.ref i=>(match vs with|[y]=>(match y with|.ref y=>P i y|_=>False)|_=>False)|_=>False): ∃i y,x=.ref i/\vs=[.ref y]/\P i y:=by
 obtain⟨i,e,h⟩:=mR h;obtain⟨j,f,h⟩:=m1 h;obtain⟨y,g,h⟩:=mR h;exact⟨i,y,e,by rw[f,g],h⟩
def mR0{x:V}{vs:List V}{P:AK->Prop}(h:match x with|.ref i=>(match vs with|[]=>P i|_=>False)|_=>False): ∃i,x=.ref i/\vs=[]/\P i:=by
 obtain⟨i,e,h⟩:=mR h;split at h
 .exact⟨i,e,rfl,h⟩
 exact h.elim
def m1R{vs:List V}{P:AK->Prop}(h:match vs with|[y]=>(match y with|.ref i=>P i|_=>False)|_=>False): ∃i,vs=[.ref i]/\P i:=by
 obtain⟨j,f,h⟩:=m1 h;obtain⟨y,g,h⟩:=mR h;exact⟨y,by rw[f,g],h⟩
def mC{vs:List V}{P:V->List V->Prop}(h:match vs with|v::r=>P v r|_=>False): ∃v r,vs=v::r/\P v r:=by
 split at h
 .exact⟨_,_,rfl,h⟩
 exact h.elim
def mN{vs:List V}{P:Prop}(h:match vs with|[]=>P|_=>False):vs=[]/\P:=by
 split at h
 .exact⟨rfl,h⟩
 exact h.elim
noncomputable def EP(X:Cx)(Ho:List (AK×Obj))(D:St)(Q:VK)(u:Value)(s':AZ):Prop:= ∃v B,Hs X Ho D B s'/\IU v u/\Q v B
noncomputable def TP(X:Cx)(Ho:List (AK×Obj))(D:St)(Q:Bool->Hp->Prop)(b:Bool)(s':AZ):Prop:= ∃B,Hs X Ho D B s'/\Q b B
noncomputable def AP(X:Cx)(Ho:List (AK×Obj))(D:St)(Q:List V->Hp->Prop)(us:List Value)(s':AZ):Prop:= ∃vs B,Hs X Ho D B s'/\IM vs us/\Q vs B
noncomputable def SP(X:Cx)(Ho:List (AK×Obj))(D:Ends)(f:Flow)(s':AZ):Prop:=
 match f with
 |.next=> ∃B E,Hs X Ho B E s'/\D.nx B E
 |.brk=> ∃B E,Hs X Ho B E s'/\D.bk B E
 |.cont=> ∃B E,Hs X Ho B E s'/\D.ct B E
 |.ret u=> ∃v B E,Hs X Ho B E s'/\IU v u/\D.rt v E
noncomputable def PE(X:Cx)(e:Expr)(t:TE):Prop:=
 ∀(Ho:List (AK×Obj))(s:AZ)(B:St)(H:Hp)(Q:VK),Hs X Ho B H s->t B H Q->Ar (Ay X.prog X.w) X.A (eval e X.env) (EP X Ho B Q) X.xe s
noncomputable def PT(X:Cx)(e:Expr)(t:TT):Prop:=
 ∀(Ho:List (AK×Obj))(s:AZ)(B:St)(H:Hp)(Q:Bool->Hp->Prop),Hs X Ho B H s->t B H Q->Ar (Ay X.prog X.w) X.A (isTrue e X.env (eval e X.env)) (TP X Ho B Q) X.xe s
noncomputable def PW(X:Cx)(e:Expr)(t:TT):Prop:=
 ∀(whole:Sem Value)(Ho:List (AK×Obj))(s:AZ)(B:St)(H:Hp)(Q:Bool->Hp->Prop),Hs X Ho B H s->t B H Q->Ar (Ay X.prog X.w) X.A (isTrue e X.env whole) (TP X Ho B Q) X.xe s
def PW.pt(h:PW X e t):PT X e t:=h _
noncomputable def PA(X:Cx)(D:List Expr)(t:TA):Prop:=
 ∀(pos:Pos)(Ho:List (AK×Obj))(s:AZ)(B:St)(H:Hp)(Q:List V->Hp->Prop),Hs X Ho B H s->t B H Q->Ar (Ay X.prog X.w) X.A (spliced (backTo pos (BC D X.env))) (AP X Ho B Q) X.xe s
noncomputable def PS(X:Cx)(st:DW)(t:TS):Prop:=
 ∀(Ho:List (AK×Obj))(s:AZ)(B:St)(H:Hp)(D:Ends),Hs X Ho B H s->t D B H->Ar (Ay X.prog X.w) X.A (exec st X.env) (SP X Ho D) X.xe s
noncomputable def eP(X:Cx)(st:List DW)(t:TS):Prop:=
 ∀(Ho:List (AK×Obj))(s:AZ)(B:St)(H:Hp)(D:Ends),Hs X Ho B H s->t D B H->Ar (Ay X.prog X.w) X.A (execs st X.env) (SP X Ho D) X.xe s
def Jv{B:α->AZ->Prop}(h:Ar M A t Q E s)(D: ∀a s,Q a s->B a s):Ar M A t B E s:=CL h D λz z x=>x
section
variable{X:Cx}
def bin(ha:PE X a ta)(J:PE X b L){B:St}{R:V->V->Hp->Prop}(I:Hs X Ho B H s)(h:ta B H λx G=>L B G λy H2=>R x y H2){f:Value->Value->Sem α}(M: ∀v u F x y H2,Hs X Ho B H2 F->IU x v->IU y u->R x y H2->Ar (Ay X.prog X.w) X.A (f v u) Q X.xe F):
  Ar (Ay X.prog X.w) X.A (eval a X.env) (λv D=>Ar (Ay X.prog X.w) X.A (eval b X.env) (λu E=>Ar (Ay X.prog X.w) X.A (f v u) Q X.xe E) X.xe D) X.xe s:=by
 refine Jv (ha Ho s B H _ I h) λv O ⟨x,G,S,Y,Z⟩=>?_;refine Jv (J Ho O B G _ S Z) λu F ⟨y,H2,I2,r2,q2⟩=>?_;exact M v u F x y H2 I2 Y r2 q2
noncomputable def nk(i:Nat):TE:=λB H Q=>match B[i]? with|some (U v)=>Q v H|_=>False
noncomputable def tC(v:V):TE:=λz H Q=>Q v H
def oU(G:X.N[i]? =U x)(J:rH X.env.scope x)(hd:autoParam ((x==("__debug__":Str))=AJ) Li)(E:autoParam ((x==("__classdict__":Str))=AJ) Li):PE X (.Name x pos) (nk i):=by
 intro Ho s L H Q I h;obtain⟨v,e,h⟩:=mV h;obtain⟨m,hn,M⟩:=I.loc;obtain⟨u,r,l⟩:=M i x v G e J;have fin:EP X Ho L Q u s:=⟨v,H,I,r,h⟩;obtain⟨D,hm⟩|⟨D,c,F,B⟩:=l
 .exact HL (Fz I.ok.kind D hn hm fin) hd
 obtain D|D:=D
 .exact HL (F9 I.ok.kind D F B fin) hd
 exact HL (wpAny_loadName_free I.ok.kind D F B fin E) hd
def Ht:PE X (.Constant (.int i) j pos) (tC (.int i)):=λz z z H z I h=>wpAny_Constant_int ⟨.int i,H,I.tok _,⟨_,rfl⟩,h⟩
def ND:PE X (.Constant (.bool b) j pos) (tC (.bl b)):=λz z z H z I h=>Constant_bool ⟨.bl b,H,I,rfl,h⟩
def LW:PE X (.Constant .none j pos) (tC .Jm):=λz z z H z I h=>AAE ⟨.Jm,H,I,rfl,h⟩
def P8:PE X (.Constant (.str x) j pos) (tC (.str x)):=λz z z H z I h=>GY ⟨.str x,H,I.tok _,⟨_,rfl⟩,h⟩
noncomputable def Gl(X:Cx)(x:Str):Prop:=X.env.kindOf x=U .globalImplicit
def Nl{B:St}(I:Hs X Ho B H s)(D:Gl X x)(hm:X.mg x=U u)(h:Q u s)(hd:autoParam ((x==("__debug__":Str))=AJ) Li):Ar (Ay X.prog X.w) X.A (eval (.Name x pos) X.env) Q E s:=
 FC I.ok.kind D (Calls.loadGlobal_global (by rw[I.ok.glob];exact I.mod.glob.keeps I.bk) hm h) hd
def Od{B:St}(I:Hs X Ho B H s)(D:Gl X x)(hm:X.mg x=AB)(F:Bt x=U u)(h:Q u s)(hn:autoParam (x≠"__name__") Li)(hd:autoParam ((x==("__debug__":Str))=AJ) Li):Ar (Ay X.prog X.w) X.A (eval (.Name x pos) X.env) Q E s:=by
 obtain⟨L,G,J⟩:=I.mod.blt;exact FC I.ok.kind D (Calls.loadGlobal_builtin (by rw[I.ok.glob];exact I.mod.glob.keeps I.bk) hm (by rw[I.ok.blt];exact G.keeps I.bk) ((J x hn).trans F) h) hd
def WZ(B:Gl X x)(hm:X.mg x=U u)(r:IU v u)(hd:autoParam ((x==("__debug__":Str))=AJ) Li):PE X (.Name x pos) (tC v):=
 λz z z H z I h=>Nl I B hm ⟨v,H,I,r,h⟩ hd
variable{a b:Expr}{ta tb:TE}{pos:Pos}
noncomputable def PC(X:Cx)(F:CmpOp)(a b:Expr)(t:TE):Prop:=
 ∀(Ho:List (AK×Obj))(s:AZ)(E:St)(H:Hp)(Q:VK),Hs X Ho E H s->t E H Q→
  Ar (Ay X.prog X.w) X.A (eval a X.env) (λv B=>Ar (Ay X.prog X.w) X.A (eval b X.env) (λu D=>Ar (Ay X.prog X.w) X.A (Bm F v u) (EP X Ho E Q) X.xe D) X.xe B) X.xe s
def gJ(b:Expr)(h:op≠ .In)(B:op≠ .NotIn):behindInMarks op b=AJ:=by
 have e:(op==AA0||op==AAb)=AJ:=by cases op<;>first|rfl|exact absurd rfl h|exact absurd rfl B
 cases b<;>first|rfl|(show(_&&(op==AA0||op==AAb)&&_)=AJ;rw[e,CI,Be])
noncomputable def wN(ta:TE):TE:=λB H Q=>ta B H λx D=>Q (.bl (decide (x=.Jm))) D
def IU.gI(r:IU x v):(v==DF)=decide (x=.Jm):=by
 cases x with
 |Jm=>cases r;rfl
 |bl _=>cases r;rfl
 |int _=>obtain⟨t,rfl⟩:=r;rfl
 |str _=>obtain⟨t,rfl⟩:=r;rfl
 |Yf _=>obtain⟨t,rfl⟩:=r;rfl
 |m8 _=>obtain⟨t,rfl⟩:=r;rfl
 |ref _=>cases r;rfl
 |ty _=>cases r;rfl
def MJ(ha:PE X a ta):PC X .Is a (.Constant .none j pos') (wN ta):=by
 intro Ho s B H Q I h;refine Jv (ha Ho s B H _ I h) λv J ⟨x,D,E,F,G⟩=>?_;exact AAE (is_none_gen ⟨.bl _,D,E,by rw[F.gI];rfl,G⟩)
noncomputable def tB(t:TE):TT:=λB H Q=>t B H λx D=>match x with|.bl c=>Q c D|_=>False
def KY(h:PC X D a b t)(B:autoParam (behindInMarks D b=AJ) AA2):PT X (.Compare a [D] [b] pos) (tB t):=by
 intro Ho s E H Q I F;refine Ft (Jv (h Ho s E H _ I F) λv S B=>Jv B λu Y G=>Jv G λc Z ⟨x,J,L,M,O⟩=>?_) B;obtain⟨d,rfl,q⟩:=mB O;cases M;exact B5 ⟨J,L,q⟩
def Ik(h:PE X e t)(B:autoParam (∀whole,isTrue e X.env whole=(do let v<-whole;standAt e.pos;holding [v] (truthy v))) l9):PT X e (tB t):=by
 intro Ho s D H Q I E;refine isTrue_plain (Jv (h Ho s D H _ I E) λv M ⟨x,F,G,J,L⟩=>?_) (B _);obtain⟨d,rfl,q⟩:=mB L;cases J;exact B5 ⟨F,G,q⟩
variable{tA vC:TT}{rest:List Expr}
noncomputable def wb(t u:TT):TT:=λB H Q=>t B H λc D=>if c=AF then u B D Q else Q AJ D
noncomputable def tOr(t u:TT):TT:=λB H Q=>t B H λc D=>if c=AF then Q AF D else u B D Q
noncomputable def wM(t:TT):TT:=λB H Q=>t B H λc D=>Q (!c) D
def Jr(ha:PT X a tA):PW X (.BoolOp .And [a] pos) tA:=by
 intro D Ho s B H Q I h;refine isTrue_and (Jv (ha Ho s B H Q I h) λc E e=>?_);cases c with
 |true=>exact isTrue_and_nil e
 |false=>exact e
def LU(ha:PT X a tA):PW X (.BoolOp .Or [a] pos) tA:=by
 intro D Ho s B H Q I h;refine isTrue_or (Jv (ha Ho s B H Q I h) λc E e=>?_);cases c with
 |false=>exact isTrue_or_nil e
 |true=>exact e
def J2(ha:PT X a tA)(G:PW X (.BoolOp .And (b::rest) pos) vC):PW X (.BoolOp .And (a::b::rest) pos) (wb tA vC):=by
 intro J Ho s B H Q I h;refine isTrue_and (Jv (ha Ho s B H _ I h) λc L ⟨D,E,F⟩=>?_);cases c with
 |true=>exact G J Ho L B D Q E F
 |false=>exact⟨D,E,F⟩
def Mg(ha:PT X a tA)(G:PW X (.BoolOp .Or (b::rest) pos) vC):PW X (.BoolOp .Or (a::b::rest) pos) (tOr tA vC):=by
 intro J Ho s B H Q I h;refine isTrue_or (Jv (ha Ho s B H _ I h) λc L ⟨D,E,F⟩=>?_);cases c with
 |true=>exact⟨D,E,F⟩
 |false=>exact G J Ho L B D Q E F
def LV(ha:PT X a tA):PT X (.UnaryOp .Not a pos) (wM tA):=by
 intro Ho s B H Q I h;exact isTrue_not (ha Ho s B H (λc D=>Q (!c) D) I h)
noncomputable def rg(ta tb:TE):TE:=λB H Q=>ta B H λx D=>match x with|.bl c=>(if c=AF then tb B D Q else Q (.bl AJ) D)|_=>False
noncomputable def wK(ta tb:TE):TE:=λB H Q=>ta B H λx D=>match x with|.bl c=>(if c=AF then Q (.bl AF) D else tb B D Q)|_=>False
noncomputable def AA4(ta:TE):TE:=λB H Q=>ta B H λx D=>match x with|.bl c=>Q (.bl (!c)) D|_=>False
def MI(h:PE X a t):PE X (.BoolOp E [a] pos) t:=λHo s B H Q I D=>BoolOp_one (h Ho s B H Q I D)
def RJ(ha:PE X a ta)(G:PE X (.BoolOp .And (b::rest) pos) tb):PE X (.BoolOp .And (a::b::rest) pos) (rg ta tb):=by
 intro Ho s D H Q I h;refine BoolOp_and (Jv (ha Ho s D H _ I h) λv J ⟨x,E,F,L,B⟩=>?_);obtain⟨c,rfl,B⟩:=mB B;cases L;refine B5 ?_
 cases c with
 |true=>exact G Ho J D E Q F B
 |false=>exact⟨.bl AJ,E,F,rfl,B⟩
def QZ(ha:PE X a ta)(G:PE X (.BoolOp .Or (b::rest) pos) tb):PE X (.BoolOp .Or (a::b::rest) pos) (wK ta tb):=by
 intro Ho s D H Q I h;refine BoolOp_or (Jv (ha Ho s D H _ I h) λv J ⟨x,E,F,L,B⟩=>?_);obtain⟨c,rfl,B⟩:=mB B;cases L;refine B5 ?_
 cases c with
 |false=>exact G Ho J D E Q F B
 |true=>exact⟨.bl AF,E,F,rfl,B⟩
noncomputable def tIf(t:TT)(ta tb:TE):TE:=λB H Q=>t B H λc D=>if c=AF then ta B D Q else tb B D Q
def NC(J:PT X c tA)(ha:PE X a ta)(L:PE X b tb):PE X (.IfExp c a b pos) (tIf tA ta tb):=by
 intro Ho s B H Q I h;refine wpAny_IfExp (Jv (J Ho s B H _ I h) λd D ⟨E,F,G⟩=>?_);cases d with
 |true=>exact ha Ho D B E Q F G
 |false=>exact L Ho D B E Q F G
end
noncomputable def Ip(K:PySem.W.Frag)(H:Hp)(a:AK)(xs:List V):Prop:=
 Rd H a (.lst xs)∨
  ∃(o:Obj)(B:Array Value)(n:Nat),K.lookup a=U o/\o.cls=.type "list"/\o.dict=AB/\o.data=.seq B n/\B.size<=Ac/\IM xs B.toList
noncomputable def NR(K:PySem.W.Frag)(H:Hp)(a:AK)(xs:List V):Prop:=
 Rd H a (.tup xs)∨
  ∃(o:Obj)(B:Array Value)(n:Nat),K.lookup a=U o/\o.cls=.type "tuple"/\o.data=.seq B n/\B.size<=Ac/\IM xs B.toList
noncomputable def z9:Value->Option V
 |.none=>U .Jm
 |.bool b=>U (.bl b)
 |.int i _=>U (.int i)
 |.str x _=>U (.str x)
 |.bytes b _=>U (.Yf b)
 |.float b _=>U (.m8 b)
 |.ref a=>U (.ref a)
 |.type n=>U (.ty n)
 |_=>AB
def IU.abs(r:IU x u):z9 u=U x:=by
 cases x with
 |Jm=>cases r;rfl
 |bl _=>cases r;rfl
 |int _=>obtain⟨t,rfl⟩:=r;rfl
 |str _=>obtain⟨t,rfl⟩:=r;rfl
 |Yf _=>obtain⟨t,rfl⟩:=r;rfl
 |m8 _=>obtain⟨t,rfl⟩:=r;rfl
 |ref _=>cases r;rfl
 |ty _=>cases r;rfl
def IU.inj(r:IU x u)(q:IU y u):x=y:=BU (r.abs.symm.trans q.abs)
theorem IM.inj: ∀{xs B:List V}{us:List Value},IM xs us->IM B us->xs=B
 |_,_,_,.nil,.nil=>rfl
 |_,_,_,.cons r t,.cons D t'=>by rw[r.inj D,IM.inj t t']
section
variable{X:Cx}{Ho:List (AK×Obj)}{σ:St}{H:Hp}{s:AZ}{a:AK}{xs ys:List V}
def Ip.of{K:PySem.W.Frag}(h:H a=U (.lst xs)):Ip K H a xs:=.inl (.inl h)
def NR.of{K:PySem.W.Frag}(h:H a=U (.tup xs)):NR K H a xs:=.inl (.inl h)
def Hs.list(I:Hs X Ho σ H s)(h:Ip X.K H a xs): ∃B:List Value,IM xs B/\PlainL s.heap a B.toArray/\xs.length<=Ac:=by
 obtain h|⟨o,B,n,D,E,hd,hs,F,r⟩:=h
 .obtain⟨z,B,n,r,e⟩:=h.ok I.JM;exact⟨B,r,⟨_,n,e,rfl,rfl,rfl⟩,z⟩
 refine⟨B.toList,r,⟨o,n,I.Pu a o D,E,hd,by simpa using hs⟩,?_⟩;have e:=r.length;simp only[Ew]at e
 lia
def Hs.tuple(I:Hs X Ho σ H s)(h:NR X.K H a xs): ∃B:List Value,IM xs B/\IsTup s.heap a B.toArray/\xs.length<=Ac:=by
 obtain h|⟨o,B,n,D,E,hs,F,r⟩:=h
 .obtain⟨z,B,r,p⟩:=h.ok I.JM;exact⟨B,r,p,z⟩
 refine⟨B.toList,r,⟨o,I.Pu a o D,E,n,by simpa using hs⟩,?_⟩;have e:=r.length;simp only[Ew]at e
 lia
def Hs.Tj(I:Hs X Ho σ H s)(h:Ip X.K H a xs)(h':Ip X.K H a ys):xs=ys:=by
 obtain⟨B,r,⟨o,n,e,_,_,d⟩,_⟩:=I.list h;obtain⟨its',E,⟨G,J,D,_,_,d'⟩,_⟩:=I.list h';show 6 e D;rw[d]at d';injection d' with F _
 have:B=its':=by simpa using congrArg Gu F
 subst this;exact r.inj E
def Hs.bh(I:Hs X Ho σ H s)(h:NR X.K H a xs)(h':NR X.K H a ys):xs=ys:=by
 obtain⟨B,r,⟨o,e,_,n,d⟩,_⟩:=I.tuple h;obtain⟨its',E,⟨G,D,_,J,d'⟩,_⟩:=I.tuple h';show 6 e D;rw[d]at d';injection d' with F _
 have:B=its':=by simpa using congrArg Gu F
 subst this;exact r.inj E
end
noncomputable abbrev Cx.WB(X:Cx)(E:Value->AZ->Prop):Cx:={X with xe:=E}
noncomputable abbrev Cx.nox(X:Cx):Cx:=X.WB λz z=>False
theorem Cx.Ok.WB{X:Cx}(ok:X.Ok)(E:Value->AZ->Prop):(X.WB E).Ok:=
 ⟨ok.mod,ok.kind,ok.glob,ok.blt,ok.above,ok.inj,ok.has,ok.qT,ok.hd,ok.frames,ok.mH,ok.rD,ok.bs,ok.eO,ok.ZW,ok.Zi,ok.QE,ok.dG⟩
def Cx.Ok.Y4{X:Cx}(ok:(X.WB E).Ok):X.Ok:=
 ⟨ok.mod,ok.kind,ok.glob,ok.blt,ok.above,ok.inj,ok.has,ok.qT,ok.hd,ok.frames,ok.mH,ok.rD,ok.bs,ok.eO,ok.ZW,ok.Zi,ok.QE,ok.dG⟩
section
variable{X:Cx}{Ho:List (AK×Obj)}{σ:St}{H:Hp}{s:AZ}{E:Value->AZ->Prop}
theorem Hs.WB(I:Hs X Ho σ H s)(E:Value->AZ->Prop):Hs (X.WB E) Ho σ H s:=⟨I.ok.WB E,I.os,I.bare,I.base,I.loc,I.cell,I.free,I.MR,I.pin,I.JM,I.len⟩
theorem Hs.Y4(I:Hs (X.WB E) Ho σ H s):Hs X Ho σ H s:=⟨I.ok.Y4,I.os,I.bare,I.base,I.loc,I.cell,I.free,I.MR,I.pin,I.JM,I.len⟩
end
section
variable{X:Cx}{st:DW}{rest:List DW}{t u:TS}{e:Expr}{te:TE}{pos:Pos}
noncomputable def rX:TS:=λD B H=>D.nx B H
noncomputable def rV(t u:TS):TS:=λD B H=>t {D with nx:=u D} B H
def IC:eP X [] rX:=λz z B H z I h=>Ek ⟨B,H,I,h⟩
set_option tactic.hygienic true
def Gy(E:PS X st t)(F:eP X rest u):eP X (st::rest) (rV t u):=by
 intro Ho s G H D I h;refine FP (Jv (E Ho s G H {D with nx:=u D} I h) λf J q=>?_);cases f with
 |next=>
  obtain⟨B,L,M,q⟩:=q;exact F Ho J B L D M q
 |ret v=>exact q
 |brk=>exact q
 |cont=>exact q
def Hm(B:PS X st t):eP X [st] t:=by
 intro Ho s E H D I h;refine FP (Jv (B Ho s E H D I h) λf F q=>?_);cases f with
 |next=>exact Ek q
 |ret v=>exact q
 |brk=>exact q
 |cont=>exact q
def Hs.quiet{B:St}(I:Hs X Ho B H s):interactive X.env=AJ:=by simp[interactive,I.ok.kind]
noncomputable def rZ(te:TE):TS:=λD B H=>te B H λz E=>D.nx B E
def IK(E:PE X e te)(hs:autoParam (swapsWith e AB pos.line X.env=pure AJ) KJ):PS X (.Expr e pos) (rZ te):=by
 intro Ho s B H D I h;exact wpAny_Expr_any (Jv (E Ho s B H _ I h) λv L ⟨x,F,G,M,J⟩=>⟨B,F,G,J⟩) I.quiet hs
noncomputable def jj(te:TE):TS:=λD B H=>te B H D.rt
def Hy(E:PE X e te):PS X (.Return (U e) pos) (jj te):=by
 intro Ho s B H D I h;exact Ge (Jv (E Ho s B H _ I h) λv M ⟨x,F,G,J,L⟩=>⟨x,B,F,G,J,L⟩)
noncomputable def AA3:TS:=λD z H=>D.rt .Jm H
noncomputable def wO(c:TT)(t u:TS):TS:=λD B H=>c B H λb E=>if b=AF then t D B E else u D B E
def IS(L:PT X c M)(ha:eP X a t)(O:eP X b u):PS X (.If c a b pos) (wO M t u):=by
 intro Ho s B H D I h;refine wpAny_If (Jv (L Ho s B H _ I h) λd E ⟨F,G,J⟩=>?_);cases d with
 |true=>exact ha Ho E B F D G J
 |false=>exact O Ho E B F D G J
end
abbrev TG:=V->St->Hp->(St->Hp->Prop)->Prop
abbrev ub:=List V->St->Hp->(St->Hp->Prop)->Prop
noncomputable def PG(X:Cx)(target:Expr)(t:TG):Prop:=
 ∀(Ho:List (AK×Obj))(s:AZ)(D:St)(H:Hp)(v:V)(u:Value)(Q:St->Hp->Prop),Hs X Ho D H s->IU v u->t v D H Q→
  Ar (Ay X.prog X.w) X.A (assign target X.env u) (λz s'=> ∃B E,Hs X Ho B E s'/\Q B E) X.xe s
noncomputable def wB(X:Cx)(F:List Expr)(t:ub):Prop:=
 ∀(Ho:List (AK×Obj))(s:AZ)(D:St)(H:Hp)(vs:List V)(us:List Value)(Q:St->Hp->Prop),Hs X Ho D H s->IM vs us->t vs D H Q→
  Ar (Ay X.prog X.w) X.A (assignInOrder ((assignEach F X.env).map (·.2)) us) (λz s'=> ∃B E,Hs X Ho B E s'/\Q B E) X.xe s
abbrev TIp:=V->V->Hp->VK->Prop
noncomputable def PIp(X:Cx)(D:Operator)(t:TIp):Prop:=
 ∀(Ho:List (AK×Obj))(s:AZ)(B:St)(H:Hp)(x y:V)(v u:Value)(Q:VK),Hs X Ho B H s->IU x v->IU y u->t x y H Q→
  Ar (Ay X.prog X.w) X.A (inplaceOp D v u) (EP X Ho B Q) X.xe s
section
variable{X:Cx}{pos:Pos}
noncomputable def UG(i:Nat):TG:=λv B H Q=>Q (B.set i (U v)) H
def JO(B:X.N.Nodup)(D:X.N[i]? =U x)(hx:Loc X.env.scope x)(E:autoParam (X.fn x=AF\/X.env.scope.names.lookup x=U .local) jI):PG X (.Name x pos) (UG i):=by
 intro Ho s G H v u Q I r h;exact Gb (Su I B D hx r (λs' F=>⟨_,H,F,h⟩) E)
noncomputable def qA:ub:=λvs B H Q=>match vs with|[]=>Q B H|_=>False
noncomputable def a9(t:TG)(u:ub):ub:=λvs D H Q=>match vs with|v::r=>(t v D H λB E=>u r B E Q)|_=>False
def SN:wB X [] qA:=by
 intro Ho s B H vs us Q I r h;obtain⟨e,h⟩:=mN h;subst e;cases r;exact assignInOrder_nil ⟨B,H,I,h⟩
def Ls(E:PG X e t)(F:wB X B u)(hs:autoParam ((assignEach (e::B) X.env).map (·.2)=assign e X.env::(assignEach B X.env).map (·.2)) KJ):wB X (e::B) (a9 t u):=by
 intro Ho s G H vs us Q I r h;obtain⟨v,vr,e1,h⟩:=mC h;subst e1;cases r with
 |cons r J=>
  rw[hs];refine assignInOrder_cons (Jv (E Ho s G H _ _ _ I r h) λ_ L ⟨D,M,O,S⟩=>?_);exact F Ho L D M _ _ Q O J S
noncomputable def uG(K:PySem.W.Frag)(n:Nat)(t:ub):TG:=λv B H Q=> ∃a xs,v=.ref a/\NR K H a xs/\xs.length=n/\t xs B H Q
def WY(J:X.calm=AF)(h:wB X B t)(hn:autoParam ((assignEach B X.env).length=n) KJ)(D:autoParam ((assignEach B X.env).findIdx? (·.1)=AB) KJ):PG X (.Tuple B k pos) (uG X.K n t):=by
 intro Ho s F H v u Q I r E;obtain⟨a,xs,e1,L,M,E⟩:=E;subst e1;cases r;obtain⟨O,G,S,Z⟩:=I.tuple L;refine assign_Tuple_tuple (I.ok.hd J) S (by simp[hn,<-M,G.length]) D λh' hx=>?_;have Y:Hs X Ho F H {s with heap:=h'}:=I.kept (t':=s.toks) λb o e=>hx b o (BH (Aj e)) e;exact h Ho _ F H xs _ Q Y (!8 G) E
noncomputable def rd(E:TE)(g:TG):TS:=λD B H=>E B H λx F=>g x B F D.nx
def IA(B:PE X e E)(F:autoParam (X.N.Nodup) uy)(G:autoParam (X.N[i]? =U x) eD)(hx:autoParam (Loc X.env.scope x) ux)(hs:autoParam (swapsWith e (U (.Name x pos')) pos.line X.env=pure AJ) KJ)(J:autoParam (X.fn x=AF\/X.env.scope.names.lookup x=U .local) jI):
  PS X (.Assign [.Name x pos'] e pos) (rd E (UG i)):=by
 intro Ho s L H D I h;refine wpAny_Assign_Name (Jv (B Ho s L H _ I h) λv s1 ⟨y,M,O,S,Y⟩=>?_) hs;exact Su O F G hx S (λs2 Z=>⟨_,M,Z,Y⟩) J
noncomputable def wZ(i:Nat)(E:TE)(F:TIp):TS:=λD B H=>match B[i]? with|some (U x)=>(E B H λy G=>F x y G λz H2=>D.nx (B.set i (U z)) H2)|_=>False
def WX(S:X.N.Nodup)(L:X.N[i]? =U x)(hx:Loc X.env.scope x)(Y:PE X e Z)(ho:PIp X M ti)(hf:autoParam (X.fn x=AF\/X.env.scope.names.lookup x=U .local) jI):
  PS X (.AugAssign (.Name x pos') M e pos) (wZ i Z ti):=by
 intro Ho s O H D I h;obtain⟨v,e1,h⟩:=mV h;obtain⟨m,hn,hl⟩:=I.loc;have J:rH X.env.scope x:=by obtain k|k:=hx;exact .inl k;exact .inr (.inl k)
 obtain⟨u,r,l⟩:=hl i x v L e1 J;refine wpAny_AugAssign_Name ?_
 have go:Ar (Ay X.prog X.w) X.A (eval e X.env) (λw F=>Ar (Ay X.prog X.w) X.A (inplaceOp M u w) (λr G=>Ar (Ay X.prog X.w) X.A (storeName X.env x r) (λt=>SP X Ho D .next) X.xe G) X.xe F) X.xe s:=by
  refine Jv (Y Ho s O H _ I h) λw s1 ⟨y,H1,I1,r1,q1⟩=>?_;refine Jv (ho Ho s1 O H1 v y u w _ I1 r r1 q1) λz s2 ⟨zv,H2,I2,r2,q2⟩=>?_;exact Su I2 S L hx r2 (λs3 I3=>⟨_,H2,I3,q2⟩) hf
 obtain⟨B,hm⟩|⟨B,c,hc,E⟩:=l
 .exact Fz I.ok.kind B hn hm go
 obtain B|B:=B
 .exact F9 I.ok.kind B hc E go
 obtain k|k:=hx
 .have:X.env.scope.names.lookup x=U .free:=B;show 6 k this
 have:X.env.scope.names.lookup x=U .free:=B;show 6 k this
noncomputable def ipI(f:Int->Int->Int):TIp:=λx y H Q=>match x with|.int i=>(match y with|.int j=>Q (.int (f i j)) H|_=>False)|_=>False
def Zd:PIp X .Add (ipI λi j=>i+j):=by
 intro Ho s E H x y v u Q I B D h;obtain⟨i,j,e1,e2,q⟩:=qu h;subst e1;subst e2;obtain⟨t,rfl⟩:=B;obtain⟨t',rfl⟩:=D;exact iadd_int ⟨.int _,H,I.tok _,⟨_,rfl⟩,q⟩
def pK:PIp X .Sub (ipI λi j=>i-j):=by
 intro Ho s E H x y v u Q I B D h;obtain⟨i,j,e1,e2,q⟩:=qu h;subst e1;subst e2;obtain⟨t,rfl⟩:=B;obtain⟨t',rfl⟩:=D;exact isub_int ⟨.int _,H,I.tok _,⟨_,rfl⟩,q⟩
def nj(c:TT)(J:TS):TS:=λD B H=> ∃W:Nat->St->Hp->Prop,(∃m,W m B H)/\ ∀m B H,W m B H→
 c B H λb F=>if b=AF then∃N:St->Hp->Prop,(∀E G,N E G-> ∃I,I<m/\W I E G)/\J {D with nx:=N,ct:=N,bk:=D.nx} B F else D.nx B F
set_option tactic.hygienic true
def JS(Y:PassesOwn (Ay X.prog X.w) X.A X.env X.xe)(hc:PT X c tc)(hb:eP X body tb):PS X (.While c body [] pos) (nj tc tb):=by
 intro Ho s σ H D I h;obtain⟨W,⟨m0,w0⟩,turn⟩:=h;refine wpAny_While (codeAny_whileLoop (λn s'=> ∃F Z,Hs X Ho F Z s'/\W n F Z) ?_ m0 ⟨σ,H,I,w0⟩);rintro n s1 ⟨E,H1,I1,w1⟩;refine Co Y (Jv (hc Ho s1 E H1 _ I1 (turn n E H1 w1)) λb s2 ⟨H2,I2,G⟩=>?_);cases b with
 |true=>
  obtain⟨N,hN,G⟩:=G;rw[AI rfl];refine Co Y (Jv (hb Ho s2 E H2 _ I2 G) λf s3 J=>?_);cases f with
  |next=>
   obtain⟨B,H3,L,M⟩:=J;obtain⟨O,hm,S⟩:=hN B H3 M;exact⟨O,hm,B,H3,L,S⟩
  |cont=>
   obtain⟨B,H3,L,M⟩:=J;obtain⟨O,hm,S⟩:=hN B H3 M;exact⟨O,hm,B,H3,L,S⟩
  |brk=>exact J
  |ret v=>exact J
 |false=>
  rw[AD AH];exact Ek ⟨E,H2,I2,G⟩
end
structure It where
 go:Nat->Hp->Prop
 eE:Nat->Hp->V->Hp->Prop
 stop:Nat->Hp->Prop
noncomputable def Rc(X:Cx)(Ho:List (AK×Obj))(H:Hp)(b:AK):Prop:=
 H b=AB/\b≠X.env.locals/\b∉X.fs/\(b∈X.ex\/X.VZ.heap.objs.size<=b)/\(∀x c,X.env.cells.lookup x=U c->c≠b)/\ ∀p∈X.pn++Ho,p.1≠b
def Hs.W2{D:St}{b:AK}(I:Hs X Ho D H s)(B:s.heap.objs.size<=b)(hn:E b=AB):Rc X Ho E b:=by
 refine⟨hn,Cu (A0 I.lt B),I.xf B,.inr (Aa I.sz B),λx c e z=>?_,λp F z=>?_⟩
 .obtain⟨v,q⟩:=I.cell x c e;exact absurd (A0 q.lt (by rw[z];exact B)) (CQ _)
 exact absurd (A0 (Aj (I.pin p F).1) (by rw[z];exact B)) (CQ _)
structure Turn(P:BB)(w:BJ)(K:PySem.W.Frag)(tg:Expr)(J:It)(fp:List AK)(it:AK)(tn:Nat->Heap->Prop):Prop where
 mem:it∈fp
 obj: ∀i h,tn i h-> ∀b∈fp,∃o,h.get? b=U o/\ ∀v,o.data≠ .cell v
 keep: ∀i h h',tn i h->(∀b∈fp,∀o,h.get? b=U o->h'.get? b=U o)->tn i h'
 item: ∀(X:Cx),X.prog=P->X.w=w->X.K=K->X.calm=AF-> ∀(i:Nat)(Ho:List (AK×Obj))(s:AZ)(σ:St)(H:Hp)(E:Value->AZ->Prop),Hs X Ho σ H s->(∀b∈fp,Rc X Ho H b)->tn i s.heap->J.go i H→
  Ar (Ay P w) X.A (pyNext (.ref it)) (λr s1=> ∃u,r=U u∧
   Ar (Ay P w) X.A (letOwnedTupleGo tg (.ref it) u) (λz s2=> ∃x H',Hs X Ho σ H' s2/\IU x u/\J.eE i H x H'/\tn (i+1) s2.heap/\ ∀b∈fp,H' b=AB) E s1) E s
 done: ∀(X:Cx),X.prog=P->X.w=w->X.K=K->X.calm=AF-> ∀(i:Nat)(Ho:List (AK×Obj))(s:AZ)(σ:St)(H:Hp)(E:Value->AZ->Prop),Hs X Ho σ H s->(∀b∈fp,Rc X Ho H b)->tn i s.heap->J.stop i H→
  Ar (Ay P w) X.A (pyNext (.ref it)) (λr s1=>r=AB/\Hs X Ho σ H s1) E s
 self: ∀(A:CA)(i:Nat)(s:AZ)(Q:Value->AZ->Prop)(E:Value->AZ->Prop),tn i s.heap->Q (.ref it) s->Ar (Ay P w) A (pyIter (.ref it)) Q E s
abbrev TI:=St->Hp->(It->Hp->Prop)->Prop
noncomputable def PIE(X:Cx)(Ho:List (AK×Obj))(I:St)(L:Expr)(R:It->Hp->Prop)(B:Value)(E:AZ):Prop:=
 ∃(F:AK)(fp:List AK)(G:Nat->Heap->Prop)(J:It)(D:Hp),B=.ref F/\Hs X Ho I D E/\Turn X.prog X.w X.K L J fp F G/\G 0 E.heap/\(∀b∈fp,Rc X Ho D b)/\R J D
noncomputable def PI(X:Cx)(D iter:Expr)(wi:TI):Prop:=
 ∀(Ho:List (AK×Obj))(s:AZ)(B:St)(H:Hp)(R:It->Hp->Prop),Hs X Ho B H s->wi B H R→
  Ar (Ay X.prog X.w) X.A (eval iter X.env) (λv E=>Ar (Ay X.prog X.w) X.A (pyIter v) (PIE X Ho B D R) X.xe E) X.xe s
def a7(D:s.heap.get? F=U o)(G:o.cls=.type n)(hd:o.data=.fields vs)(hn:["enumerate","zip","dict_itemiterator","dict_reverseitemiterator","odict_iterator","itertools.zip_longest","itertools.pairwise"].contains n=AJ)(B:Q () s):Ar M A (letOwnedTupleGo I (.ref F) u) Q E s:=by
 unfold letOwnedTupleGo
 cases I<;>first
  |exact Ab B
  |(cases u<;>first
    |exact Ab B
    |(refine AL (wpAny_load D ?_)
      rw[G,hd]
      show Ar M A (if(["enumerate","zip","dict_itemiterator","dict_reverseitemiterator","odict_iterator","itertools.zip_longest","itertools.pairwise"].contains n&&vs[0]? ==U (rawInt _))=AF then _ else _) Q E s
      rw[AD (by intro h;rw[hn,Be]at h;cases h)]
      exact Ab B))
noncomputable def l6(K:PySem.W.Frag)(a:AK):It:=
 ⟨λi H=> ∃xs x,Ip K H a xs/\xs[i]? =U x,λi H x B=>B=H/\ ∀xs,Ip K H a xs->xs[i]? =U x,λi H=> ∃xs,Ip K H a xs/\xs.length<=i⟩
noncomputable def ly(K:PySem.W.Frag)(a:AK):It:=
 ⟨λi H=> ∃xs x,NR K H a xs/\xs[i]? =U x,λi H x B=>B=H/\ ∀xs,NR K H a xs->xs[i]? =U x,λi H=> ∃xs,NR K H a xs/\xs.length<=i⟩
noncomputable def rL(lo:Int)(n:Nat):It:=⟨λi z=>i<n,λi H x B=>B=H/\x=.int (lo+i),λi z=>n<=i⟩
theorem VQ{K:PySem.W.Frag}(a it:AK):Turn P w K tg (l6 K a) [it] it (λi h=>h.IsListIter it a i)where
 mem:=!2
 obj:=λi h st b hb=>by
  have e:b=it:=by simpa using hb
  subst e;obtain⟨o,e,c,d⟩:=st;exact⟨o,e,λv z=>by rw[d]at z;cases z⟩
 keep:=λi h h' st k=>st.at λo e=>k it (!2) o e
 item:=by
  intro X hP hw hK hc i Ho s σ H E I hf st hg;subst hP hw hK;obtain⟨xs,x,hq,hx⟩:=hg;obtain⟨Vk,rv,p,hz⟩:=I.list hq;obtain⟨u,hu,ru⟩:=rv.get hx;obtain⟨f0,f1,f2,f3,f4,f5⟩:=hf it (!2);refine wpAny_pyNext_list_item st p.isList (x:=u) (!8 hu) λh' fB sb=>?_;have I1:Hs X Ho σ H {s with heap:=h'}:=I.turned (t':=s.toks) (λb o hb e=>(sb.2 b hb).trans e) f0 f1 f3 f4 f5;obtain⟨o,e,c,d⟩:=id fB;exact⟨u,rfl,a7 (s:={s with heap:=h'}) e c d (!1) ⟨x,H,I1,ru,⟨rfl,λys hy=>by rw[I.Tj hy hq];exact hx⟩,fB,λb hb=>(hf b hb).1⟩⟩
 done:=by
  intro X hP hw hK hc i Ho s σ H E I hf st hg;subst hP hw hK;obtain⟨xs,hq,hx⟩:=hg;obtain⟨Vk,rv,p,hz⟩:=I.list hq;obtain⟨f0,f1,f2,f3,f4,f5⟩:=hf it (!2);have hl:=rv.length;exact wpAny_pyNext_list_end (I.ok.hd hc) st p.isList (by simp;lia) λh' eb=>⟨rfl,I.turned (t':=s.toks) (λb o hb e=>eb b o hb e) f0 f1 f3 f4 f5⟩
 self:=λy y y y y st h=>wpAny_pyIter_listiter st h
theorem Ss{K:PySem.W.Frag}(a it:AK):Turn P w K tg (ly K a) [it] it (λi h=>h.IsTupleIter it a i)where
 mem:=!2
 obj:=λi h st b hb=>by
  have e:b=it:=by simpa using hb
  subst e;obtain⟨o,e,c,d⟩:=st;exact⟨o,e,λv z=>by rw[d]at z;cases z⟩
 keep:=λi h h' st k=>st.at λo e=>k it (!2) o e
 item:=by
  intro X hP hw hK hc i Ho s σ H E I hf st hg;subst hP hw hK;obtain⟨xs,x,hq,hx⟩:=hg;obtain⟨Vk,rv,p,hz⟩:=I.tuple hq;obtain⟨u,hu,ru⟩:=rv.get hx;obtain⟨f0,f1,f2,f3,f4,f5⟩:=hf it (!2);refine wpAny_pyNext_tuple_item st (show s.heap.IsTuple a Vk.toArray from p) (x:=u) (!8 hu) λh' fB sb=>?_;have I1:Hs X Ho σ H {s with heap:=h'}:=I.turned (t':=s.toks) (λb o hb e=>(sb.2 b hb).trans e) f0 f1 f3 f4 f5;obtain⟨o,e,c,d⟩:=id fB;exact⟨u,rfl,a7 (s:={s with heap:=h'}) e c d (!1) ⟨x,H,I1,ru,⟨rfl,λys hy=>by rw[I.bh hy hq];exact hx⟩,fB,λb hb=>(hf b hb).1⟩⟩
 done:=by
  intro X hP hw hK hc i Ho s σ H E I hf st hg;subst hP hw hK;obtain⟨xs,hq,hx⟩:=hg;obtain⟨Vk,rv,p,hz⟩:=I.tuple hq;obtain⟨f0,f1,f2,f3,f4,f5⟩:=hf it (!2);have hl:=rv.length;exact wpAny_pyNext_tuple_end (I.ok.hd hc) st (show s.heap.IsTuple a Vk.toArray from p) (by simp;lia) λh' eb=>⟨rfl,I.turned (t':=s.toks) (λb o hb e=>eb b o hb e) f0 f1 f3 f4 f5⟩
 self:=λy y y y y st h=>wpAny_pyIter_tupleiter st h
theorem Y6{K:PySem.W.Frag}(it:AK)(lo:Int)(n:Nat):Turn P w K tg (rL lo n) [it] it (λi h=>IsRangeIter h it (lo+(i:Nat)*1) ((n:Int)-(i:Nat)) 1)where
 mem:=!2
 obj:=λi h st b hb=>by
  have e:b=it:=by simpa using hb
  subst e;exact⟨_,st,λv z=>by
   have z':Data.fields _=Data.cell v:=z;cases z'⟩
 keep:=λi h h' st k=>k it (!2) _ st
 item:=by
  intro X hP hw hK hc i Ho s σ H E I hf st hg;subst hP hw hK;obtain⟨f0,f1,f2,f3,f4,f5⟩:=hf it (!2);have W:=Walks.range (prog:=X.prog) (w:=X.w) (I.ok.hd hc) it lo 1 n;refine W.item i s _ _ hg st λv h' tk hv fB kk=>?_;obtain⟨t,rfl⟩:=hv;have I1:Hs X Ho σ H {s with heap:=h',toks:=tk}:=I.turned (λb o hb e=>kk b o (!8 hb) e) f0 f1 f3 f4 f5;refine⟨_,rfl,a7 (s:={s with heap:=h',toks:=tk}) (n:="range_iterator") fB rfl rfl (!1) ⟨.int (lo+i),H,I1,⟨t,?_⟩,⟨rfl,rfl⟩,fB,λb hb=>(hf b hb).1⟩⟩;rw[Int.mul_one]
 done:=by
  intro X hP hw hK hc i Ho s σ H E I hf st hg;subst hP hw hK;obtain⟨f0,f1,f2,f3,f4,f5⟩:=hf it (!2);exact wpAny_pyNext_range_end (I.ok.hd hc) st (by have:n<=i:=hg;lia) λh' eb=>⟨rfl,I.turned (t':=s.toks) (λb o hb e=>eb b o hb e) f0 f1 f3 f4 f5⟩
 self:=λy y y y y st h=>wpAny_pyIter_rangeiter st h
section
variable{X:Cx}{tg:Expr}
def sh(K:PySem.W.Frag)(tl:TE):TI:=λD H R=>tl D H λx B=>match x with|.ref a=>((∃xs,Ip K B a xs)/\R (l6 K a) B)|_=>False
def xt(K:PySem.W.Frag)(tl:TE):TI:=λD H R=>tl D H λx B=>match x with|.ref a=>((∃xs,NR K B a xs)/\R (ly K a) B)|_=>False
def L7(E:PE X l tl):PI X tg l (sh X.K tl):=by
 intro Ho s F H R I h;refine Jv (E Ho s F H _ I h) λv B ⟨x,G,D,J,L⟩=>?_;obtain⟨a,e,⟨xs,M⟩,q⟩:=mR L;subst e;cases J;obtain⟨O,Y,p,Z⟩:=D.list M;refine D4 p.isList ?_
 refine⟨B.heap.objs.size,[B.heap.objs.size],_,_,G,rfl,D.kept (t':=B.toks) λb o e=>Heap.get?_push_of_some _ e,VQ a _,⟨_,Heap.get?_push_size _ rfl,rfl,rfl⟩,λb S=>?_,q⟩;have e:b=B.heap.objs.size:=by simpa using S
 subst e;exact D.W2 (AR _) (D.JM.fresh (AR _))
def ZP(F:PE X l tl):PI X tg l (xt X.K tl):=by
 intro Ho s G H R I h;refine Jv (F Ho s G H _ I h) λv B ⟨x,J,D,L,M⟩=>?_;obtain⟨a,e,⟨xs,O⟩,q⟩:=mR M;subst e;cases L;obtain⟨E,Y,p,Z⟩:=D.tuple O;refine GK (show B.heap.IsTuple a E.toArray from p) ?_
 refine⟨B.heap.objs.size,[B.heap.objs.size],_,_,J,rfl,D.kept (t':=B.toks) λb o e=>Heap.get?_push_of_some _ e,Ss a _,⟨_,Heap.get?_push_size _ rfl,rfl,rfl⟩,λb S=>?_,q⟩;have e:b=B.heap.objs.size:=by simpa using S
 subst e;exact D.W2 (AR _) (D.JM.fresh (AR _))
def fY{D:St}{lo:Int}(I:Hs X Ho D H s)(G: -(2^62)<=lo)(J:lo<2^62)(L: -(2^62)<=B)(M:B<2^62)(q:R (rL lo (B-lo).toNat) H):Ar (Ay X.prog X.w) X.A (pyIter (.ref s.heap.objs.size)) (PIE X Ho D tg R) E {s with heap:=s.heap.push {cls:=.type "range",data:=.fields #[.int lo t,.int B u,.int 1 v]},toks:=tk}:=by
 refine wpAny_pyIter_range (IsRange.new ..) (small_one G J L M) ?_
 have F:Hs X Ho D H {s with heap:=s.heap.push {cls:=.type "range",data:=.fields #[.int lo t,.int B u,.int 1 v]},toks:=tk}:=I.kept λb o e=>Heap.get?_push_of_some _ e;refine⟨(s.heap.push {cls:=.type "range",data:=.fields #[.int lo t,.int B u,.int 1 v]}).objs.size,[(s.heap.push {cls:=.type "range",data:=.fields #[.int lo t,.int B u,.int 1 v]}).objs.size],_,_,H,rfl,
  F.kept (t':=tk) λb o e=>Heap.get?_push_of_some _ e,Y6 _ lo (B-lo).toNat,?_,λb O=>?_,q⟩
 .have e1:lo+((0:Nat):Int)*1=lo:=!2
  have e2:(((B-lo).toNat:Nat):Int)-((0:Nat):Int)=AAG lo B 1:=by rw[rangeSize_one];split<;>lia
  show IsRangeIter _ _ (lo+((0:Nat):Int)*1) ((((B-lo).toNat:Nat):Int)-((0:Nat):Int)) 1;rw[e1,e2];exact Heap.get?_push_size _ rfl
 have e:b=(s.heap.push {cls:=.type "range",data:=.fields #[.int lo t,.int B u,.int 1 v]}).objs.size:=by simpa using O
 subst e;exact F.W2 (AR _) (F.JM.fresh (AR _))
def se(ta:TA):TI:=λB H R=>ta B H λvs D=> ∃j:Int,vs=[.int j]/\ -(2^62)<=j/\j<2^62/\R (rL 0 j.toNat) D
def cD(D:Gl X "range")(hm:X.mg "range"=AB)(ha:PA X [a] ta)(hs:autoParam (BC [a] X.env=[(AJ,eval a X.env)]) KJ):PI X tg (.Call (.Name "range" p) [a] [] pos) (se ta):=by
 intro Ho s E H R I h;refine Call_ (Od I D hm boot_range (Bv (Jv (ha pos Ho s E H _ I h) λus M ⟨vs,O,F,G,B⟩=>?_) hs rfl));obtain⟨j,e,B,J,q⟩:=B;subst e;cases G with
 |cons r L=>
  cases L;obtain⟨t,rfl⟩:=r;exact call_range_1 (fY F (!3) (!3) B J (!8 q))
def wQ(wi:TI)(g:TG)(L:TS):TS:=λD B H=>wi B H λJ M=> ∃W:Nat->Nat->St->Hp->Prop,(∃m,W 0 m B M)/\ ∀i m B H,W i m B H→
 (J.stop i H/\D.nx B H)\/(J.go i H/\ ∃N:St->Hp->Prop,(∀E F,N E F-> ∃I,I<m/\W (i+1) I E F)/\ ∀x F,J.eE i H x F->g x B F λG H2=>L {D with nx:=N,ct:=N,bk:=D.nx} G H2)
noncomputable def TV(fp:List AK)(h:Heap):List (AK×Obj):=fp.filterMap λb=>(h.get? b).map λo=>(b,o)
def QB(B:b∈fp)(e:h.get? b=U o):(b,o)∈TV fp h:=E8.mpr ⟨b,B,by rw[e];rfl⟩
def cP(B:p∈TV fp h):p.1∈fp/\h.get? p.1=U p.2:=by
 obtain⟨b,D,e⟩:=E8.mp B;cases q:h.get? b with
 |none=>show 6 q e
 |some o=>
  rw[q]at e;have E:(b,o)=p:=BU e;subst E;exact⟨D,q⟩
def Hs.pinned{B:St}(I:Hs X Ho B H s)(F: ∀b∈fp,Rc X Ho H b)(G: ∀b∈fp,∃o,s.heap.get? b=U o/\ ∀v,o.data≠ .cell v):Hs X (Ho++TV fp s.heap) B H s:=
 I.aK λp J=>(AQ.mp J).elim (λz=>I.pin p (Bi _ z)) λz=>by
  obtain⟨D,e⟩:=cP z;obtain⟨L,M,O,_⟩:=F p.1 D;obtain⟨o,E,d⟩:=G p.1 D;show 6 e E;exact⟨e,L,M,O,d⟩
def Hs.QO{B:St}(I:Hs X (Ho++pl) B H s):Hs X Ho B H s:=I.aK λp D=>I.pin p (Bi _ (Bl _ D))
set_option tactic.hygienic true
def LG(hp:PassesOwn (Ay X.prog X.w) X.A X.env X.xe)(hc:X.calm=AF)(hi:PI X tg iter wi)(hg:PG X tg g)(E:eP X body tb)(hs:autoParam (∀x,foldedSetIterable iter X.env x=pure x) l9):PS X (.For tg iter body [] pos) (wQ wi g tb):=by
 intro Ho s σ H D I h;refine wpAny_For (Jv (hi Ho s σ H _ I h) λv s1 h1=>Jv h1 λitv s2 h2=>?_) hs;obtain⟨it,fp,tn,J,H2,e,I2,T,vE,f2,W,⟨m0,w0⟩,turn⟩:=h2;subst e;have F: ∀{S:Hp},(∀b∈fp,S b=AB)-> ∀b∈fp,Rc X Ho S b:=λhn b E=>⟨hn b E,(f2 b E).2⟩;refine codeAny_forLoop_any (λn s'=> ∃i G S,Hs X Ho G S s'/\tn i s'.heap/\(∀b∈fp,S b=AB)/\W i n G S) ?_ m0 ⟨0,σ,H2,I2,vE,λb E=>(f2 b E).1,w0⟩
 rintro n s3 ⟨i,L,H3,I3,vD,qE,w3⟩;obtain⟨stop,qn⟩|⟨go,N,hN,step⟩:=turn i n L H3 w3
 .refine Co hp (Jv (T.done X rfl rfl rfl hc i Ho s3 L H3 X.xe I3 (F qE) vD stop) λr s4 ⟨hr,I4⟩=>?_);subst hr;exact Ek ⟨L,H3,I4,qn⟩
 refine Co hp (Jv (T.item X rfl rfl rfl hc i Ho s3 L H3 X.xe I3 (F qE) vD go) λr s4 ⟨u,hr,h4⟩=>?_);subst hr;refine Co hp (Jv h4 λ_ s5 ⟨x,H5,I5,r5,y5,Z,fr5⟩=>?_);have I5':=I5.pinned (F fr5) (T.obj _ _ Z);refine Co hp (Jv (hg _ s5 L H5 x u _ I5' r5 (step x H5 y5)) λ_ s6 ⟨σ6,H6,I6,q6⟩=>?_);refine Co hp (Jv (E _ s6 σ6 H6 _ I6 q6) λf s7 Y=>?_);have again: ∀{B:St}{M:Hp},Hs X (Ho++TV fp s5.heap) B M s7->N B M-> ∃m,m<n/\ ∃i G S,Hs X Ho G S s7/\tn i s7.heap/\(∀b∈fp,S b=AB)/\W i m G S:=λ{B M} O n7=>by
  obtain⟨m',hm,w7⟩:=hN B M n7;refine⟨m',hm,i+1,B,M,O.QO,T.keep _ _ _ Z λb E o e=>(O.pin (b,o) (Bi _ (Bi _ (QB E e)))).1,λb E=>?_,w7⟩;obtain⟨o,e,d⟩:=T.obj _ _ Z b E;exact(O.pin (b,o) (Bi _ (Bi _ (QB E e)))).2.1
 cases f with
 |next=>obtain⟨B,M,O,n7⟩:=Y;exact again O n7
 |cont=>obtain⟨B,M,O,n7⟩:=Y;exact again O n7
 |brk=>obtain⟨B,M,O,Y⟩:=Y;exact⟨B,M,O.QO,Y⟩
 |ret v=>obtain⟨x7,B,M,O,r7,Y⟩:=Y;exact⟨x7,B,M,O.QO,r7,Y⟩
end
def dJ{lo:Int}{g:TG}{L:TS}{D:Ends}(E:Nat->St->Hp->Prop)(O:E 0 B H)(hs: ∀i B H,i<n->E i B H->g (.int (lo+i)) B H λF H2=>L {D with nx:=E (i+1),ct:=E (i+1),bk:=D.nx} F H2)(hd: ∀B H,E n B H->D.nx B H):
  ∃W:Nat->Nat->St->Hp->Prop,(∃m,W 0 m B H)/\ ∀i m B H,W i m B H→
   ((rL lo n).stop i H/\D.nx B H)\/((rL lo n).go i H/\ ∃N:St->Hp->Prop,(∀G I,N G I-> ∃M,M<m/\W (i+1) M G I)/\ ∀x I,(rL lo n).eE i H x I->g x B I λF H2=>L {D with nx:=N,ct:=N,bk:=D.nx} F H2):=by
 refine⟨λi m B H=>m=n-i/\i<=n/\E i B H,⟨n,!2,Ax _,O⟩,?_⟩;rintro i m B H ⟨rfl,Y,p⟩;by_cases J:i<n
 .refine .inr ⟨J,E (i+1),λG I S=>⟨n-(i+1),!3,rfl,J,S⟩,λx I y=>?_⟩;obtain⟨e,y⟩:=y;subst e y;exact hs i B _ J p
 have e:i=n:=!3
 subst e;exact .inl ⟨AR _,hd B H p⟩
abbrev R2:=V->V->Hp->VK->Prop
noncomputable def P0(X:Cx)(f:Value->Value->Sem Value)(r:R2):Prop:=
 ∀(Ho:List (AK×Obj))(s:AZ)(B:St)(H:Hp)(x y:V)(v u:Value)(Q:VK),Hs X Ho B H s->IU x v->IU y u->r x y H Q→
  Ar (Ay X.prog X.w) X.A (f v u) (EP X Ho B Q) X.xe s
noncomputable def UnR(X:Cx)(f:Value->Sem Value)(r:V->Hp->VK->Prop):Prop:=
 ∀(Ho:List (AK×Obj))(s:AZ)(B:St)(H:Hp)(x:V)(v:Value)(Q:VK),Hs X Ho B H s->IU x v->r x H Q→
  Ar (Ay X.prog X.w) X.A (f v) (EP X Ho B Q) X.xe s
noncomputable def O3(X:Cx)(f:Value)(r:List V->Hp->VK->Prop):Prop:=
 ∀(Ho:List (AK×Obj))(s:AZ)(B:St)(H:Hp)(xs:List V)(us:List Value)(Q:VK),Hs X Ho B H s->IM xs us->r xs H Q→
  Ar (Ay X.prog X.w) X.A (call f us) (EP X Ho B Q) X.xe s
noncomputable def vA(r:R2)(ta D:TE):TE:=λB H Q=>ta B H λx E=>D B E λy H2=>r x y H2 Q
noncomputable def u9(r:V->Hp->VK->Prop)(ta:TE):TE:=λB H Q=>ta B H λx D=>r x D Q
noncomputable def rI(C:Int->Int->Prop)(g:Int->Int->V):R2:=λx y H Q=>match x with|.int i=>(match y with|.int j=>C i j/\Q (g i j) H|_=>False)|_=>False
noncomputable def mU(g:Int->Int->V):R2:=λx y H Q=>match x with|.int i=>(match y with|.int j=>Q (g i j) H|_=>False)|_=>False
noncomputable def rU(g:Int->V):V->Hp->VK->Prop:=λx H Q=>match x with|.int i=>Q (g i) H|_=>False
section
variable{X:Cx}{a b c:Expr}{ta tb tc:TE}{pos:Pos}
def qV(ha:PE X a ta)(J:PE X b tb){B:St}{R:V->V->Hp->Prop}(I:Hs X Ho B H s)(h:ta B H λx G=>tb B G λy H2=>R x y H2){f:Value->Value->Sem Value}(L: ∀v u F x y H2,Hs X Ho B H2 F->IU x v->IU y u->R x y H2->Ar (Ay X.prog X.w) X.A (f v u) Q X.xe F):
  Ar (Ay X.prog X.w) X.A (eval a X.env) (λv D=>Ar (Ay X.prog X.w) X.A (eval b X.env) (λu E=>Ar (Ay X.prog X.w) X.A (f v u) Q X.xe E) X.xe D) X.xe s:=by
 refine Jv (ha Ho s B H _ I h) λv M ⟨x,G,O,S,Y⟩=>?_;refine Jv (J Ho M B G _ O Y) λu F ⟨y,H2,Z,r2,q2⟩=>?_;exact L v u F x y H2 Z S r2 q2
def Ij(B:P0 X (binaryOp D) r)(ha:PE X a ta)(E:PE X b tb):PE X (.BinOp a D b pos) (vA r ta tb):=by
 intro Ho s F H Q I h;exact wpAny_BinOp (qV ha E I h λv u G x y H2 J L M q=>B Ho G F H2 x y v u Q J L M q)
def Kr(D:UnR X (unaryOp E) r)(ha:PE X a ta):PE X (.UnaryOp E a pos) (u9 r ta):=by
 intro Ho s B H Q I h;exact UnaryOp_ (Jv (ha Ho s B H _ I h) λv F ⟨x,G,J,L,M⟩=>D Ho F B G x v Q J L M)
def xX{g:Int->Int->Int}(rule: ∀(i j:Int)(t u:Tok)(s:AZ)(Q:Value->AZ->Prop)(E:Value->AZ->Prop),C i j->Q (.int (g i j) s.toks) {s with toks:=s.toks+1}->Ar (Ay X.prog X.w) X.A (f (.int i t) (.int j u)) Q E s):
  P0 X f (rI C λi j=>.int (g i j)):=by
 intro Ho s G H x y v u Q I B D h;obtain⟨i,j,rfl,rfl,F,q⟩:=qu h;obtain⟨t,rfl⟩:=B;obtain⟨t',rfl⟩:=D;exact rule i j t t' s _ _ F ⟨.int (g i j),H,I.tok _,⟨_,rfl⟩,q⟩
def sG{g:Int->Int->Int}(rule: ∀(i j:Int)(t u:Tok)(s:AZ)(Q:Value->AZ->Prop)(E:Value->AZ->Prop),Q (.int (g i j) s.toks) {s with toks:=s.toks+1}->Ar (Ay X.prog X.w) X.A (f (.int i t) (.int j u)) Q E s):
  P0 X f (mU λi j=>.int (g i j)):=by
 intro Ho s F H x y v u Q I B D h;obtain⟨i,j,rfl,rfl,q⟩:=qu h;obtain⟨t,rfl⟩:=B;obtain⟨t',rfl⟩:=D;exact rule i j t t' s _ _ ⟨.int (g i j),H,I.tok _,⟨_,rfl⟩,q⟩
def kS{g:Int->Int->Bool}(rule: ∀(i j:Int)(t u:Tok)(s:AZ)(Q:Value->AZ->Prop)(E:Value->AZ->Prop),Q (.bool (g i j)) s->Ar (Ay X.prog X.w) X.A (f (.int i t) (.int j u)) Q E s):
  P0 X f (mU λi j=>.bl (g i j)):=by
 intro Ho s F H x y v u Q I B D h;obtain⟨i,j,rfl,rfl,q⟩:=qu h;obtain⟨t,rfl⟩:=B;obtain⟨t',rfl⟩:=D;exact rule i j t t' s _ _ ⟨.bl (g i j),H,I,rfl,q⟩
noncomputable def AAz(i j:Int):Prop:=0<j/\j<1073741824
noncomputable def l8(i j:Int):Prop:=(-(2^64)<i/\i<2^64)\/(-(2^64)<j/\j<2^64)
def l8.ok(h:l8 i j):IntMulOk i j:=by
 obtain⟨B,D⟩|⟨B,D⟩:=h
 .exact .of_left (Hi B D)
 exact .of_right (Hi B D)
def KA:P0 X (binaryOp .Add) (mU λi j=>.int (i+j)):=sG λz z z z z z z q=>add_int q
def MM:P0 X (binaryOp .Sub) (mU λi j=>.int (i-j)):=sG λz z z z z z z q=>sub_int q
def We:P0 X (binaryOp .Mult) (rI l8 λi j=>.int (i*j)):=xX λz z z z z z z B q=>mul_int q B.ok
def PK:P0 X (binaryOp .FloorDiv) (rI AAz λi j=>.int (i/j)):=xX λi j z z z z z B q=>by
 have D:(0:Int)<j:=B.1;have E:j<1073741824:=B.2;exact floordiv_int (!4) (by rw[Int.fdiv_eq_ediv_of_nonneg i (!4)];exact q) (.inl (PyProof.noPylong_small (!4)))
def OW:P0 X (binaryOp .Mod) (rI (λz j=>0<j) λi j=>.int (i%j)):=xX λi j z z z z z B q=>by
 have D:(0:Int)<j:=B;exact mod_int' (!3) (by rw[Int.fmod_eq_emod_of_nonneg i (!3)];exact q)
def unI{g:Int->Int}(rule: ∀(i:Int)(t:Tok)(s:AZ)(Q:Value->AZ->Prop)(E:Value->AZ->Prop),Q (.int (g i) s.toks) {s with toks:=s.toks+1}->Ar (Ay X.prog X.w) X.A (f (.int i t)) Q E s):
  UnR X f (rU λi=>.int (g i)):=by
 intro Ho s D H x v Q I B h;obtain⟨i,rfl,q⟩:=mI h;obtain⟨t,rfl⟩:=B;exact rule i t s _ _ ⟨.int (g i),H,I.tok _,⟨_,rfl⟩,q⟩
def J9:UnR X (unaryOp .USub) (rU λi=>.int (-i)):=unI λz z z z z q=>neg_int q
end
noncomputable def b8:V->V->Bool
 |.Jm,.Jm=>AF|.Jm,.int _=>AF|.int _,.Jm=>AF|.Jm,.bl _=>AF|.bl _,.Jm=>AF|.Jm,.str _=>AF|.str _,.Jm=>AF
 |.int _,.int _=>AF|.bl _,.bl _=>AF|.str _,.str _=>AF|.Yf _,.Yf _=>AF
 |.int _,.str _=>AF|.str _,.int _=>AF|.bl _,.str _=>AF|.str _,.bl _=>AF
 |_,_=>AJ
def xM:R2:=λx y H Q=>b8 x y=AF/\Q (.bl (decide (x=y))) H
def xG:R2:=λx y H Q=>b8 x y=AF/\Q (.bl (!decide (x=y))) H
def bK:decide (V.int i=V.int j)=(i==j):=by
 rw[A9];simp
def ia:decide (V.bl i=V.bl j)=(i==j):=by
 rw[A9];simp
def bJ:decide (V.str i=V.str j)=(i==j):=by
 rw[A9];simp
def bL:decide (V.Yf i=V.Yf j)=(i.toList==j.toList):=by
 rw[A9];cases i;cases j;simp
section
variable{X:Cx}{a b c:Expr}{ta tb tc:TE}{pos:Pos}
def JK{B:St}(I:Hs X Ho B H s)(q:Q (.bl k) H)(e:k=D):EP X Ho B Q (.bool D) s:=by
 subst e;exact⟨.bl k,H,I,rfl,q⟩
def og:P0 X (Bm .Eq) xM:=by
 intro Ho s E H x y v u Q I D B h;obtain⟨hs,q⟩:=h;cases x with
 |Jm=>
  cases D;cases y with
  |Jm=>cases B;exact PySem.EqNone.eq_none_none (JK I q (!2))
  |bl j=>cases B;exact PySem.EqNone.eq_none_bool (JK I q (!2))
  |int j=>obtain⟨t',rfl⟩:=B;exact PySem.EqNone.eq_none_int (JK I q (!2))
  |str j=>obtain⟨t',rfl⟩:=B;exact PySem.EqNone.eq_none_str (JK I q (!2))
  |_=>exact absurd (show AJ=AF from hs) AH
 |bl i=>
  cases D;cases y with
  |Jm=>cases B;exact PySem.EqNone.eq_bool_none (JK I q (!2))
  |bl j=>cases B;exact eq_bool (JK I q ia)
  |str j=>obtain⟨t',rfl⟩:=B;exact PySem.EqMixed.eq_bool_str (JK I q (!2))
  |_=>exact absurd (show AJ=AF from hs) AH
 |int i=>
  obtain⟨t,rfl⟩:=D;cases y with
  |Jm=>cases B;exact PySem.EqNone.eq_int_none (JK I q (!2))
  |int j=>obtain⟨t',rfl⟩:=B;exact eq_int (JK I q bK)
  |str j=>obtain⟨t',rfl⟩:=B;exact PySem.EqMixed.eq_int_str (JK I q (!2))
  |_=>exact absurd (show AJ=AF from hs) AH
 |str i=>
  obtain⟨t,rfl⟩:=D;cases y with
  |Jm=>cases B;exact PySem.EqNone.eq_str_none (JK I q (!2))
  |bl j=>cases B;exact PySem.EqMixed.eq_str_bool (JK I q (!2))
  |int j=>obtain⟨t',rfl⟩:=B;exact PySem.EqMixed.eq_str_int (JK I q (!2))
  |str j=>obtain⟨t',rfl⟩:=B;exact eq_str (JK I q bJ)
  |_=>exact absurd (show AJ=AF from hs) AH
 |Yf i=>
  obtain⟨t,rfl⟩:=D;cases y with
  |Yf j=>obtain⟨t',rfl⟩:=B;exact PySem.W.eq_bytes (JK I q bL)
  |_=>exact absurd (show AJ=AF from hs) AH
 |_=>cases y<;>exact absurd (show AJ=AF from hs) AH
def oZ:P0 X (Bm .NotEq) xG:=by
 intro Ho s E H x y v u Q I D B h;obtain⟨hs,q⟩:=h;cases x with
 |Jm=>
  cases D;cases y with
  |Jm=>cases B;exact PySem.EqNone.ne_none_none (JK I q (!2))
  |bl j=>cases B;exact PySem.EqNone.ne_none_bool (JK I q (!2))
  |int j=>obtain⟨t',rfl⟩:=B;exact PySem.EqNone.ne_none_int (JK I q (!2))
  |str j=>obtain⟨t',rfl⟩:=B;exact PySem.EqNone.ne_none_str (JK I q (!2))
  |_=>exact absurd (show AJ=AF from hs) AH
 |bl i=>
  cases D;cases y with
  |Jm=>cases B;exact PySem.EqNone.ne_bool_none (JK I q (!2))
  |bl j=>cases B;exact ne_bool (JK I q (congrArg not ia))
  |str j=>obtain⟨t',rfl⟩:=B;exact PySem.EqMixed.ne_bool_str (JK I q (!2))
  |_=>exact absurd (show AJ=AF from hs) AH
 |int i=>
  obtain⟨t,rfl⟩:=D;cases y with
  |Jm=>cases B;exact PySem.EqNone.ne_int_none (JK I q (!2))
  |int j=>obtain⟨t',rfl⟩:=B;exact ne_int (JK I q (congrArg not bK))
  |str j=>obtain⟨t',rfl⟩:=B;exact PySem.EqMixed.ne_int_str (JK I q (!2))
  |_=>exact absurd (show AJ=AF from hs) AH
 |str i=>
  obtain⟨t,rfl⟩:=D;cases y with
  |Jm=>cases B;exact PySem.EqNone.ne_str_none (JK I q (!2))
  |bl j=>cases B;exact PySem.EqMixed.ne_str_bool (JK I q (!2))
  |int j=>obtain⟨t',rfl⟩:=B;exact PySem.EqMixed.ne_str_int (JK I q (!2))
  |str j=>obtain⟨t',rfl⟩:=B;exact ne_str (JK I q (congrArg not bJ))
  |_=>exact absurd (show AJ=AF from hs) AH
 |Yf i=>
  obtain⟨t,rfl⟩:=D;cases y with
  |Yf j=>obtain⟨t',rfl⟩:=B;exact PySem.W.ne_bytes (JK I q (congrArg not bL))
  |_=>exact absurd (show AJ=AF from hs) AH
 |_=>cases y<;>exact absurd (show AJ=AF from hs) AH
def uO:V->V->Option Bool
 |.int i,.int j=>U (decide (i=j))
 |.str i,.str j=>U (decide (i=j))
 |x,y=>if b8 x y=AF then U (decide (x=y))else AB
def rEq:R2:=λx y H Q=>match uO x y with|some b=>Q (.bl b) H|none=>False
def rNe:R2:=λx y H Q=>match uO x y with|some b=>Q (.bl (!b)) H|none=>False
set_option tactic.hygienic true
def iQ{x y:V}{P:Bool->Prop}(h:match uO x y with|some b=>P b|none=>False):b8 x y=AF/\P (decide (x=y)):=by
 have k: ∀o,uO x y=U o->b8 x y=AF/\o=decide (x=y):=λo e=>by
  unfold uO at e;split at e
  .cases e;refine⟨rfl,?_⟩;rw[A9];simp
  .cases e;refine⟨rfl,?_⟩;rw[A9];simp
  split at e
  .rename_i z;cases e;exact⟨z,rfl⟩
  cases e
 split at h
 .rename_i b e;obtain⟨k1,k2⟩:=k b e;subst k2;exact⟨k1,h⟩
 exact h.elim
set_option tactic.hygienic false
def JB:P0 X (Bm .Eq) rEq:=by
 intro Ho s B H x y v u Q I D E h;exact og Ho s B H x y v u Q I D E (iQ h)
def L0:P0 X (Bm .NotEq) rNe:=by
 intro Ho s B H x y v u Q I D E h;exact oZ Ho s B H x y v u Q I D E (iQ (P:=λb=>Q (.bl (!b)) H) h)
def Kt:P0 X (Bm .Lt) (mU λi j=>.bl (decide (i<j))):=kS λz z z z z z z q=>lt_int q
def J6:P0 X (Bm .LtE) (mU λi j=>.bl (decide (i<=j))):=kS λz z z z z z z q=>le_int q
def L1:P0 X (Bm .Gt) (mU λi j=>.bl (decide (j<i))):=kS λz z z z z z z q=>gt_int q
def md:P0 X (Bm .GtE) (mU λi j=>.bl (decide (j<=i))):=kS λz z z z z z z q=>ge_int q
def xc(b:Expr)(h:autoParam (B≠ .In) Li)(D:autoParam (B≠ .NotIn) Li):behindInMarks B b=AJ:=gJ b h D
def KD(D:P0 X (Bm B) r)(ha:PE X a ta)(E:PE X b tb)(hm:autoParam (behindInMarks B b=AJ) ur):PE X (.Compare a [B] [b] pos) (vA r ta tb):=by
 intro Ho s F H Q I h;exact wpAny_Compare1 (qV ha E I h λv u G x y H2 J L M q=>D Ho G F H2 x y v u Q J L M q) hm
noncomputable def mF(t:TE):TT:=λB H Q=>t B H λx D=>match x with|.bl k=>Q k D|_=>False
def IB(F:P0 X (Bm E) r)(ha:PE X a ta)(G:PE X b tb)(hm:autoParam (behindInMarks E b=AJ) ur):PT X (.Compare a [E] [b] pos) (mF (vA r ta tb)):=by
 intro Ho s B H Q I h;refine Ft (Jv (ha Ho s B H _ I h) λv J ⟨x,L,M,O,S⟩=>Jv (G Ho J B L _ M S) λu Y ⟨y,H2,Z,r2,q2⟩=>
  Jv (F Ho Y B H2 x y v u _ Z O r2 q2) λc s3 ⟨z,H3,I3,r3,D⟩=>?_) hm
 obtain⟨k,e,D⟩:=mB D;subst e;cases r3;exact B5 ⟨H3,I3,D⟩
noncomputable def ew(r D:R2)(ta tb tc:TE):TE:=λB H Q=>ta B H λx E=>tb B E λy H2=>r x y H2 λz H3=>match z with|.bl k=>(if k=AF then tc B H3 λF G=>D y F G Q else Q (.bl AJ) H3)|_=>False
def Ks(M:P0 X (Bm G) r)(F:P0 X (Bm B) O)(ha:PE X a ta)(S:PE X b tb)(Y:PE X c tc)(hm:autoParam (lastMarks [G,B] [b,c]=AJ) uq):PE X (.Compare a [G,B] [b,c] pos) (ew r O ta tb tc):=by
 intro Ho s D H Q I h;refine Compare_chain (Jv (ha Ho s D H _ I h) λv Z ⟨x,H1,I1,r1,q1⟩=>chain_link (Jv (S Ho Z D H1 _ I1 q1) λu s2 ⟨y,H2,I2,J,q2⟩=>
  Jv (M Ho s2 D H2 x y v u _ I2 r1 J q2) λd s3 ⟨z,H3,L,r3,E⟩=>?_)) hm
 obtain⟨k,e,E⟩:=mB E;subst e;cases r3;refine B5 ?_
 cases k with
 |false=>exact ite_ff ⟨.bl AJ,H3,L,rfl,E⟩
 |true=>exact ite_tt (chain_last (Jv (Y Ho s3 D H3 _ L E) λw' s4 ⟨z',H4,I4,r4,q4⟩=>F Ho s4 D H4 y z' u w' Q I4 J r4 q4))
def MH(S:P0 X (Bm G) r)(E:P0 X (Bm B) Y)(ha:PE X a ta)(Z:PE X b tb)(hc:PE X c tc)(hm:autoParam (lastMarks [G,B] [b,c]=AJ) uq):PT X (.Compare a [G,B] [b,c] pos) (mF (ew r Y ta tb tc)):=by
 intro Ho s D H Q I h;refine isTrue_chain (Jv (ha Ho s D H _ I h) λv s1 ⟨x,H1,I1,r1,q1⟩=>test_link (Jv (Z Ho s1 D H1 _ I1 q1) λu s2 ⟨y,H2,I2,J,q2⟩=>
  Jv (S Ho s2 D H2 x y v u _ I2 r1 J q2) λd s3 ⟨z,H3,L,r3,M⟩=>?_)) hm
 obtain⟨k,e,O⟩:=mB M;clear M;subst e;cases r3;refine B5 ?_
 cases k with
 |false=>
  exact ite_ff ⟨H3,L,O⟩
 |true=>
  refine ite_tt (test_last (Jv (hc Ho s3 D H3 _ L O) λw' s4 ⟨z',H4,I4,r4,q4⟩=>Jv (E Ho s4 D H4 y z' u w' _ I4 J r4 q4) λd' s5 ⟨z2,H5,I5,r5,F⟩=>?_));obtain⟨k2,e2,F⟩:=mB F;subst e2;cases r5;exact B5 ⟨H5,I5,F⟩
def To:(Ac:Nat)<2^63:=by rw[CV];decide
def Ta:P0 X (binaryOp .Add) (λx y H Q=> ∃i j,x=.str i/\y=.str j/\i.length+j.length<=Ac/\Q (.str (i++j)) H):=by
 intro Ho s F H x y v u Q I B D h;obtain⟨i,j,rfl,rfl,E,q⟩:=h;obtain⟨t,rfl⟩:=B;obtain⟨t',rfl⟩:=D;exact add_str (λt' tk=>⟨.str (i++j),H,I.tok _,⟨_,rfl⟩,q⟩) E
def vals1(r:IM [x] us): ∃u,us=[u]/\IU x u:=by
 cases r with
 |cons B D=>cases D;exact⟨_,rfl,B⟩
def vals2(r:IM [x,y] us): ∃u B,us=[u,B]/\IU x u/\IU y B:=by
 cases r with
 |cons D E=>
  cases E with
  |cons F G=>cases G;exact⟨_,_,rfl,D,F⟩
def dY(D:X.calm=AF):O3 X (.builtin "max") (λxs H Q=> ∃i j,xs=[.int i,.int j]/\Q (.int (if j>i then j else i)) H):=by
 intro Ho s E H xs us Q I r h;obtain⟨i,j,rfl,q⟩:=h;obtain⟨u,F,rfl,⟨t,rfl⟩,⟨t',rfl⟩⟩:=vals2 r;refine max_two_ints (I.ok.hd D) λh' tk k=>⟨_,H,I.kept k,?_,q⟩;by_cases B:j>i
 .rw[AI B,AI B];exact⟨_,rfl⟩
 rw[AD B,AD B];exact⟨_,rfl⟩
def XC:O3 X (.type "str") (λxs H Q=> ∃i,xs=[.int i]/\i.natAbs.log2<1920/\Q (.str (toString i)) H):=by
 intro Ho s D H xs us Q I r h;obtain⟨i,rfl,B,q⟩:=h;obtain⟨u,rfl,t,rfl⟩:=vals1 r;exact PySem.P.str_of_int B ⟨.str _,H,I.tok _,⟨_,rfl⟩,q⟩
def Yd:O3 X (.builtin "ord") (λxs H Q=> ∃x,xs=[.str x]/\x.length=1/\Q (.int (x.cps.getD 0 0:Nat)) H):=by
 intro Ho s D H xs us Q I r h;obtain⟨x,rfl,B,q⟩:=h;obtain⟨u,rfl,t,rfl⟩:=vals1 r;exact ord_of_one B ⟨.int _,H,I.tok _,⟨_,rfl⟩,q⟩
end
structure Z3(h:Heap)(x dx C:AK)(mA:Str->Option Value):Prop where
 obj:h.get? x=U (PySem.W.instObj C dx)
 ns:h.Ns1 dx mA
 ne:dx≠x
set_option tactic.hygienic true
def cV{h:Heap}(n:h.Ns1 dx E): ∃od,h.get? dx=U od/\ ∀name,PySem.W.lookIn name od=U (E name):=by
 obtain⟨o,D,L,F,hd,G,_,hm⟩:=n;refine⟨o,F,λname=>?_⟩;have e:=hm name;unfold nsFind findBy at e;rw[<-Array.find?_toList]at e;unfold PySem.W.lookIn;rw[hd];show 4;split
 .rename_i y q;rw[q]at e;exact congrArg U e
 rename_i q;rw[q]at e;have a:D.toList.any (·.refKey)=AJ:=by
  rw[FI];intro y I;obtain⟨z,t,B⟩:=G y (Array.mem_toList_iff.mp I);simp[AAv,B]
 have J: ¬D.toList.any (·.refKey)=AF:=by rw[a];exact AH
 rw[AD J];exact congrArg U e
set_option tactic.hygienic false
def Z3.look(I:Z3 h x dx C B): ∃od,PySem.W.InstAt h x (PySem.W.instObj C dx) C (U od)/\ ∀name,PySem.W.lookIn name od=U (B name):=
 let⟨od,D,E⟩:=cV I.ns
 ⟨od,⟨I.obj,rfl,rfl,D⟩,E⟩
section
variable{prog:BB}{w:BJ}{A:CA}{E:Value->AZ->Prop}{s:AZ}{K:PySem.W.Frag}{x dx C f:AK}{mA:Str->Option Value}{name:Str}{v:Value}
def get_map(X:K.In s.heap)(I:Z3 s.heap x dx C mA)(D:PySem.W.plainGet K C name=AF)(F:PySem.W.hasDictIn K C=AF)(ha:PySem.W.findIn K (.ref C) name=U AB)(G:mA name=U v)(B:PySem.W.handedIn v=AF)(h:Q v {s with toks:=s.toks+1}):
  Ar (Ay prog w) A (getAttr (.ref x) name expr) Q E s:=by
 obtain⟨od,J,L⟩:=I.look;exact PySem.W.get_value X J (PySem.W.plainGet_of D).1 (PySem.W.findObj_own F ha rfl (by rw[L,G])) B h
def iG(X:K.In s.heap)(I:Z3 s.heap x dx C mA)(B:PySem.W.plainGet K C name=AF)(D:PySem.W.findIn K (.ref C) name=U (U (.ref f)))(F:PySem.W.isFn K (.ref f)=AF)(G:mA name=AB)(h:Q (.ref f,[.ref x]) s):
  Ar (Ay prog w) A (getMethod (.ref x) name pl) Q E s:=by
 obtain⟨od,J,L⟩:=I.look;exact PySem.W.method_fn X J (PySem.W.plainGet_of B).1 (PySem.W.plainGet_of B).2 D (BL.mp F) (by show(PySem.W.lookIn name od).map (·.isSome)=U AJ;rw[L,G];rfl) h
def jy(X:K.In s.heap)(I:Z3 s.heap x dx C mA)(hs:PySem.W.findIn K (.ref C) "__setattr__"=U (U (.builtin "object.__setattr__")))(O:PySem.W.plainOver K C=AF)(S:PySem.W.takerIn K C name=U AB)(Y:PySem.W.hasDictIn K C=AF)(Z:PySem.Within mA ns)(hsz:ns.length<=Ac)(h: ∀h',Z3 h' x dx C (λy=>if y=name then U v else mA y)->E2 dx s.heap h'->Q () {s with heap:=h',toks:=s.toks+2}):
  Ar (Ay prog w) A (setAttr (.ref x) name v) Q E s:=by
 obtain⟨od,J,hl⟩:=I.look;refine PySem.W.set_plain X J hs (PySem.W.osa_open (s:={s with toks:=s.toks+1}) (r:=AB) X J O S λb=>?_);obtain⟨cd,hc,F⟩:=PySem.W.any_some Y;have hx:s.heap.get? x=U ⟨.ref C,U dx,.plain,#[]⟩:=I.obj;refine AL (Ab (AL (AL (wpAny_loadPart hx (AL (PySem.W.Looks.here (s:={s with toks:=s.toks+1}) (PySem.W.looks_clsIn X hc) ?_))))));rw[F];refine Ab (a:=U dx) (AL (Ab (AL ?_)));refine wpAny_nsSet1 (s:={s with toks:=s.toks+1}) I.ns λh' B D=>?_;obtain⟨oD,esD,epD,G,L,M⟩:=B.count (PySem.Within.cons name v Z);refine AL (wpAny_lookBehind G (by rw[L];exact pastItsLine_dict (Aa M (by rw[AN];lia))) ?_);exact Ab (h _ ⟨(D.2 _ (Ne.symm I.ne)).trans I.obj,B,I.ne⟩ D)
def gU(X:K.In s.heap)(hm:PySem.W.makesIn K C=AF)(B:PySem.W.findIn K (.ref C) "__init__"=U (U (.ref f)))(D:PySem.W.typeIn K (.ref f)=U (.type "function"))(h:codeAny (Ay prog w) (A.under (.builtin "type.__call__" ⟨.ref C::vs,kw⟩)) (.call (.ref f) ⟨.ref (s.heap.objs.size+1)::vs,kw⟩) (PySem.W.InitBack (s.heap.objs.size+1) R)
   {s with heap:=(s.heap.push PySem.W.emptyDict).push (PySem.W.instObj C s.heap.objs.size)}):
  codeAny (Ay prog w) A (.call (.ref C) ⟨vs,kw⟩) R s:=by
 obtain⟨F,g,d,t,os⟩:=s;exact PySem.W.make_core (PySem.W.makes_of X hm) (PySem.W.looks_findIn X B) (λself=>PySem.W.bind_fn X self D) (.inl rfl) h
end
noncomputable def NA(f:Str)(v:V):List (Str×V)->List (Str×V)
 |[]=>[(f,v)]
 |(g,x)::r=>if g=f then(g,v)::r else(g,x)::NA f v r
theorem Rm(f g:Str)(v:V): ∀fs:List (Str×V),(NA f v fs).lookup g=if g=f then U v else fs.lookup g
 |[]=>by
  show DZ g [(f,v)]=_;by_cases h:g=f
  .have B:(g==f)=AF:=BL.mpr h;simp only[DZ,B,AI h]
  have B:(g==f)=AJ:=C4.mpr h;simp only[DZ,B,AD h]
 |(k,x)::r=>by
  have E:=Rm f g v r;rw[show NA f v ((k,x)::r)=(if k=f then(k,v)::r else(k,x)::NA f v r)from rfl];by_cases D:k=f
  .rw[AI D];by_cases h:g=k
   .have B:(g==k)=AF:=BL.mpr h;simp only[DZ,B,AI (h.trans D)]
   have B:(g==k)=AJ:=C4.mpr h;simp only[DZ,B,AD (λe:g=f=>h (e.trans D.symm))]
  rw[AD D];by_cases h:g=k
  .have B:(g==k)=AF:=BL.mpr h;simp only[DZ,B,AD (λe:g=f=>D (h.symm.trans e))]
  have B:(g==k)=AJ:=C4.mpr h;simp only[DZ,B];exact E
theorem RN(f:Str)(v:V): ∀fs:List (Str×V),f∈(NA f v fs).map (·.1)/\ ∀g,g∈fs.map (·.1)->g∈(NA f v fs).map (·.1)
 |[]=>⟨by simp[NA],λg h=>by simp at h⟩
 |(k,x)::r=>by
  obtain⟨D,E⟩:=RN f v r;rw[show NA f v ((k,x)::r)=(if k=f then(k,v)::r else(k,x)::NA f v r)from rfl];by_cases B:k=f
  .rw[AI B];subst B;exact⟨!2,λg h=>by simpa using h⟩
  rw[AD B];refine⟨?_,λg h=>?_⟩
  .rw[Av];exact Au _ D
  rw[Av]at h⊢;obtain e|e:=AO.mp h
  .exact AO.mpr (.inl e)
  exact Au _ (E g e)
theorem Rp(f:Str)(v:V): ∀fs:List (Str×V),(NA f v fs).length<=fs.length+1
 |[]=>by simp[NA]
 |(k,x)::r=>by
  have D:=Rp f v r;rw[show NA f v ((k,x)::r)=(if k=f then(k,v)::r else(k,x)::NA f v r)from rfl];by_cases B:k=f
  .rw[AI B,AN,AN];lia
  rw[AD B,AN,AN];lia
def O1.some_of(r:O1 (U v) o): ∃u,o=U u/\IU v u:=by
 cases o with
 |none=>exact(show False from r).elim
 |some u=>exact⟨u,rfl,r⟩
def O1.none_of(r:O1 AB o):o=AB:=by
 cases o with
 |none=>rfl
 |some u=>exact(show False from r).elim
def dC(r:IU v u):PySem.W.handedIn u=AF:=by
 cases v with
 |Jm=>cases(show u=DF from r);rfl
 |bl b=>cases(show u=Value.bool b from r);rfl
 |int i=>obtain⟨t,e⟩:=(show∃t,u=Value.int i t from r);cases e;rfl
 |str x=>obtain⟨t,e⟩:=(show∃t,u=Value.str x t from r);cases e;rfl
 |Yf b=>obtain⟨t,e⟩:=(show∃t,u=AAR b t from r);cases e;rfl
 |m8 b=>obtain⟨t,e⟩:=(show∃t,u=G5 b t from r);cases e;rfl
 |ref a=>cases(show u=BF a from r);rfl
 |ty n=>cases(show u=C0 n from r);rfl
section
variable{P:BB}{w:BJ}{H H':Hp}{h h':Heap}{a C dx:AK}{fs fs':List (Str×V)}
def SS(JM:OA P w H h)(e:H a=U (.ins C dx fs)): ∃B,Z3 h a dx C B/\(∀f,O1 (fs.lookup f) (B f))/\PySem.Within B (fs.map (·.1))/\fs.length<=1000/\H dx=U (.own a):=by
 obtain⟨d,z,ne,ob,B,n,r,q⟩:=(show Jp P w H h a (.ins C dx fs)from JM a _ e);exact⟨B,⟨ob,n,ne⟩,r,q,z,d⟩
end
structure Uo(K:PySem.W.Frag)(C:AK):Prop where
 pg:PySem.W.plainGet K C F8=AF
 hd:PySem.W.hasDictIn K C=AF
 po:PySem.W.plainOver K C=AF
 sa:PySem.W.findIn K (.ref C) "__setattr__"=U (U (.builtin "object.__setattr__"))
def Uo.get{K:PySem.W.Frag}(c:Uo K C)(f:Str):PySem.W.plainGet K C f=AF:=c.pg
noncomputable def Jy(K:PySem.W.Frag)(C:AK)(f:Str):Prop:=PySem.W.findIn K (.ref C) f=U AB
def Jy.rS{K:PySem.W.Frag}(n:Jy K C f):PySem.W.takerIn K C f=U AB:=by
 unfold PySem.W.takerIn;rw[show PySem.W.findIn K (.ref C) f=U AB from n];rfl
structure Meth(K:PySem.W.Frag)(C:AK)(m:Str)(f:AK):Prop where
 at_:PySem.W.findIn K (.ref C) m=U (U (.ref f))
 fn:PySem.W.isFn K (.ref f)=AF
 kp:PySem.W.keepIn K (.ref f)=AF
section
variable{X:Cx}{Ho:List (AK×Obj)}{σ:St}{H:Hp}{s:AZ}{a C dx:AK}{fs:List (Str×V)}{f:Str}{v:V}{A:CA}{E:Value->AZ->Prop}
def UE(I:Hs X Ho σ H s)(e:H a=U (.ins C dx fs))(c:Uo X.K C)(n:Jy X.K C f)(l:fs.lookup f=U v)(h: ∀u s',Hs X Ho σ H s'->IU v u->Q u s'):Ar (Ay X.prog X.w) A (getAttr (.ref a) f b) Q E s:=by
 obtain⟨D,O,r,_,_,_⟩:=SS I.JM e;obtain⟨u,F,B⟩:=O1.some_of (v:=v) (o:=D f) (by rw[<-l];exact r f);exact get_map I.Pu O (c.get f) c.hd n F (dC B) (h u _ (I.tok _) B)
def UD(I:Hs X Ho σ H s)(e:H a=U (.ins C dx fs))(c:Uo X.K C)(k:Meth X.K C m g)(l:fs.lookup m=AB)(h:Q (.ref g,[.ref a]) s):Ar (Ay X.prog X.w) A (getMethod (.ref a) m pl) Q E s:=by
 obtain⟨B,O,r,_,_,_⟩:=SS I.JM e;have hn:B m=AB:=O1.none_of (by rw[<-l];exact r m);exact iG I.Pu O (c.get m) k.at_ k.fn hn h
def TH(I:Hs X Ho σ H s)(e:H a=U (.ins C dx fs))(c:Uo X.K C)(n:Jy X.K C f)(Z:fs.length<1000)(G:IU y u)(h: ∀s',Hs X Ho σ (Hu H a (.ins C dx (NA f y fs))) s'->Q () s'):Ar (Ay X.prog X.w) A (setAttr (.ref a) f u) Q E s:=by
 obtain⟨D,O,r,wi,_,F⟩:=SS I.JM e;have J:(fs.map (·.1)).length<=Ac:=by rw[AY,CV];lia
 refine jy I.Pu O c.sa c.po n.rS c.hd wi J λh' B L=>h _ ?_;have hd: ∃o,h'.get? dx=U o:=let⟨o,_,_,M,_⟩:=B.ns;⟨o,M⟩;refine I.write (x:=a) (e:=dx) (by rw[e];exact C1) (.inr F) (λb q S z=>(L.2 b S).trans z) hd ?_
 refine⟨by rw[Hv O.ne];exact F,?_,O.ne,B.obj,_,B.ns,λg=>?_,λg Y=>?_⟩
 .have:=Rp f y fs;lia
 .show O1 ((NA f y fs).lookup g) (if g=f then U u else D g);rw[Rm];by_cases q:g=f
  .rw[AI q,AI q];exact G
  rw[AD q,AD q];exact r g
 by_cases q:g=f
 .rw[q];exact(RN f y fs).1
 refine(RN f y fs).2 g (wi g λz=>Y ?_);show(if g=f then U u else D g)=AB;rw[AD q];exact z
def Hs.made(I:Hs X Ho σ H s):Hs X Ho σ (Hu (Hu H s.heap.objs.size (.own (s.heap.objs.size+1))) (s.heap.objs.size+1) (.ins C s.heap.objs.size []))
  {s with heap:=(s.heap.push PySem.W.emptyDict).push (PySem.W.instObj C s.heap.objs.size)}:=by
 have e1:(s.heap.push PySem.W.emptyDict).get? s.heap.objs.size=U PySem.W.emptyDict:=Heap.get?_push_size s.heap rfl;have e2:((s.heap.push PySem.W.emptyDict).push (PySem.W.instObj C s.heap.objs.size)).get? (s.heap.objs.size+1)=U (PySem.W.instObj C s.heap.objs.size):=by
  have:=Heap.get?_push_size (s.heap.push PySem.W.emptyDict) (o:=PySem.W.instObj C s.heap.objs.size) rfl;rwa[BM]at this
 have e3:(s.heap.push PySem.W.emptyDict).Ns s.heap.objs.size (λz=>AB):=⟨PySem.W.emptyDict,#[],_,e1,rfl,(λe B=>absurd B (!2)),λz=>rfl⟩;have D:=I.laid (a:=s.heap.objs.size) (o:=.own (s.heap.objs.size+1)) (h':=s.heap.push PySem.W.emptyDict) (t':=s.toks) (λb u q=>Heap.get?_push_of_some _ q) (AR _) ⟨_,e1⟩;refine D.laid (a:=s.heap.objs.size+1) (o:=.ins C s.heap.objs.size []) (t':=s.toks) (λb u q=>Heap.get?_push_of_some _ q) (Ez (BM _ _)) ?_
 have ne:s.heap.objs.size≠s.heap.objs.size+1:=BH (B1 _);refine⟨by rw[Hv ne,Hq],Ax _,ne,e2,λz=>AB,(Heap.Ns1.of_empty e3).at λo q=>Heap.get?_push_of_some _ q,λz=>C1,λy F=>absurd rfl F⟩
def lV(D:attributeBase e f env (eval e env)=eval e env)(h:Ar (Ay prog w) A (eval e env) (λo B=>Ar (Ay prog w) A (getAttr o f AF) Q E B) E s):Ar (Ay prog w) A (eval (.Attribute e f pos) env) Q E s:=
 Attribute_any_ h (by rw[arm_eval_Attribute,D])
end
inductive Fd (K:PySem.W.Frag)(H:Hp)(a:AK)(f:Str)(Q:AK->V->Prop):Prop
 |mk (C b:AK)(d:List (Str×V))(e:H a=U (.ins C b d))(c:Uo K C)(n:Jy K C f)(v:V)(l:d.lookup f=U v)(q:Q C v)
inductive FdS (K:PySem.W.Frag)(H:Hp)(a:AK)(f:Str)(Q:AK->AK->List (Str×V)->Prop):Prop
 |mk (C b:AK)(d:List (Str×V))(e:H a=U (.ins C b d))(c:Uo K C)(n:Jy K C f)(l:d.length<1000)(q:Q C b d)
inductive FdP (H:Hp)(a C:AK)(Q:AK->List (Str×V)->Prop):Prop
 |mk (b:AK)(c:List (Str×V))(e:H a=U (.ins C b c))(l:c.length<1000)(q:Q b c)
def uK{K:PySem.W.Frag}(e:H a=U (.ins C dx fs)):Fd K H a f Q=(Uo K C/\Jy K C f/\ ∃v,fs.lookup f=U v/\Q C v):=propext ⟨λ⟨_,_,_,B,c,n,v,l,q⟩=>by show 6 e B;exact⟨c,n,v,l,q⟩,λ⟨c,n,v,l,q⟩=>⟨_,_,_,e,c,n,v,l,q⟩⟩
def qH{K:PySem.W.Frag}(e:H a=U (.ins C dx fs)):FdS K H a f Q=(Uo K C/\Jy K C f/\fs.length<1000/\Q C dx fs):=propext ⟨λ⟨_,_,_,B,c,n,l,q⟩=>by show 6 e B;exact⟨c,n,l,q⟩,λ⟨c,n,l,q⟩=>⟨_,_,_,e,c,n,l,q⟩⟩
def qI(e:H a=U (.ins C dx fs)):FdP H a C Q=(fs.length<1000/\Q dx fs):=propext ⟨λ⟨_,_,B,l,q⟩=>by show 6 e B;exact⟨l,q⟩,λ⟨l,q⟩=>⟨_,_,e,l,q⟩⟩
noncomputable def wU(K:PySem.W.Frag)(ta:TE)(f:Str):TE:=λD H Q=>ta D H λx B=>match x with|.ref a=>Fd K B a f (λz v=>Q v B)|_=>False
def wy(K:PySem.W.Frag)(ta E:TE)(f:Str):TS:=λD B H=>E B H λy F=>ta B F λx H2=>match x with|.ref a=>FdS K H2 a f (λC dx fs=>D.nx B (Hu H2 a (.ins C dx (NA f y fs))))|_=>False
noncomputable def ui(X:Cx)(D:Operator)(E:V->V->Hp->VK->Prop):Prop:=
 ∀(Ho:List (AK×Obj))(s:AZ)(B:St)(H:Hp)(x y:V)(u v:Value)(Q:VK),Hs X Ho B H s->IU x u->IU y v->E x y H Q->Ar (Ay X.prog X.w) X.A (inplaceOp D u v) (EP X Ho B Q) X.xe s
def j0(K:PySem.W.Frag)(ta I:TE)(J:V->V->Hp->VK->Prop)(f:Str):TS:=λD B H=>ta B H λx G=>match x with|.ref a=>Fd K G a f (λC v=>I B G λy H2=>J v y H2 λz H3=>FdP H3 a C λE F=>D.nx B (Hu H3 a (.ins C E (NA f z F))))|_=>False
section
variable{X:Cx}{o e value:Expr}{f:Str}{pos pos' Y7:Pos}{ta tv:TE}
def Ih(B:PE X e ta)(D:attributeBase e f X.env (eval e X.env)=eval e X.env):PE X (.Attribute e f pos) (wU X.K ta f):=by
 intro Ho s E H Q I h;refine lV D (Jv (B Ho s E H _ I h) λu Y ⟨x,F,G,J,L⟩=>?_);obtain⟨a,ex,C,dx,fs,M,c,n,v,l,q⟩:=mR L;subst ex;obtain rfl:u=BF a:=J;exact UE G M c n l λZ s2 O S=>⟨v,F,O,S,q⟩
def Ko(ha:PE X o ta)(E:PE X value tv)(hs:swapsWith value (U (.Attribute o f pos')) pos.line X.env=pure AJ):PS X (.Assign [.Attribute o f pos'] value pos) (wy X.K ta tv f):=by
 intro Ho s B H D I h;refine plainObj_wpAny_Assign_Attribute (Jv (E Ho s B H _ I h) λu F ⟨y,G,J,L,q⟩=>Jv (ha Ho F B G _ J q) λM s2 ⟨x,H2,O,S,Y⟩=>?_) hs;obtain⟨a,ex,C,dx,fs,Z,c,n,l,q2⟩:=mR Y;subst ex;obtain rfl:M=BF a:=S;exact TH O Z c n l L λs3 I3=>⟨B,_,I3,q2⟩
def Ju(ha:PE X o ta)(G:PE X value tv)(E:ui X J L):PS X (.AugAssign (.Attribute o f Y7) J value pos) (j0 X.K ta tv L f):=by
 intro Ho s B H D I h;refine wpAny_AugAssign_AttributeAny (Jv (ha Ho s B H _ I h) λM s1 ⟨x,O,S,Y,Z⟩=>?_);obtain⟨a,ex,C,dx,fs,ea,c,n,v,l,q⟩:=mR Z;subst ex;obtain rfl:M=BF a:=Y;refine UE S ea c n l λu s2 I2 ru=>Jv (G Ho s2 B O _ I2 q) λw3 s3 ⟨y,H2,I3,ry,q3⟩=>Jv (E Ho s3 B H2 v y u w3 _ I3 ru ry q3) λw4 s4 ⟨z,H3,I4,rz,lN,fs',F,l',q4⟩=>?_;exact TH I4 F c n l' rz λs5 I5=>⟨B,_,I5,q4⟩
noncomputable def xP:V->V->Hp->VK->Prop:=λx y H Q=>match x with|.int i=>(match y with|.int j=>Q (.int (i+j)) H|_=>False)|_=>False
noncomputable def AA9:V->V->Hp->VK->Prop:=λx y H Q=>match x with|.int i=>(match y with|.int j=>Q (.int (i-j)) H|_=>False)|_=>False
def La:ui X .Add xP:=by
 rintro Ho s E H x y u v Q I B D h;obtain⟨i,j,rfl,rfl,q⟩:=qu h;obtain⟨t,rfl⟩:=(show∃t,u=Value.int i t from B);obtain⟨t',rfl⟩:=(show∃t',v=Value.int j t' from D);exact AAN ⟨.int (i+j),H,I.tok _,⟨_,rfl⟩,q⟩
end
section
variable{X:Cx}{Ho:List (AK×Obj)}{σ:St}{H:Hp}{s:AZ}{A:CA}{E:Value->AZ->Prop}{Q:Value->AZ->Prop}{c:Value}{b:Bool}
inductive QL (K:PySem.W.Frag)(H:Hp):V->Value->Prop where
 |Jm:QL K H .Jm (.type "NoneType")
 |bl (x:Bool):QL K H (.bl x) (.type "bool")
 |int (i:Int):QL K H (.int i) (.type "int")
 |str (x:Str):QL K H (.str x) (.type "str")
 |m8 (x:UInt64):QL K H (.m8 x) (.type "float")
 |lst {a:AK}{xs:List V}(e:H a=U (.lst xs)):QL K H (.ref a) (.type "list")
 |MZ {a:AK}{o:Obj}{xs:List V}(e:H a=U (.MZ o (.lst xs))):QL K H (.ref a) (.type "list")
 |tup {a:AK}{xs:List V}(e:H a=U (.tup xs)):QL K H (.ref a) (.type "tuple")
 |dK {a:AK}{LZ:List (Key×V)}(e:H a=U (.dK LZ)):QL K H (.ref a) (.type "dict")
 |dT {a:AK}{LZ:List (List Key×V)}(e:H a=U (.dT LZ)):QL K H (.ref a) (.type "dict")
 |ins {a C dx:AK}{fs:List (Str×V)}(e:H a=U (.ins C dx fs))(cl:Uo K C)(ha:PySem.W.findIn K (.ref C) "__class__"=U (U (.builtin "object.__class__")))
  (hn:PySem.W.specialIn K (.builtin "object.__class__") "__get__"=U (U (.builtin "getset_descriptor.__get__")))(Zf:PySem.W.takesIn K (.builtin "object.__class__")=U AF)
  (hm:PySem.W.mroIn K C (.type "object")=U AF):QL K H (.ref a) (.ref C)
def cp(I:Hs X Ho σ H s)(B:IU x u)(ty:QL X.K H x t)(e:PySem.W.kitOne X.K t c=U b)(h: ∀tk,Q (.bool b) {s with toks:=tk}):
  Ar (Ay X.prog X.w) A (call (.builtin "isinstance") [u,c]) Q E s:=by
 cases ty with
 |Jm=>cases(show u=DF from B);exact PySem.W.kia_one PySem.W.kitx_none I.Pu C1 e (λz=>nomatch z) h
 |bl y=>cases(show u=Value.bool y from B);exact PySem.W.kia_one PySem.W.kitx_bool I.Pu C1 e (λz=>nomatch z) h
 |int i=>obtain⟨t,q⟩:=(show∃t,u=Value.int i t from B);cases q;exact PySem.W.kia_one PySem.W.kitx_int I.Pu C1 e (λz=>nomatch z) h
 |str y=>obtain⟨t,q⟩:=(show∃t,u=Value.str y t from B);cases q;exact PySem.W.kia_one PySem.W.kitx_str I.Pu C1 e (λz=>nomatch z) h
 |m8 y=>obtain⟨t,q⟩:=(show∃t,u=G5 y t from B);cases q;exact PySem.W.kia_one PySem.W.kitx_float I.Pu C1 e (λz=>nomatch z) h
 | @lst a xs D=>
  cases(show u=BF a from B);obtain⟨_,_,n,_,F⟩:=(show Jp X.prog X.w H s.heap a (.lst xs)from I.JM a _ D);exact PySem.W.kia_one PySem.W.kitx_list I.Pu ⟨_,F,rfl⟩ e (λz=>nomatch z) h
 | @MZ a ob xs D=>
  cases(show u=BF a from B);obtain⟨_,_,_,n,_,F⟩:=(show Jp X.prog X.w H s.heap a (.MZ ob (.lst xs))from I.JM a _ D);exact PySem.W.kia_one PySem.W.kitx_list I.Pu ⟨_,F,rfl⟩ e (λz=>nomatch z) h
 | @tup a xs D=>
  cases(show u=BF a from B);obtain⟨_,_,_,p⟩:=(show Jp X.prog X.w H s.heap a (.tup xs)from I.JM a _ D);obtain⟨o,F,L,_⟩:=p;exact PySem.W.kia_one PySem.W.kitx_tuple I.Pu ⟨o,F,L⟩ e (λz=>nomatch z) h
 | @dK a G D=>
  cases(show u=BF a from B);obtain⟨_,_,vs,_,p⟩:=(show Jp X.prog X.w H s.heap a (.dK G)from I.JM a _ D);obtain⟨o,M,S,F,L,_⟩:=p;exact PySem.W.kia_one PySem.W.kitx_dict I.Pu ⟨o,F,L.1⟩ e (λz=>nomatch z) h
 | @dT a G D=>
  cases(show u=BF a from B);obtain⟨_,_,xs,_,o,M,S,F,L,_⟩:=(show Jp X.prog X.w H s.heap a (.dT G)from I.JM a _ D);exact PySem.W.kia_one PySem.W.kitx_dict I.Pu ⟨o,F,L.1⟩ e (λz=>nomatch z) h
 | @ins a C dx fs D cl ha hn Zf hm=>
  cases(show u=BF a from B);obtain⟨Y,O,_⟩:=SS I.JM D;obtain⟨od,J,_⟩:=O.look;exact PySem.W.kia_one (PySem.W.kitx_own (cl.get _) cl.hd ha hn Zf hm) I.Pu J e (λz=>nomatch z) h
end
structure Kz(k:Nat)(A:CA):Prop where
 hd:A.handled=AB
 dp:A.depth+3*k+5<recursionLimit
 un:A.units+16*k+200<cLine
def Kz.mono(r:Kz k A)(h:j<=k):Kz j A:=⟨r.hd,by have:=r.dp;lia,by have:=r.un;lia⟩
theorem Kz.deeper(r:Kz (k+1) A)(env:Env):Kz k (A.deeper env):=
 ⟨r.hd,by have:=r.dp;show A.depth+1+3*k+5<_;lia,by have:=r.un;show A.units+3+16*k+200<_;lia⟩
def Za{A:CA}:(A.under (.builtin "type.__call__" ⟨.ref C::us,kw⟩)).depth=A.depth+1:=by
 first|rfl|simp[Gv,Code.weight,Code.isCreation,Code.isGuard,Code.isCaller,AAa,Gq,guardIds]
def ZZ{A:CA}:(A.under (.builtin "type.__call__" ⟨.ref C::us,kw⟩)).units=A.units+1:=by
 first|rfl|simp[Gv,Code.cUnits,AAa,Gq]
def Kz.make(r:Kz (k+1) A)(C:AK)(us:List Value)(kw:List (Str×Value)):Kz k (A.under (.builtin "type.__call__" ⟨.ref C::us,kw⟩)):=
 ⟨r.hd,by have:=r.dp;rw[Za];omega,by have:=r.un;rw[ZZ];omega⟩
theorem Kz.depth(r:Kz k A):A.depth<recursionLimit:=by have:=r.dp;lia
theorem Kz.units(r:Kz k A):A.units+64<cLine:=by have:=r.un;lia
noncomputable def Y9:TA:=λz H Q=>Q [] H
noncomputable def Xe(ta:TE)(D:TA):TA:=λB H Q=>ta B H λx E=>D B E λxs H2=>Q (x::xs) H2
section
variable{X:Cx}{e:Expr}{es:List Expr}{te:TE}{t:TA}{pos:Pos}
def ML:PA X [] Y9:=λz z z z H Q I h=>Gr ⟨[],H,I,.nil,h⟩
def Hz(ha:PE X e te)(hr:PA X es t)(hs:autoParam (BC (e::es) X.env=(AJ,eval e X.env)::BC es X.env) KJ):PA X (e::es) (Xe te t):=by
 intro pos Ho s B H Q I h;rw[hs];show Ar _ _ (spliced ((AJ,eval e X.env)::backTo pos (BC es X.env))) _ _ s;refine GX (Jv (ha Ho s B H _ I h) λu D ⟨x,E,F,G,J⟩=>?_);exact Jv (hr pos Ho D B E _ F J) λus S ⟨xs,H2,L,M,O⟩=>⟨x::xs,H2,L,.cons G M,O⟩
def wJ(t:TA):TE:=λD H Q=>t D H λxs B=>xs.length<=Ac/\ ∀p,B p=AB->Q (.ref p) (Hu B p (.tup xs))
def jl(t:TA):TE:=λD H Q=>t D H λxs B=>xs.length<=Ac/\ ∀p,B p=AB->Q (.ref p) (Hu B p (.lst xs))
def TX(h:PA X es t):PE X (.Tuple es L pos) (wJ t):=by
 intro Ho s F H Q I G;refine wpAny_Tuple_spliced (Jv (h pos Ho s F H _ I G) λus B ⟨xs,D,E,r,z,q⟩=>⟨by rw[<-r.length];exact z,?_⟩);have J:D B.heap.objs.size=AB:=E.JM.fresh (AR _);refine⟨.ref B.heap.objs.size,Hu D B.heap.objs.size (.tup xs),E.laid (t':=B.toks) (λb u e=>Heap.get?_push_of_some _ e) (AR _) ?_,rfl,q _ J⟩;exact⟨z,us,r,⟨_,Heap.get?_push_size _ rfl,rfl,_,rfl⟩⟩
def Ib(h:PA X es t):PE X (.List es pos) (jl t):=by
 intro Ho s F H Q I G;refine wpAny_List_spliced (Jv (h pos Ho s F H _ I G) λus B ⟨xs,D,E,r,z,q⟩=>⟨by rw[<-r.length];exact z,?_⟩);have J:D B.heap.objs.size=AB:=E.JM.fresh (AR _);refine⟨.ref B.heap.objs.size,Hu D B.heap.objs.size (.lst xs),E.laid (t':=B.toks) (λb u e=>Heap.get?_push_of_some _ e) (AR _) ?_,rfl,q _ J⟩;exact⟨z,us,0,r,Heap.get?_push_size _ rfl⟩
end
abbrev Sp:=List V->Hp->VK->XK->Prop
abbrev nR:=List Env->Hp->AZ->XK->Value->AZ->Prop
structure Z6(P:BB)(w:BJ)(K:PySem.W.Frag)(mg:Str->Option Value)(base:Heap)(A:CA)(outer:List Env)(s:AZ)(H:Hp):Prop where
 frames:A.frames=U outer
 mod:Mod K mg base
 bs: ∀b o,base.get? b=U o->s.heap.get? b=U o/\H b=AB
 eO:base.objs.size<=s.heap.objs.size
 QE:s.heap.FunFrames base outer
 dG: ∀b∈OH outer,H b=AB
 JM:OA P w H s.heap
 bare:AllBare s.gens
noncomputable def CE(outer:List Env)(P:BB)(w:BJ)(H:Hp)(s:AZ)(Q:VK)(u:Value)(s':AZ):Prop:=
 ∃v B,s'.os=s.os/\AllBare s'.gens/\Un (OH outer) [] H B s.heap s'.heap/\OA P w B s'.heap/\IU v u/\Q v B
noncomputable def CR(CX:nR)(outer:List Env)(P:BB)(w:BJ)(H:Hp)(s:AZ)(Q:VK)(E:XK)(r:Result)(s':AZ):Prop:=
 match r with
 |.ok (.ret u)=>CE outer P w H s Q u s'
 |.ok _=>False
 |.error e=>CX outer H s E e s'
structure Lh(P:BB)(w:BJ)(K:PySem.W.Frag)(mg:Str->Option Value)(base:Heap)(CX:nR)(k:Nat)(f:AK)(fd:CY)(ps:List Str)(sp:Sp):Prop where
 len: ∀vs H Q E,sp vs H Q E->vs.length=ps.length
 run: ∀(A:CA)(outer:List Env)(s:AZ)(H:Hp)(args:Args)(us:List Value)(vs:List V)(Q:VK)(E:XK),Kz k A->Z6 P w K mg base A outer s H->BindsTo s fd args (ps.zip us)->IM vs us->sp vs H Q E→
  codeAny (Ay P w) A (.call (.ref f) args) (CR CX outer P w H s Q E) s
theorem Lh.mono{K:PySem.W.Frag}(F:Lh P w K mg base CX j f B ps sp)(h:j<=k):
 Lh P w K mg base CX k f B ps sp:=⟨F.len,λA outer s H args us vs Q E hr=>F.run A outer s H args us vs Q E (hr.mono h)⟩
def Lh.imp{K:PySem.W.Frag}(F:Lh P w K mg base CX k f D ps sp)(h: ∀vs H Q E,B vs H Q E->sp vs H Q E):Lh P w K mg base CX k f D ps B:=
 ⟨λvs H Q E q=>F.len vs H Q E (h _ _ _ _ q),λA outer s H args us vs Q E hr G I J hs=>F.run A outer s H args us vs Q E hr G I J (h _ _ _ _ hs)⟩
def Z6.make{K:PySem.W.Frag}(e:Z6 P w K mg base A outer s H)(C:AK)(us:List Value)(kw:List (Str×Value)):
 Z6 P w K mg base (A.under (.builtin "type.__call__" ⟨.ref C::us,kw⟩)) outer s H:=⟨by first|exact e.frames|(simpa[Gv,Code.envs,Gq,pushEnvs]using e.frames),e.mod,e.bs,e.eO,e.QE,e.dG,e.JM,e.bare⟩
section
variable{X:Cx}{Ho:List (AK×Obj)}{σ:St}{H:Hp}{s s':AZ}
def Hs.qO(I:Hs X Ho σ H s):Z6 X.prog X.w X.K X.mg X.base X.A X.stack s H:=
 ⟨I.ok.frames,I.ok.mod,I.bs,Aa I.ok.eO I.sz,I.stack,I.WK,I.JM,I.bare⟩
def Hs.after(I:Hs X Ho σ H s)(h:CE X.stack X.prog X.w H s Q u s'):EP X Ho σ Q u s':=by
 obtain⟨v,D,os,bare,un,JM,r,q⟩:=h;obtain⟨E,g,d,t,B⟩:=s';obtain rfl:B=s.os:=os;exact⟨v,D,I.call (h':=E) (g':=g) (d':=d) (t':=t) (ch:=[]) un JM bare (λb z=>absurd z (!2)),r,q⟩
end
noncomputable def mG(sp:Sp)(B:List V)(E:XK)(t:TA):TE:=λD H Q=>t D H λvs F=>sp (vs++B) F Q E
noncomputable def AA5(C:AK)(m:Str)(sp:Sp)(B:List V)(E:XK)(ta:TE)(t:TA):TE:=λD H Q=>ta D H λx F=>match x with|.ref a=>(∃dx fs,F a=U (.ins C dx fs)/\fs.lookup m=AB/\t D F λvs H2=>sp (.ref a::(vs++B)) H2 Q E)|_=>False
def KL(C:AK)(sp:Sp)(B:List V)(E:XK)(t:TA):TE:=λF H Q=>t F H λvs D=> ∀x dx,D x=AB->D dx=AB->dx≠x→
 sp (.ref x::(vs++B)) (Hu (Hu D dx (.own x)) x (.ins C dx [])) (λv H2=>v=.Jm/\Q (.ref x) H2) E
noncomputable def Binds(K:PySem.W.Frag)(D:CY)(ps:List Str)(B:List Value):Prop:=
 ∀(s:AZ)(us:List Value),K.In s.heap->(us++B).length=ps.length->BindsTo s D ⟨us,[]⟩ (ps.zip (us++B))
def Binds.all{K:PySem.W.Frag}(h: ∀us:List Value,us.length=ps.length->bindArgs D ⟨us,[]⟩=pure (ps.zip us)):Binds K D ps []:=λs us z B=>by
 rw[An]at B⊢;exact .of_eq (h us B)
noncomputable def Passes(CX:nR)(X:Cx)(E:XK):Prop:= ∀(Ho:List (AK×Obj))(B:St)(H:Hp)(s:AZ)(e:Value)(s':AZ),Hs X Ho B H s->CX X.stack H s E e s'->X.xe e s'
section
variable{X:Cx}{CX:nR}{k:Nat}{f C:AK}{fd:CY}{ps:List Str}{sp:Sp}{U3:List V}{ds:List Value}{E:XK}{x m:Str}{p pos apos:Pos}{e o:Expr}{es:List Expr}{ta:TE}{t:TA}
set_option tactic.hygienic true
def ZN{D:St}(F:Lh X.prog X.w X.K X.mg X.base CX k f fd ps sp)(hr:Kz k X.A)(J:Binds X.K fd ps ds)(hd:IM U3 ds)(hx:Passes CX X E)(I:Hs X Ho D H s)(r:IM vs us)(h:sp (vs++U3) H Q E):Ar (Ay X.prog X.w) X.A (call (.ref f) us) (EP X Ho D Q) X.xe s:=by
 have G:IM (vs++U3) (us++ds):=r.append hd;have L:(us++ds).length=ps.length:=by rw[<-G.length];exact F.len _ _ _ _ h
 refine HK (Ex (F.run X.A X.stack s H ⟨us,[]⟩ (us++ds) (vs++U3) Q E hr I.qO (J s us I.Pu L) G h) λr s' B=>?_);cases r with
 |error e=>exact hx Ho D H s e s' I B
 |ok fl=>
  cases fl with
  |ret u=>exact I.after B
  |next=>exact False.elim B
  |brk=>exact False.elim B
  |cont=>exact False.elim B
def kO(F:Lh X.prog X.w X.K X.mg X.base CX k f fd ps sp)(hr:Kz k X.A)(J:Gl X x)(hm:X.mg x=U (.ref f))(L:PySem.W.keepIn X.K (.ref f)=AF)(M:Binds X.K fd ps ds)(hd:IM U3 ds)(hx:Passes CX X E)
  (ha:PA X (e::es) t)(B:autoParam ((x==("__debug__":Str))=AJ) Li)(O:autoParam (BC (e::es) X.env=(AJ,eval e X.env)::BC es X.env) KJ)(D:autoParam ((backTo pos (BC es X.env)).any (·.1)=AJ) KJ):
  PE X (.Call (.Name x p) (e::es) [] pos) (mG sp U3 E t):=by
 intro Ho s S H Q I h;refine Cj (Nl I J hm ?_ B);refine PySem.W.callWith_K (h₀:=X.base) I.ok.mod.qw L (Jv (ha pos Ho s S H _ I h) λus Y ⟨vs,Z,G,r,q⟩=>⟨G.Pu,?_⟩) O D;exact ZN F hr M hd hx G r q
structure Mk(K:PySem.W.Frag)(C f:AK):Prop where
 makes:PySem.W.makesIn K C=AF
 init:PySem.W.findIn K (.ref C) "__init__"=U (U (.ref f))
 fn:PySem.W.isFn K (.ref f)=AF
 kp:PySem.W.keepIn K (.ref C)=AF
def Xo{G:St}(M:Mk X.K C f)(F:Lh X.prog X.w X.K X.mg X.base CX k f fd ps sp)(hr:Kz (k+1) X.A)(O:Binds X.K fd ps ds)(hd:IM U3 ds)(hx:Passes CX X E)(I:Hs X Ho G H s)(r:IM vs us)(h: ∀x dx,H x=AB->H dx=AB->dx≠x->sp (.ref x::(vs++U3)) (Hu (Hu H dx (.own x)) x (.ins C dx [])) (λv H2=>v=.Jm/\Q (.ref x) H2) E):
  Ar (Ay X.prog X.w) X.A (call (.ref C) us) (EP X Ho G Q) X.xe s:=by
 have J:=h (s.heap.objs.size+1) s.heap.objs.size (I.JM.fresh (Nat.le_succ _)) (I.JM.fresh (AR _)) (BH (B1 _));have D:=Hs.made (C:=C) I;have L:IM (V.ref (s.heap.objs.size+1)::(vs++U3)) (BF (s.heap.objs.size+1)::(us++ds)):=.cons rfl (r.append hd);have S:(BF (s.heap.objs.size+1)::us++ds).length=ps.length:=by
  have e:=L.length;rw[F.len _ _ _ _ J]at e;exact e.symm
 refine HK (gU (f:=f) I.Pu M.makes M.init (BL.mp M.fn) (Ex (F.run _ X.stack _ _ ⟨BF (s.heap.objs.size+1)::us,[]⟩ (BF (s.heap.objs.size+1)::(us++ds)) _ _ E (hr.make C us [])
  (D.qO.make C us []) (O _ (BF (s.heap.objs.size+1)::us) D.Pu S) L J) λr s' B=>?_))
 cases r with
 |error e=>exact hx Ho G _ _ e s' D B
 |ok fl=>
  cases fl with
  |ret u=>
   obtain⟨v,Y,Z,rv,ev,q3⟩:=D.after B;subst ev;exact⟨rv,⟨V.ref (s.heap.objs.size+1),Y,Z,rfl,q3⟩⟩
  |next=>exact False.elim B
  |brk=>exact False.elim B
  |cont=>exact False.elim B
def kM(M:Mk X.K C f)(F:Lh X.prog X.w X.K X.mg X.base CX k f fd ps sp)(hr:Kz (k+1) X.A)(J:Gl X x)(hm:X.mg x=U (.ref C))(L:Binds X.K fd ps ds)(hd:IM U3 ds)(hx:Passes CX X E)
  (ha:PA X (e::es) t)(B:autoParam ((x==("__debug__":Str))=AJ) Li)(O:autoParam (BC (e::es) X.env=(AJ,eval e X.env)::BC es X.env) KJ)(D:autoParam ((backTo pos (BC es X.env)).any (·.1)=AJ) KJ):
  PE X (.Call (.Name x p) (e::es) [] pos) (KL C sp U3 E t):=by
 intro Ho s S H Q I h;refine Cj (Nl I J hm ?_ B);refine PySem.W.callWith_K (h₀:=X.base) I.ok.mod.qw M.kp (Jv (ha pos Ho s S H _ I h) λus Y ⟨vs,Z,G,r,q⟩=>⟨G.Pu,?_⟩) O D;exact Xo M F hr L hd hx G r q
def ft(M:Mk X.K C f)(F:Lh X.prog X.w X.K X.mg X.base CX k f fd ps sp)(hr:Kz (k+1) X.A)(D:Gl X x)(hm:X.mg x=U (.ref C))(G:Binds X.K fd ps ds)(hd:IM U3 ds)(hx:Passes CX X E)
  (B:autoParam ((x==("__debug__":Str))=AJ) Li):PE X (.Call (.Name x p) [] [] pos) (KL C sp U3 E Y9):=by
 intro Ho s J H Q I h;refine Cj (Nl I D hm ?_ B);exact PySem.W.callWith_K0 I.Pu M.kp (Xo (us:=[]) M F hr G hd hx I .nil h)
end
section
variable{X:Cx}{CX:nR}{k:Nat}{f C:AK}{fd:CY}{ps ks:List Str}{sp:Sp}{E:XK}{x m:Str}{p pos apos ABA:Pos}{e o:Expr}{es:List Expr}{kws:List Keyword}{te ta:TE}{t tk:TA}{nm:Option Str}
variable{g:List Value->List Value->List Value}{gV:List V->List V->List V}
end
structure Ji(N P:List Str)(sc:Scope):Prop where
 kind:sc.kind=.function
 co:sc.isCoroutine=AJ
 gen:sc.isGenerator=AJ
 nd:N.Nodup
 pre:N.take P.length=P
 par: ∀x∈P,sc.names.lookup x=U .local\/sc.names.lookup x=U .cell
 ou: ∀y∈sc.names,y.2≠ .free
theorem V3{kindOf:Str->Option NameKind}: ∀{binds:List (Str×Value)}{m:Str->Option Value},(∀v,(x,v)∉binds)->bindL kindOf binds m x=m x
 |[],_,_=>rfl
 |(n,v)::r,m,h=>by
  unfold bindL;rw[V3 λw B=>h w (Au _ B)];split
  .have:x≠n:=by rintro rfl;exact h v BA
   simp[this]
  rfl
theorem V5{kindOf:Str->Option NameKind}: ∀{binds:List (Str×Value)}{m:Str->Option Value},(∀v,(x,v)∉binds)->bindC kindOf binds m x=m x
 |[],_,_=>rfl
 |(n,v)::r,m,h=>by
  unfold bindC;rw[V5 λw B=>h w (Au _ B)];split
  .rfl
  have:x≠n:=by rintro rfl;exact h v BA
  simp[this]
theorem V4{kindOf:Str->Option NameKind}{x:Str}{v:Value}: ∀{P:List Str}{vs:List Value}{i:Nat}{m:Str->Option Value},P.Nodup->P[i]? =U x->vs[i]? =U v->kindOf x=U .local→
  bindL kindOf (P.zip vs) m x=U v
 |[],_,_,_,_,h,_,_=>by simp at h
 |_::_,[],_,_,_,_,h,_=>by simp at h
 |p::P,w::vs,0,m,nd,B,D,E=>by
  simp at B D;subst B;subst D;show bindL kindOf ((p,w)::P.zip vs) m p=_;unfold bindL;rw[V3 λv F=>(BP.mp nd).1 (Fq F).1,AI E];simp
 |p::P,w::vs,i+1,m,nd,B,D,E=>by
  show bindL kindOf ((p,w)::P.zip vs) m x=_;unfold bindL;exact V4 (i:=i) (BP.mp nd).2 (!8 B) (!8 D) E
theorem V6{kindOf:Str->Option NameKind}{x:Str}{v:Value}: ∀{P:List Str}{vs:List Value}{i:Nat}{m:Str->Option Value},P.Nodup->P[i]? =U x->vs[i]? =U v->kindOf x≠U .local→
  bindC kindOf (P.zip vs) m x=U v
 |[],_,_,_,_,h,_,_=>by simp at h
 |_::_,[],_,_,_,_,h,_=>by simp at h
 |p::P,w::vs,0,m,nd,B,D,E=>by
  simp at B D;subst B;subst D;show bindC kindOf ((p,w)::P.zip vs) m p=_;unfold bindC;rw[V5 λv F=>(BP.mp nd).1 (Fq F).1,AD E];simp
 |p::P,w::vs,i+1,m,nd,B,D,E=>by
  show bindC kindOf ((p,w)::P.zip vs) m x=_;unfold bindC;exact V6 (i:=i) (BP.mp nd).2 (!8 B) (!8 D) E
noncomputable def start(N:List Str)(vs:List V):St:=vs.map U++Ad (N.length-vs.length) AB
noncomputable def Ph(CX:nR)(P:BB)(w:BJ)(K:PySem.W.Frag)(mg:Str->Option Value)(base:Heap)(N:List Str)(qual:Str)(scope:Scope)(f:AK)(cd:Value)(A:CA)(outer:List Env)(s:AZ)(H:Hp)(E:XK):Cx where
 prog:=P
 w:=w
 K:=K
 mg:=mg
 base:=base
 A:=A.deeper (envOfC qual scope s.heap.objs.size f cd)
 N:=N
 VZ:=s
 qm:=H
 env:=envOfC qual scope s.heap.objs.size f cd
 outer:=outer
 stack:=envOfC qual scope s.heap.objs.size f cd::outer
 ex:=[]
 calm:=AF
 fn:=λz=>AF
 pn:=[]
 xe:=λe s'=>Ar (Ay P w) (A.deeper (envOfC qual scope s.heap.objs.size f cd)) (leaving (envOfC qual scope s.heap.objs.size f cd) e) (λz wz=>CX outer H s E e wz) (λe' wz=>CX outer H s E e' wz) s'
def Yc{sc:Scope}(h:sc.names.lookup x=U .cell): ∃c,(Bx n sc.names []).lookup x=U c:=by
 have q:=PySem.W.cellsFrom_some sc.names n [] (.inl h);exact Option.isSome_iff_exists.mp q
def cq{K:PySem.W.Frag}(S:Ji N ps scope)(hd:A.handled=AB)(D:Z6 P w K mg base A outer s H)(hl:vs.length=ps.length)(r:IM vs us)(x:InCallC s s.heap.objs.size (bindL (envOfC qual scope s.heap.objs.size f O).kindOf (ps.zip us) λt=>AB) (Bx (s.heap.objs.size+1) scope.names []) (bindC (envOfC qual scope s.heap.objs.size f O).kindOf (ps.zip us) λt=>AB) s1):
  Hs (Ph CX P w K mg base N qual scope f O A outer s H E) [] (start N vs) H s1:=by
 have Wz:ps.length<=N.length:=by have:=congrArg A5 S.pre;rw[AW]at this;lia
 obtain⟨L,tk,rfl,Y⟩:=x.done;have F: ∀b:AK,b∉(Ph CX P w K mg base N qual scope f O A outer s H E).ex:=λb z=>absurd (show b∈([]:List AK)from z) (!2);refine⟨⟨D.mod,S.kind,rfl,rfl,AR _,λy z c L B=>?_,λy G=>?_,λy c t h=>?_,λt=>hd,Around.frames_deeper D.frames,.inr ⟨rfl,rfl⟩,λb z=>absurd z (F b),D.bs,D.eO,λb t t=>F b,λb z=>absurd z (F b),D.QE,D.dG⟩,
  rfl,D.bare,Un.kept Y,⟨_,x.toInCall.ns,λi y v L B h3=>?_⟩,λy c h=>⟨_,x.cell y c h⟩,D.JM.fresh (AR _),λy c h=>?_,λp I=>absurd (show p∈([]:List (AK×Obj))from I) (!2),D.JM.kept Y,?_⟩
 .exact name_of_addr x.apart (PySem.mem_of_lookup L) (PySem.mem_of_lookup B)
 .have G:scope.names.lookup y=U .cell\/scope.names.lookup y=U .free:=G;obtain G|G:=G
  .exact Yc G
  exact absurd rfl (S.ou _ (PySem.mem_of_lookup G))
 .exact Gh (x.above y c (PySem.mem_of_lookup h))
 .have M:i<vs.length:=by
   unfold start at B;by_cases M:i<vs.length
   .exact M
   rw[List.getElem?_append_right (!8 M)]at B;rw[List.getElem?_replicate]at B;split at B<;>cases B
  have ha:vs[i]? =U v:=by
   unfold start at B;rw[List.getElem?_append_left (!8 M),List.getElem?_map]at B;cases e:vs[i]? with
   |none=>show 6 e B
   |some a=>show 6 e B;rfl
  obtain⟨u,Z,rv⟩:=r.get ha;have I:ps[i]? =U y:=by
   rw[<-S.pre,List.getElem?_take_of_lt (!3)];exact L
  have J:ps.Nodup:=by rw[<-S.pre];exact S.nd.sublist (List.take_sublist _ _)
  refine⟨u,rv,?_⟩;obtain k|k:=S.par y (BI I)
  .exact .inl ⟨k,V4 J I Z k⟩
  obtain⟨c,e⟩:=Yc (n:=s.heap.objs.size+1) k;refine .inr ⟨.inl k,c,e,?_⟩;have q:=x.cell y c e;rw[V6 J I Z (by show scope.names.lookup y≠_;rw[k];decide)]at q;exact q
 .exact D.JM.fresh (Gh (x.above y c (PySem.mem_of_lookup h)))
 unfold start;show _=N.length;rw[AG,AY,B6]
 lia
set_option tactic.hygienic true
def m7{K:PySem.W.Frag}{kV:Value}(lk:K.lookup f=U ⟨oc,od,.func (PySem.W.fnOf name qual params body scope dV kV doc pm an Kg ct),Xw⟩)(O:PySem.W.codeIn K Kg qual=AF)(S:Ji N ps scope)(len: ∀vs H Q E,sp vs H Q E->vs.length=ps.length)(F: ∀(A:CA)(outer:List Env)(s:AZ)(H:Hp)(vs:List V)(Q:VK)(E:XK),Kz k (A.deeper (envOfC qual scope s.heap.objs.size f Kg))->sp vs H Q E→
   ∃t,eP (Ph CX P w K mg base N qual scope f Kg A outer s H E) body t/\t {nx:=λz D=>Q .Jm D,rt:=Q} (start N vs) H):
  Lh P w K mg base CX (k+1) f (PySem.W.fnOf name qual params body scope dV kV doc pm an Kg ct) ps sp:=by
 refine⟨len,λA outer s H args us vs Q E hr L hb r M=>?_⟩;have hl:=len _ _ _ _ M;have Z:K.In s.heap:=L.mod.qw.keeps λb o e=>(L.bs b o e).1;have lim:s.heap.NoLimit:=L.mod.nolimit.keeps λb o e=>(L.bs b o e).1;have G: ∀y∈ps.zip us,scope.names.lookup y.1=U .local\/(scope.names.lookup y.1=U .cell/\((Bx (s.heap.objs.size+1) scope.names []).lookup y.1).isSome=AF):=λ⟨n,v⟩ hy=>by
  obtain q|q:=S.par n (Fq hy).1
  .exact .inl q
  exact .inr ⟨q,PySem.W.cellsFrom_some _ _ _ (.inl q)⟩
 refine codeAny_call_function hr.depth (Z _ _ lk) rfl S.co S.gen rfl (PySem.W.codeRec_of Z O) (hb _ _ _ _ ?_);refine wpAny_newFunctionEnv_cells S.kind G λenv he s1 x=>?_;subst he;refine⟨lim.keeps x.toInCall.keep,codeAny_func ?_⟩;obtain⟨t,ht,hq⟩:=F A outer s H vs Q E (hr.deeper _) M;have I:Hs (Ph CX P w K mg base N qual scope f Kg A outer s H E) [] (start N vs) H s1:=cq S hr.hd L hl r x;refine CL (ht [] s1 (start N vs) H _ I hq) (λfl s' hs=>?_) λe s' hs=>hs;have fin: ∀{B:St}{D:Hp}{v:V}{u:Value},Hs (Ph CX P w K mg base N qual scope f Kg A outer s H E) [] B D s'->IU v u->Q v D->CE outer P w H s Q u s':=
  λ{B D v u} J Y q=>⟨v,D,J.os,J.bare,J.base,J.JM,Y,q⟩
 cases fl with
 |ret u=>
  obtain⟨v,B,D,J,Y,q⟩:=hs;exact fin J Y q
 |next=>
  obtain⟨B,D,J,q⟩:=hs;exact fin (v:=V.Jm) (u:=DF) J rfl q
 |brk=>
  obtain⟨_,_,_,q⟩:=hs;exact False.elim q
 |cont=>
  obtain⟨_,_,_,q⟩:=hs;exact False.elim q
section
variable{X:Cx}{x:Str}{p pos:Pos}{e:Expr}{es:List Expr}{t:TA}{id T:String}{r:List V->Hp->VK->Prop}
noncomputable def tCB(r:List V->Hp->VK->Prop)(t:TA):TE:=λB H Q=>t B H λvs D=>r vs D Q
def IT(F:O3 X (.builtin id) r)(hm:X.mg x=AB)(G:Bt x=U (.builtin id))(ha:PA X (e::es) t)(J:autoParam (Gl X x) eD)(hn:autoParam (x≠"__name__") Li)(B:autoParam ((x==("__debug__":Str))=AJ) Li)
  (L:autoParam (BC (e::es) X.env=(AJ,eval e X.env)::BC es X.env) KJ)(D:autoParam ((backTo pos (BC es X.env)).any (·.1)=AJ) KJ):PE X (.Call (.Name x p) (e::es) [] pos) (tCB r t):=by
 intro Ho s E H Q I h;refine Cj (Od I J hm G ?_ hn B);exact Gz (Jv (ha pos Ho s E H _ I h) λus M ⟨vs,O,S,Y,Z⟩=>F Ho M E O vs us Q S Y Z) L D
def RI(F:O3 X (.type T) r)(G:Gl X x)(hm:X.mg x=AB)(J:Bt x=U (.type T))(ha:PA X (e::es) t)(hn:autoParam (x≠"__name__") Li)(B:autoParam ((x==("__debug__":Str))=AJ) Li)
  (L:autoParam (BC (e::es) X.env=(AJ,eval e X.env)::BC es X.env) KJ)(D:autoParam ((backTo pos (BC es X.env)).any (·.1)=AJ) KJ):PE X (.Call (.Name x p) (e::es) [] pos) (tCB r t):=by
 intro Ho s E H Q I h;refine Cj (Od I G hm J ?_ hn B);exact Bv (Jv (ha pos Ho s E H _ I h) λus M ⟨vs,O,S,Y,Z⟩=>F Ho M E O vs us Q S Y Z) L D
end
end _L
namespace HT
open PySem PyProof.Rows
section
open PySem.SeqAt
open PySem.AutoSeq1 (wpAny_loadPart')
open PySem.MeetsSeq PySem.MeetsSeq2 PySem.MeetsSeq3
end
section
variable{prog:BB}{w:BJ}{A:CA}{E:Value->AZ->Prop}{s:AZ}
noncomputable def Va(n d:Nat):Option Int->Nat
 |none=>d
 |some v=>if v<0 then(v+(n:Int)).toNat else min v.toNat n
def QU(n d:Nat):Va n d AB=d:=rfl
def Mf(n d k:Nat):Va n d (U (k:Int))=min k n:=by
 show(if(k:Int)<0 then((k:Int)+(n:Int)).toNat else min (k:Int).toNat n)=min k n;rw[AD (!3),Bw]
end
end HT
namespace _L
open PySem PySem.Spec PyProof.Rows
abbrev TO:=St->Hp->(Option Int->Hp->Prop)->Prop
noncomputable def PO(X:Cx)(e:Option Expr)(t:TO):Prop:=
 ∀(Ho:List (AK×Obj))(s:AZ)(B:St)(H:Hp)(Q:Option Int->Hp->Prop),Hs X Ho B H s->t B H Q→
  Ar (Ay X.prog X.w) X.A (evalPart e X.env) (λu s'=> ∃o D,Hs X Ho B D s'/\IsPart u o/\Q o D) X.xe s
noncomputable def jk:TO:=λz H Q=>Q AB H
noncomputable def rW(t:TE):TO:=λB H Q=>t B H λx D=>match x with|.int i=>Q (U i) D|_=>False
section
variable{X:Cx}{e:Expr}{te:TE}{lo hi:Option Expr}{tl th:TO}{pos p2:Pos}
def Iz:PO X AB jk:=by
 intro Ho s B H Q I h;rw[Hj];exact Ab ⟨AB,H,I,.none,h⟩
def IX(h:PE X e te):PO X (U e) (rW te):=by
 intro Ho s B H Q I D;rw[evalPart_some];refine Jv (h Ho s B H _ I D) λu L ⟨x,E,F,G,J⟩=>?_;obtain⟨i,rfl,q⟩:=mI J;obtain⟨t,rfl⟩:=G;exact⟨U i,E,F,.int i t,q⟩
noncomputable def SlR(X:Cx)(r:V->Option Int->Option Int->Hp->VK->Prop):Prop:=
 ∀(Ho:List (AK×Obj))(s:AZ)(B:St)(H:Hp)(x:V)(v D E:Value)(lo hi:Option Int)(F:AK)(Q:VK),Hs X Ho B H s->IU x v->s.heap.IsSliceOf F D E .none->IsPart D lo->IsPart E hi->r x lo hi H Q→
  ∃T id,typeLookup (.type T) "__getitem__"=pure (U (.builtin id))/\s.TypeIs v T/\Ar (Ay X.prog X.w) X.A (getItem v (.ref F)) (EP X Ho B Q) X.xe s
noncomputable def tSl(r:V->Option Int->Option Int->Hp->VK->Prop)(te:TE)(tl th:TO):TE:=λB H Q=>te B H λx D=>tl B D λl H2=>th B H2 λu H3=>r x l u H3 Q
def IY(hr:SlR X r)(G:PE X e te)(J:PO X lo tl)(L:PO X hi th):PE X (.Subscript e (.Slice lo hi AB p2) pos) (tSl r te tl th):=by
 intro Ho s D H Q I h;refine HQ (Jv (G Ho s D H _ I h) λv M ⟨x,O,S,Y,Z⟩=>?_);refine wpAny_Slice (Jv (J Ho M D O _ S Z) λE s2 ⟨l,H2,I2,pl,q2⟩=>Jv (L Ho s2 D H2 _ I2 q2) λF B ⟨u,H3,I3,pu,q3⟩=>?_);rw[Hj];refine Ab ?_
 have I4:Hs X Ho D H3 {B with heap:=B.heap.push {cls:=.type "slice",data:=.fields #[E,F,.none]}}:=I3.kept (t':=B.toks) λb ob q=>Heap.get?_push_of_some _ q;obtain⟨T,id,hT,ht,hg⟩:=hr Ho {B with heap:=B.heap.push {cls:=.type "slice",data:=.fields #[E,F,.none]}} D H3 x v E F l u B.heap.objs.size Q I4 Y (AAr ..) pl pu q3;show Ar (Ay X.prog X.w) X.A (subscriptTail e (.Slice lo hi AB p2) v (.ref B.heap.objs.size)) (EP X Ho D Q) X.xe {B with heap:=B.heap.push {cls:=.type "slice",data:=.fields #[E,F,.none]}};exact tail_any (ops:=[.ref B.heap.objs.size,v]) ht hT hg (by with_unfolding_all rfl)
def Ma(xs:List V)(lo hi:Option Int):List V:=(xs.drop (HT.Va xs.length 0 lo)).take (HT.Va xs.length xs.length hi-HT.Va xs.length 0 lo)
def Yb(xs:List V)(lo hi:Option Int):(Ma xs lo hi).length<=xs.length:=by
 unfold Ma;rw[AW,AS];omega
end
noncomputable def mm(n:Nat)(i:Int):Option Nat:=if 0<=i then(if i<n then U i.toNat else AB)else if-(n:Int)<=i then U (i+n).toNat else AB
def dv{α:Type}(xs:List α)(i:Int):Option α:=(mm xs.length i).bind λj=>xs[j]?
def ki(h:mm n i=U j):seqIndex? i n=U j/\j<n/\ -(n:Int)<=i/\i<n:=by
 unfold mm at h;by_cases D:0<=i
 .rw[AI D]at h;by_cases B:i<n
  .rw[AI B]at h;have e:i.toNat=j:=BU h;exact⟨by rw[seqIndex_of D B,e],!3,!3,B⟩
  rw[AD B]at h;cases h
 rw[AD D]at h;by_cases B: -(n:Int)<=i
 .rw[AI B]at h;have e:(i+n).toNat=j:=BU h;exact⟨by rw[seqIndex_neg (!3) B,e],!3,B,!3⟩
 rw[AD B]at h;cases h
def XM{v:α}(h:dv xs i=U v): ∃j,seqIndex? i xs.length=U j/\xs[j]? =U v/\j<xs.length/\ -(xs.length:Int)<=i/\i<xs.length:=by
 unfold dv at h;cases e:mm xs.length i with
 |none=>show 6 e h
 |some j=>
  rw[e]at h;obtain⟨B,D,E,F⟩:=ki e;exact⟨j,B,h,D,E,F⟩
def KU{j:Nat}{v:α}(h:xs[j]? =U v):dv xs (j:Int)=U v:=by
 have B:j<xs.length:=(List.getElem?_eq_some_iff.mp h).1;have e:mm xs.length (j:Int)=U j:=by
  unfold mm;rw[AI (!3),AI (!3)];simp
 unfold dv;rw[e];exact h
def Qz(xs:List α)(v:α):dv (xs++[v]) (-1)=U v:=by
 have B:(xs++[v]).length=xs.length+1:=!2
 have e:mm (xs++[v]).length (-1)=U xs.length:=by
  unfold mm;rw[B,AD (!1),AI (!3)]
  congr 1
  lia
 unfold dv;rw[e];show(xs++[v])[xs.length]? =U v
 simp
noncomputable def lr(b:Expr):Prop:= ∀o i,subscripted b AJ o i=operate [o,i] (getItem o i)
noncomputable def wC(X:Cx)(r:R2):Prop:=
 ∀(value slice:Expr)(Ho:List (AK×Obj))(s:AZ)(B:St)(H:Hp)(x y:V)(v u:Value)(Q:VK),Hs X Ho B H s->IU x v->IU y u->r x y H Q→
  subscripted slice AJ v u=operate [v,u] (getItem v u)->Ar (Ay X.prog X.w) X.A (subscriptTail value slice v u) (EP X Ho B Q) X.xe s
noncomputable def MtR(X:Cx)(id:String)(r:V->List V->Hp->VK->Prop):Prop:=
 ∀(Ho:List (AK×Obj))(s:AZ)(B:St)(H:Hp)(x:V)(xs:List V)(v:Value)(us:List Value)(Q:VK),Hs X Ho B H s->IU x v->IM xs us->r x xs H Q→
  Ar (Ay X.prog X.w) X.A (call (.builtin id) (v::us)) (EP X Ho B Q) X.xe s
section
variable{X:Cx}{a b:Expr}{ta tb:TE}{pos:Pos}
def KS(hr:wC X r)(ha:PE X a ta)(B:PE X b tb)(hs:lr b):PE X (.Subscript a b pos) (vA r ta tb):=by
 intro Ho s D H Q I h;exact HQ (qV ha B I h λv u E x y H2 F G J q=>hr a b Ho E D H2 x y v u Q F G J q (hs _ _))
inductive IxL (K:PySem.W.Frag)(H:Hp)(p:AK)(i:Int)(Q:V->Prop):Prop
 |mk (a:List V)(h:Ip K H p a)(v:V)(e:dv a i=U v)(q:Q v)
inductive IxT (K:PySem.W.Frag)(H:Hp)(p:AK)(i:Int)(Q:V->Prop):Prop
 |mk (a:List V)(h:NR K H p a)(v:V)(e:dv a i=U v)(q:Q v)
noncomputable def xJ(K:PySem.W.Frag):R2:=λx y H Q=>match x with|.ref p=>(match y with|.int i=>(IxL K H p i λv=>Q v H)|_=>False)|_=>False
noncomputable def xH(K:PySem.W.Frag):R2:=λx y H Q=>match x with|.ref p=>(match y with|.int i=>(IxT K H p i λv=>Q v H)|_=>False)|_=>False
def xI:R2:=λx y H Q=> ∃z i c,x=.str z/\y=.int i/\z.length<=Ac/\dv z.cps.toList i=U c/\Q (.str ⟨#[c]⟩) H
def Jh:wC X (xJ X.K):=by
 intro value slice Ho s G H x y v u Q I M O h hs;obtain⟨p,i,rfl,rfl,xs,S,z,Y,q⟩:=xi h;cases M;obtain⟨t,rfl⟩:=O;obtain⟨D,r,pl,hz⟩:=I.list S;obtain⟨j,B,Z,h3,h4,h5⟩:=XM Y;obtain⟨w,J,E⟩:=r.get Z;have hl:=r.length;have hn:=To;have fin:EP X Ho G Q w s:=⟨z,H,I,E,q⟩;by_cases L:0<=i
 .have F:i.toNat=j:=by
   rw[seqIndex_of L h5]at B;exact BU B
  exact item_listR pl.isList L (!3) (by rw[F];simpa using J) fin hs
 have F:(i+(D.toArray.size:Int)).toNat=j:=by
  rw[seqIndex_neg (!3) h4]at B;rw[Aq,<-hl];exact BU B
 exact FX (x:=w) pl.isList.typeIs slot_list_getitem.lookup
  (wpAny_getItem_list_neg (Q:=λr s'=>r=w/\EP X Ho G Q r s') pl.isList (!3) (by rw[Aq]<;>lia) (!3) (by rw[F];simpa using J) ⟨rfl,fin⟩) hs
def gj:wC X (xH X.K):=by
 intro value slice Ho s D H x y v u Q I E F h hs;obtain⟨p,i,rfl,rfl,xs,G,z,J,q⟩:=xi h;cases E;obtain⟨t,rfl⟩:=F;obtain⟨L,r,pl,Z⟩:=I.tuple G;obtain⟨j,M,O,h3,h4,h5⟩:=XM J;obtain⟨w,S,B⟩:=r.get O;have Y:=r.length;have hn:=To;have fin:EP X Ho D Q w s:=⟨z,H,I,B,q⟩;exact FX (x:=w) pl.typeIs slot_tuple_getitem.lookup
  (getItem_tuple (j:=j) (Q:=λr s'=>r=w/\EP X Ho D Q r s') pl (!3) (!3) (by rw[Aq,<-Y];exact M) (!8 S) ⟨rfl,fin⟩) hs
def gk:wC X xI:=by
 intro value slice Ho s O H x y v u Q I D E h hs;obtain⟨z,i,c,rfl,rfl,S,F,q⟩:=h;obtain⟨t,rfl⟩:=D;obtain⟨t',rfl⟩:=E;obtain⟨j,B,G,Y,J,L⟩:=XM F;have M:z.cps.toList.length=z.length:=by simp[Str.length]
 rw[M]at B J L;have hn:=To;exact tail_any (typeIs_str s z t) slot_str_getitem.lookup (getItem_str (c:=c) (by
  have e1:decide (i< -(2^63:Int))=AJ:=AM (!3);have e2:decide (i≥2^63)=AJ:=AM (!3);rw[e1,e2,B8]) (by rw[B];simpa using G) ⟨.str ⟨#[c]⟩,H,I.tok _,⟨_,rfl⟩,q⟩) hs
def WQ(lo B:Option Int)(n:Nat):(sliceBounds lo B AB n).1=((HT.Va n 0 lo:Nat):Int)/\(sliceBounds lo B AB n).2.1=((HT.Va n n B:Nat):Int)/\(sliceBounds lo B AB n).2.2=1:=by
 refine⟨?_,?_,rfl⟩
 .cases lo with
  |none=>simp[sliceBounds,HT.Va]
  |some i=>
   simp only[sliceBounds,HT.Va,G0,show(1:Int)>0 by decide,BS];by_cases h:i<0
   .simp only[h,BS]<;>lia
   simp only[h,BX]<;>lia
 cases B with
 |none=>simp[sliceBounds,HT.Va]
 |some i=>
  simp only[sliceBounds,HT.Va,G0,show(1:Int)>0 by decide,BS];by_cases h:i<0
  .simp only[h,BS]<;>lia
  simp only[h,BX]<;>lia
def Ux(B:List Value)(lo D:Option Int):slicePick B.toArray lo D AB=((B.drop (HT.Va B.length 0 lo)).take (HT.Va B.length B.length D-HT.Va B.length 0 lo)).toArray:=by
 obtain⟨E,F,G⟩:=WQ lo D B.toArray.size;unfold slicePick;rw[E,F,G];simp only[sliceRange_one,pick_run,Aq]<;>rfl
noncomputable def xC(K:PySem.W.Frag):V->Option Int->Option Int->Hp->VK->Prop:=λx lo B H Q=>match x with|.ref a=>(∃xs,Ip K H a xs/\ ∀p,H p=AB->Q (.ref p) (Hu H p (.lst (Ma xs lo B))))|_=>False
def Ii:SlR X (xC X.K):=by
 intro Ho s M H x v O S lo D Y Q I F hs pl G h;obtain⟨a,rfl,xs,hx,q⟩:=mR h;cases F;obtain⟨J,r,E,L⟩:=I.list hx;have B:=r.length;refine⟨"list",_,slot_list_getitem.lookup,E.isList.typeIs,?_⟩;refine wpAny_getItem_list_slice E.isList hs pl G .none (!2) ?_ (by rw[Aq]<;>lia)
 rw[Ux,<-B];refine⟨.ref s.heap.objs.size,_,I.laid (t':=s.toks) (o:=.lst (Ma xs lo D)) (λb ob q=>Heap.get?_push_of_some _ q) (AR _) ?_,rfl,q _ (I.JM.fresh (AR _))⟩;exact⟨Aa (Yb xs lo D) L,_,0,(r.drop (HT.Va xs.length 0 lo)).take (HT.Va xs.length xs.length D-HT.Va xs.length 0 lo),Heap.get?_push_size _ rfl⟩
noncomputable def Oj:V->Bool
 |.Jm=>AF
 |.bl _=>AF
 |.int _=>AF
 |.str _=>AF
 |_=>AJ
noncomputable def lM:V->V->Bool
 |.Jm,.Jm=>AF
 |.bl a,.bl b=>a==b
 |.bl a,.int b=>(if a then 1 else 0)==b
 |.int a,.bl b=>a==(if b then 1 else 0)
 |.int a,.int b=>a==b
 |.str a,.str b=>a==b
 |_,_=>AJ
def qM(D:IU y u)(B:IU x v)(F:Oj y=AF)(E:Oj x=AF):AAp A s u v (lM y x):=by
 cases y with
 |Jm=>
  cases D;cases x with
  |Jm=>cases B;exact AAx _
  |bl b=>cases B;exact AAS b
  |int b=>obtain⟨t,rfl⟩:=B;exact AAf b t
  |str b=>obtain⟨t,rfl⟩:=B;exact AAe b t
  |_=>exact absurd (show AJ=AF from E) AH
 |bl a=>
  cases D;cases x with
  |Jm=>cases B;exact AAT a
  |bl b=>cases B;exact AAU a b
  |int b=>obtain⟨t,rfl⟩:=B;exact AAj a b t
  |str b=>obtain⟨t,rfl⟩:=B;exact AAi a b t
  |_=>exact absurd (show AJ=AF from E) AH
 |int a=>
  obtain⟨t',rfl⟩:=D;cases x with
  |Jm=>cases B;exact AAg a t'
  |bl b=>cases B;exact AAh a t' b
  |int b=>obtain⟨t,rfl⟩:=B;exact AAo a t' b t
  |str b=>obtain⟨t,rfl⟩:=B;exact GO a t' b t
  |_=>exact absurd (show AJ=AF from E) AH
 |str a=>
  obtain⟨t',rfl⟩:=D;cases x with
  |Jm=>cases B;exact AAc a t'
  |bl b=>cases B;exact AAd a t' b
  |int b=>obtain⟨t,rfl⟩:=B;exact GN a t' b t
  |str b=>obtain⟨t,rfl⟩:=B;exact AAn a t' b t
  |_=>exact absurd (show AJ=AF from E) AH
 |_=>exact absurd (show AJ=AF from F) AH
def Zl(x:V)(u:Value):Bool:=match u with
 |.none=>lM .Jm x
 |.bool b=>lM (.bl b) x
 |.int i _=>lM (.int i) x
 |.str z _=>lM (.str z) x
 |_=>AJ
def iR(r:IU y u)(f:Oj y=AF):Zl x u=lM y x:=by
 cases y with
 |Jm=>cases r;rfl
 |bl b=>cases r;rfl
 |int i=>obtain⟨t,rfl⟩:=r;rfl
 |str z=>obtain⟨t,rfl⟩:=r;rfl
 |_=>exact absurd (show AJ=AF from f) AH
theorem Q1: ∀{xs:List V}{us:List Value},IM xs us->xs.all Oj=AF->us.any (Zl x)=xs.any λy=>lM y x
 |_,_,.nil,_=>rfl
 |y::xs,u::us,.cons r t,f=>by
  rw[CT,AX]at f;rw[CS,CS,iR r f.1,Q1 t f.2]
theorem OZ(D:IU x v)(E:Oj x=AF): ∀{xs:List V}{us:List Value},IM xs us->xs.all Oj=AF-> ∀u∈us,AAp A s u v (Zl x u)
 |_,_,.nil,_=>λu B=>by cases B
 |y::xs,u::us,.cons r t,f=>λF B=>by
  rw[CT,AX]at f;obtain rfl|B:=AO.mp B
  .rw[iR r f.1];exact qM r D f.1 E
  exact OZ D E t f.2 F B
def vM(x:V)(xs:List V):Bool:=xs.any λy=>lM y x
def rIn(K:PySem.W.Frag)(neg:Bool):R2:=λx y H Q=> ∃p xs,y=.ref p/\(Ip K H p xs\/NR K H p xs)/\Oj x=AF/\xs.all Oj=AF/\Q (.bl (if neg then !vM x xs else vM x xs)) H
def Vd:P0 X (Bm .In) (rIn X.K AJ):=by
 intro Ho s M H x y v u Q I F J h;obtain⟨p,xs,rfl,D,G,fs,q⟩:=h;cases J;obtain D|D:=D
 .obtain⟨B,r,pl,L⟩:=I.list D;refine SeqAt.in_listAt (Zl x) pl.isList (λw E=>OZ F G r fs w (!8 E)) ⟨.bl _,H,I,rfl,?_⟩;rw[show B.toArray.any (Zl x)=B.any (Zl x)by simp,Q1 r fs];exact q
 obtain⟨B,r,pl,L⟩:=I.tuple D;refine SeqAt.in_tupleAt (Zl x) pl (λw E=>OZ F G r fs w (!8 E)) ⟨.bl _,H,I,rfl,?_⟩;rw[show B.toArray.any (Zl x)=B.any (Zl x)by simp,Q1 r fs];exact q
def Wd:P0 X (Bm .NotIn) (rIn X.K AF):=by
 intro Ho s M H x y v u Q I F J h;obtain⟨p,xs,rfl,D,G,fs,q⟩:=h;cases J;obtain D|D:=D
 .obtain⟨B,r,pl,L⟩:=I.list D;refine SeqAt.notIn_listAt (Zl x) pl.isList (λw E=>OZ F G r fs w (!8 E)) ⟨.bl _,H,I,rfl,?_⟩;rw[show B.toArray.any (Zl x)=B.any (Zl x)by simp,Q1 r fs];exact q
 obtain⟨B,r,pl,L⟩:=I.tuple D;refine SeqAt.notIn_tupleAt (Zl x) pl (λw E=>OZ F G r fs w (!8 E)) ⟨.bl _,H,I,rfl,?_⟩;rw[show B.toArray.any (Zl x)=B.any (Zl x)by simp,Q1 r fs];exact q
inductive Ln (K:PySem.W.Frag)(H:Hp)(p:AK)(Q:Nat->Prop):Prop
 |mk (a:List V)(h:Ip K H p a\/NR K H p a)(q:Q a.length)
def IP:O3 X (.builtin "len") (λxs H Q=>match xs with|[y]=>(match y with|.ref p=>Ln X.K H p (λn=>Q (.int n) H)|_=>False)|_=>False):=by
 intro Ho s M H xs us Q I r h;obtain⟨p,rfl,G,D,q⟩:=m1R h;obtain⟨u,rfl,J⟩:=vals1 r;cases J;have hn:=To;obtain D|D:=D
 .obtain⟨E,F,pl,L⟩:=I.list D;have B:=F.length;exact Calls.call_len_list pl.isList (by simp only[Aq]<;>lia) ⟨.int G.length,H,I.tok _,⟨s.toks+1,by rw[Aq,B]⟩,q⟩
 obtain⟨E,F,pl,L⟩:=I.tuple D;have B:=F.length;exact len_tuple pl (by simp only[Aq]<;>lia) ⟨.int G.length,H,I.tok _,⟨s.toks+1,by rw[Aq,B]⟩,q⟩
def XD:O3 X (.builtin "len") (λxs H Q=> ∃z,xs=[.str z]/\z.length<=Ac/\Q (.int z.length) H):=by
 intro Ho s B H xs us Q I r h;obtain⟨z,rfl,D,q⟩:=h;obtain⟨u,rfl,t,rfl⟩:=vals1 r;have hn:=To;exact len_str (!3) ⟨.int z.length,H,I.tok _,⟨_,rfl⟩,q⟩
def Py:O3 X (.type "tuple") (λxs H Q=> ∃p D,xs=[.ref p]/\((Ip X.K H p D/\ ∀l,H l=AB->Q (.ref l) (Hu H l (.tup D)))\/(NR X.K H p D/\Q (.ref p) H))):=by
 intro Ho s G H xs us Q I r h;obtain⟨p,D,rfl,h⟩:=h;obtain⟨u,rfl,O⟩:=vals1 r;cases O;obtain⟨E,q⟩|⟨E,q⟩:=h
 .obtain⟨B,F,pl,J⟩:=I.list E;have L:=F.length;refine call_tuple_list pl.isList (λh' kp=>?_) (by simp only[Aq]<;>lia);have M:Hs X Ho G H {s with heap:=h'}:=I.kept (t':=s.toks) kp;have S:Hs X Ho G (Hu H h'.objs.size (.tup D)) {s with heap:=h'.push {cls:=.type "tuple",data:=.seq B.toArray}}:=
   M.laid (t':=s.toks) (λb o e=>Heap.get?_push_of_some _ e) (AR _) (show Jp X.prog X.w _ _ _ (.tup D)from⟨J,B,F,IsTup.new _ _⟩)
  exact⟨.ref h'.objs.size,_,S,rfl,q _ (M.JM.fresh (AR _))⟩
 obtain⟨B,F,pl,J⟩:=I.tuple E;exact call_tuple_same pl ⟨.ref p,H,I,rfl,q⟩
noncomputable def ja(K:PySem.W.Frag)(T:String)(x:V)(H:Hp):Prop:=match x with
 |.str _=>T="str"
 |.int _=>T="int"
 |.ref p=>(T="list"/\ ∃xs,Ip K H p xs)\/(T="tuple"/\ ∃o,K.lookup p=U o/\o.cls=.type "tuple"/\o.dict=AB)∨
  (T="dict"/\((∃B,H p=U (.dK B))\/ ∃B,H p=U (.dT B)))\/(T="set"/\ ∃S n,H p=U (.set S n))
 |_=>False
def eX{E:St}(I:Hs X Ho E H s)(r:IU x v)(ty:ja X.K T x H):
  s.TypeIs v T/\ ∀a,v=.ref a-> ∃ob,s.heap.get? a=U ob/\ob.dict=AB:=by
 cases x with
 |str z=>
  obtain⟨t,rfl⟩:=r;cases(show T="str" from ty);exact⟨typeIs_str s z t,λy e=>nomatch e⟩
 |int i=>
  obtain⟨t,rfl⟩:=r;cases(show T="int" from ty);exact⟨HM s i t,λy e=>nomatch e⟩
 |ref p=>
  cases r;obtain⟨rfl,xs,F⟩|⟨rfl,o,B,G,hd⟩|⟨rfl,B⟩|⟨rfl,S,n,B⟩:=ty
  .obtain⟨J,_,pl,_⟩:=I.list F;refine⟨pl.isList.typeIs,λa e=>?_⟩;cases e;obtain⟨o,n,e,c,hd,_⟩:=pl;exact⟨o,e,hd⟩
  .refine⟨⟨o,I.Pu p o B,G⟩,λa e=>?_⟩;cases e;exact⟨o,I.Pu _ o B,hd⟩
  .have z: ∃o,s.heap.get? p=U o/\o.ExactDict:=by
    obtain⟨D,B⟩|⟨D,B⟩:=B
    .obtain⟨_,_,_,_,o,_,_,e,ex,_⟩:=I.JM p _ B;exact⟨o,e,ex⟩
    obtain⟨_,_,_,_,o,_,_,e,ex,_⟩:=I.JM p _ B;exact⟨o,e,ex⟩
   obtain⟨o,e,ex⟩:=z;refine⟨⟨o,e,ex.1⟩,λa e2=>?_⟩;cases e2;exact⟨o,e,ex.2.1⟩
  obtain⟨o,_,_,_,e,ex,_⟩:=I.JM p _ B;refine⟨⟨o,e,ex.1⟩,λa e2=>?_⟩;cases e2;exact⟨o,e,ex.2.1⟩
 |_=>exact False.elim ty
noncomputable def wY(K:PySem.W.Frag)(T:String)(r:V->List V->Hp->VK->Prop)(to:TE):TE:=λD H Q=>to D H λx B=>ja K T x B/\r x [] B Q
noncomputable def tBM(K:PySem.W.Frag)(T:String)(r:V->List V->Hp->VK->Prop)(to:TE)(t:TA):TE:=λB H Q=>to B H λx D=>ja K T x D/\t B D λxs H2=>r x xs H2 Q
variable{o e:Expr}{es:List Expr}{to:TE}{t:TA}{name:Str}{apos M0:Pos}{T id:String}{r:V->List V->Hp->VK->Prop}
def oW(L:PlainAttrs T)(slot:Slot T name id)(E:typeOf (.builtin id)=pure (.type "method_descriptor"))(hm:MtR X id r)(M:PE X o to)
  (B:autoParam (attributeBase o name X.env (eval o X.env)=eval o X.env) KJ)(D:autoParam ((apos.endLine==M0.line)=AF) KJ):PE X (.Call (.Attribute o name apos) [] [] M0) (wY X.K T r to):=by
 intro Ho s F H Q I h;refine wpAny_Call_method0_late B D (Jv (M Ho s F H _ I h) λv O ⟨x,S,G,J,ty,Y⟩=>?_);obtain⟨Z,h2⟩:=eX G J ty;exact⟨T,id,L,slot,E,Z,h2,Fl rfl (PySem.evalArgs_none (hm Ho O F S x [] v [] Q G J .nil Y))⟩
def KZ(S:PlainAttrs T)(slot:Slot T name id)(G:typeOf (.builtin id)=pure (.type "method_descriptor"))(hm:MtR X id r)(Y:PE X o to)(ha:PA X (e::es) t)
  (D:autoParam (attributeBase o name X.env (eval o X.env)=eval o X.env) KJ)
  (F:autoParam (((backTo M0 (BC (e::es) X.env)).all (λx=>!x.1)&&(backToKw M0 (keywordEach [] X.env)).all (λx=>x.1.isSome)
   &&decide ((e::es).length+([]:List Keyword).length+(if([]:List Keyword).isEmpty then 0 else 1)<30))=AF) KJ)
  (E:autoParam ((apos.endLine==M0.line)=AF) KJ)(hs:autoParam (BC (e::es) X.env=(AJ,eval e X.env)::BC es X.env) KJ)(B:autoParam ((backTo M0 (BC es X.env)).any (·.1)=AJ) KJ):
  PE X (.Call (.Attribute o name apos) (e::es) [] M0) (tBM X.K T r to t):=by
 intro Ho s J H Q I h;refine wpAny_Call_method_late D F E rfl (Jv (Y Ho s J H _ I h) λv Z ⟨x,H1,L,M,ty,q1⟩=>?_);obtain⟨h1,h2⟩:=eX L M ty;refine⟨T,id,S,slot,G,h1,h2,?_⟩;have O:=ha M0 Ho Z J H1 _ L q1;rw[hs]at O⊢;refine Fl (by show(AJ||(backTo M0 (BC es X.env)).any (·.1))=AJ;rw[B]<;>rfl) (Calls.evalArgs_plain ?_);exact Jv O λus s2 ⟨vs,H2,I2,r2,q2⟩=>hm Ho s2 J H2 x vs v us Q I2 M r2 q2
end
noncomputable def MtM(X:Cx)(id:String)(r:V->List V->Hp->VK->Prop):Prop:=
 ∀(Ho:List (AK×Obj))(s:AZ)(B:St)(H:Hp)(x:V)(xs:List V)(v:Value)(us:List Value)(Q:VK),Hs X Ho B H s->IU x v->IM xs us->r x xs H Q→
  Ar (Ay X.prog X.w) X.A (call (.builtin id) (v::us)) (EP X Ho B Q) X.xe s
def IM.one: ∀{x:V}{us:List Value},IM [x] us-> ∃u,us=[u]/\IU x u
 |_,_,.cons r .nil=>⟨_,rfl,r⟩
def IM.zero: ∀{us:List Value},IM [] us->us=[]
 |_,.nil=>rfl
theorem IM.dropLast(h:IM xs us):IM xs.dropLast us.dropLast:=by
 induction h with
 |nil=>exact .nil
 |cons r t B=>
  cases t with
  |nil=>exact .nil
  |cons q t'=>exact .cons r B
theorem IM.rep(h:IM xs us): ∀k:Nat,IM (Ad k xs).flatten (Ad k us).flatten
 |0=>.nil
 |k+1=>by
  rw[B4,B4,DT,DT];exact IM.append h (IM.rep h k)
def Zk{α:Type}(l:List α):l.eraseIdx (l.length-1)=l.dropLast:=by
 induction l with
 |nil=>rfl
 |cons a r B=>
  cases r with
  |nil=>rfl
  |cons b r=>
   have e:(a::b::r).length-1=((b::r).length-1)+1:=by
    have D:(a::b::r).length=r.length+2:=rfl;have E:(b::r).length=r.length+1:=rfl
    lia
   rw[e,List.eraseIdx_cons_succ,B];all_goals rfl
theorem foldl_rep(B:List Value): ∀(k:Nat)(acc:List Value),
  Hb (λD E=>D++E) acc.toArray (Ad k B.toArray)=(acc++(Ad k B).flatten).toArray
 |0,acc=>by simp
 |k+1,acc=>by
  have e:acc.toArray++B.toArray=(acc++B).toArray:=!2
  have e2:(acc++B)++(Ad k B).flatten=acc++(Ad (k+1) B).flatten:=by
   rw[B4,DT,Ah]
  rw[<-e2,<-foldl_rep B k (acc++B),<-e,B4,Dv]
section
variable{X:Cx}{Ho:List (AK×Obj)}{σ:St}{H:Hp}{s:AZ}{l b:AK}{xs ys zs:List V}
def Hs.pA{B:List Value}(I:Hs X Ho σ H s)(D:H l=U (.lst xs))(e:s.heap.get? l=U {cls:=.type "list",data:=.seq B.toArray n})(E:f B.toArray=its'.toArray)(F:IM ys its')(G:ys.length<=Ac):
  Hs X Ho σ (Hu H l (.lst ys)) {s with heap:=s.heap.update l (GQ f),toks:=t'}:=by
 have q:=PySem.IsL.update e f;rw[E]at q;refine I.write (x:=l) (e:=l) (by rw[D];exact trivial) (.inl rfl) (λM u J L=>(Heap.get?_update_other s.heap (GQ f) (Ne.symm J)).trans L) ⟨_,q⟩ ?_
 exact⟨G,its',_,F,q⟩
def Hs.sY(I:Hs X Ho σ H s)(D:IM ys B)(E:ys.length<=Ac):
  Hs X Ho σ (Hu H s.heap.objs.size (.lst ys)) {s with heap:=s.heap.push {cls:=.type "list",data:=.seq B.toArray},toks:=t'}:=
 I.laid (λz z q=>Heap.get?_push_of_some _ q) (AR _) ⟨E,B,0,D,Heap.get?_push_size _ rfl⟩
theorem Hs.fresh(I:Hs X Ho σ H s):H s.heap.objs.size=AB:=I.JM.fresh (AR _)
def Hs.Zb(I:Hs X Ho σ H s)(D:H l=U (.lst xs)):xs.length<=Ac/\ ∃(B:List Value)(n:Nat),IM xs B/\xs.length=B.length/\s.heap.get? l=U {cls:=.type "list",data:=.seq B.toArray n}:=by
 obtain⟨z,B,n,r,e⟩:=I.JM l _ D;exact⟨z,B,n,r,r.length,e⟩
def Xy(h:n<=Ac):C3 n=AJ:=by
 unfold C3;exact AM (!3)
end
section
variable{X:Cx}
inductive Ap (H:Hp)(l:AK)(y:V)(Q:Hp->Prop):Prop
 |mk (a:List V)(e:H l=U (.lst a))(n:a.length<Ac)(q:Q (Hu H l (.lst (a++[y]))))
def nN(e:H l=U (.lst xs)):Ap H l y Q=(xs.length<Ac/\Q (Hu H l (.lst (xs++[y])))):=propext ⟨λ⟨_,B,n,q⟩=>by show 6 e B;exact⟨n,q⟩,λ⟨n,q⟩=>⟨_,e,n,q⟩⟩
noncomputable def kF:V->List V->Hp->VK->Prop:=λx vs H Q=>match x with|.ref l=>(match vs with|[y]=>(Ap H l y (Q .Jm))|_=>False)|_=>False
def Jg:MtM X "list.append" kF:=by
 intro Ho s L H x vs v us Q I E G h;obtain⟨l,y,rfl,rfl,xs,D,M,q⟩:=mR1 h;cases E;obtain⟨u,rfl,J⟩:=G.one;obtain⟨z,B,n,r,O,e⟩:=I.Zb D;refine FY F.slot_list_append ⟨_,e,rfl⟩ F.entry_list_append (F.args_list_append_2 _ _) (PySem.list_append l B.toArray n u (by rw[Aq];lia)) ⟨e,?_⟩;refine⟨.Jm,_,I.pA (its':=B++[u]) D e (!2) (r.append (.cons J .nil)) ?_,rfl,q⟩;rw[AG,Am]
 lia
inductive Et (H:Hp)(l b:AK)(Q:Hp->Prop):Prop
 |mk (a:List V)(e:H l=U (.lst a))(c:List V)(f:H b=U (.lst c))(n:a.length+c.length<=Ac)(q:Q (Hu H l (.lst (a++c))))
def uN(e:H l=U (.lst xs))(f:H b=U (.lst B)):Et H l b Q=(xs.length+B.length<=Ac/\Q (Hu H l (.lst (xs++B)))):=propext ⟨λ⟨_,D,_,E,n,q⟩=>by rw[e]at D;rw[f]at E;cases D;cases E;exact⟨n,q⟩,λ⟨n,q⟩=>⟨_,e,_,f,n,q⟩⟩
noncomputable def kE:V->List V->Hp->VK->Prop:=λx vs H Q=>match x with|.ref l=>(match vs with|[y]=>(match y with|.ref b=>(Et H l b (Q .Jm))|_=>False)|_=>False)|_=>False
def Kl:MtM X "list.extend" kE:=by
 intro Ho s σ H x vs v us Q I J L h;obtain⟨l,b,rfl,rfl,xs,G,zs,M,hz,q⟩:=xj h;cases J;obtain⟨u,rfl,O⟩:=L.one;cases O;obtain⟨z,D,n,r,hl,e⟩:=I.Zb G;obtain⟨z2,B,S,Y,Z,e2⟩:=I.Zb M;have hsz:D.toArray.size+B.toArray.size<=Ac:=by rw[Aq,Aq];lia
 have E: ¬(!D.toArray.isEmpty&&C3 (D.toArray.size+B.toArray.size))=AF:=by
  rw[Xy hsz,CI];exact AH
 refine FY F.slot_list_extend ⟨_,e,rfl⟩ F.entry_list_extend (F.args_list_extend_2 _ _)
  (Gs l D.toArray n b B.toArray S E (by rw[Aq];lia) (!3)) ⟨e,e2,?_⟩
 refine⟨.Jm,_,I.pA (its':=D++B) G e (!2) (r.append Y) ?_,rfl,q⟩;rw[AG]
 lia
inductive Pp (H:Hp)(l:AK)(Q:VK):Prop
 |mk (a:List V)(e:H l=U (.lst a))(y:V)(g:a[a.length-1]? =U y)(q:Q y (Hu H l (.lst a.dropLast)))
noncomputable def xE:V->List V->Hp->VK->Prop:=λx vs H Q=>match x with|.ref l=>(match vs with|[]=>(Pp H l Q)|_=>False)|_=>False
def oy:MtM X "list.pop" xE:=by
 intro Ho s Z H x vs v us Q I J L h;obtain⟨l,rfl,rfl,xs,G,y,M,q⟩:=mR0 h;cases J;have D:=L.zero;subst D;obtain⟨z,B,n,r,O,e⟩:=I.Zb G;obtain⟨u,S,Y⟩:=r.get M;have E:B.toArray[B.toArray.size-1]? =U u:=by
  show B.toArray[B.length-1]? =U u
  rw[<-Array.getElem?_toList,<-O];exact S
 refine FY F.slot_list_pop ⟨_,e,rfl⟩ F.entry_list_pop (F.args_list_pop_1 _) (MeetsSeq.list_pop_last l B.toArray n u E (by rw[Aq];omega)) ⟨e,?_⟩;refine⟨y,_,I.pA (its':=B.dropLast) G e ?_ r.dropLast ?_,Y,q⟩
 .show B.toArray.eraseIdxIfInBounds (B.toArray.size-1)=B.dropLast.toArray;rw[Aq,List.eraseIdxIfInBounds_toArray,Zk]
 rw[List.length_dropLast];omega
def xN:R2:=λx y H Q=>match x with|.ref l=>(match y with|.ref b=>(∃xs,H l=U (.lst xs)/\ ∃B,H b=U (.lst B)/\xs.length+B.length<=Ac/\ ∀p,H p=AB->Q (.ref p) (Hu H p (.lst (xs++B))))|_=>False)|_=>False
def Mv:P0 X (binaryOp .Add) xN:=by
 intro Ho s S H x y v u Q I E F h;obtain⟨l,b,rfl,rfl,xs,G,Y,J,Z,q⟩:=mRR h;cases E;cases F;obtain⟨z,D,n,r,hl,e⟩:=I.Zb G;obtain⟨z2,B,n2,L,M,e2⟩:=I.Zb J;refine PySem.P.add_list e e2 ?_ (by rw[Aq,Aq];omega)
 have O:D.toArray++B.toArray=(D++B).toArray:=!2
 rw[O];exact⟨.ref _,_,I.sY (t':=s.toks) (r.append L) (by rw[AG];omega),rfl,q _ I.fresh⟩
def xD:R2:=λx y H Q=>match x with|.ref l=>(match y with|.int k=>(∃xs,H l=U (.lst xs)/\ -(2^63)<=k/\k<2^63/\xs.length*k.toNat<=Ac/\ ∀p,H p=AB->Q (.ref p) (Hu H p (.lst (Ad k.toNat xs).flatten)))|_=>False)|_=>False
def len_rep{α:Type}(xs:List α)(k:Nat):(Ad k xs).flatten.length=k*xs.length:=by
 induction k with
 |zero=>simp
 |succ k B=>rw[B4,DT,AG,B,Nat.succ_mul,Ff]
def gA:P0 X (binaryOp .Mult) xD:=by
 intro Ho s σ H x y v u Q I Y Z h;obtain⟨l,k,rfl,rfl,xs,hH,h1,h2,S,q⟩:=xi h;cases Y;obtain⟨t,rfl⟩:=Z;obtain⟨z,B,n,r,hl,e⟩:=I.Zb hH;have E:B.toArray.size*k.toNat<=Ac:=by rw[Aq,<-hl];exact S
 have G: ¬B.toArray.size*k.toNat>(2^63-1)/8:=by
  have:(Ac:Nat)<=(2^63-1)/8:=!1
  lia
 have J: ¬(!Hd k)=AF:=by
  rw[fitsIndex_both h1 h2];exact AH
 have D: ¬C3 (B.toArray.size*k.toNat)=AF:=by
  rw[Xy E];exact AH
 have L:Hb (λM O=>M++O) #[] (Ad (if B.toArray.isEmpty=AF then 0 else k.toNat) B.toArray)=(Ad k.toNat B).flatten.toArray:=by
  have f0: ∀m:Nat,Hb (λM O=>M++O) #[] (Ad m B.toArray)=(Ad m B).flatten.toArray:=λm=>by
   have:=foldl_rep B m [];rw[A6]at this;exact this
  rw[f0];cases B with
  |nil=>simp
  |cons a r'=>rw[AD (!2)]
 refine wpAny_binaryOp_repeat_ref (T:="list") (U:="int") (!1) ⟨_,e,rfl⟩ (λs'=>HM s' k t) noFill_list_mul F.fills_int_mul HG repeat_list F.slot_int_index.lookup
  (FY HG (HM s k t) F.entry_int_rmul (F.args_int_rmul_2 _ _) (int___rmul___int_list k t l B.toArray n)
   ⟨e,rfl,⟨_,e,rfl⟩,FY F.slot_list_mul ⟨_,e,rfl⟩ F.entry_list_mul (F.args_list_mul_2 _ _) (GZ l B.toArray n k t J G D) ⟨e,?_⟩⟩)
 rw[L];exact⟨.ref _,_,I.sY (t':=s.toks) (r.rep k.toNat) (by rw[len_rep,FZ];exact S),rfl,q _ I.fresh⟩
end
section
variable{prog:BB}{w:BJ}{A:CA}{E:Value->AZ->Prop}{s:AZ}
end
section
variable{X:Cx}
end
theorem IM.bls: ∀{bs:List Bool}{us:List Value},IM (bs.map V.bl) us->us=bs.map Value.bool
 |[],us,h=>by
  show 6 EF h;rfl
 |b::bs,us,h=>by
  rw[Av]at h;cases h with
  |cons r t=>
   cases r;rw[IM.bls t,Av]
def IM.xB(r:IM [V.ref a] us):us=[BF a]:=by
 cases r with
 |cons r t=>
  cases t;cases r;rfl
section
variable{prog:BB}{w:BJ}{A:CA}{E:Value->AZ->Prop}{s:AZ}{l:AK}{Vk:List Value}{ns:List Int}{Q:Value->AZ->Prop}
end
section
variable{X:Cx}
end
def gm(D:s.heap.IsList l items)(h: ∀B:AZ,B={s with heap:=s.heap.push {cls:=.type "list_iterator",data:=.fields #[.ref l,.int 0 0]}}→
  (B.heap.IsListIter s.heap.objs.size l 0/\B.heap.IsList l items)->l≠s.heap.objs.size->Q (.ref s.heap.objs.size) B):Ar (Ay prog w) A (pyIter (.ref l)) Q E s:=by
 have F:l<s.heap.objs.size:=by obtain⟨_,e,_⟩:=D;exact Aj e
 exact D4 D (h _ rfl ⟨⟨_,Heap.get?_push_size _ rfl,rfl,rfl⟩,D.push _⟩ (BH F))
def Xb{bs:List Bool}(e:B=bs.map Value.bool):
  TruthOf prog w A (λi v=>B.toArray[i]? =U v) (λi=>bs.getD i AJ):=λi v s Q E G I=>by
 have D:B[i]? =U v:=by simpa using G
 rw[e,List.getElem?_map]at D;obtain⟨b,J,rfl⟩:=EB.mp D;have L:bs.getD i AJ=b:=by rw[List.getD_eq_getElem?_getD,J]<;>rfl
 have F:Q (bs.getD i AJ) s:=I;rw[L]at F;exact B5 F
theorem any_range: ∀bs:List Bool,(GW bs.length).any (λi=>bs.getD i AJ)=bs.any id
 |[]=>rfl
 |b::bs=>by
  rw[AN,Fg,CS,List.any_map,CS,<-any_range bs];all_goals rfl
theorem all_range: ∀bs:List Bool,(GW bs.length).all (λi=>bs.getD i AJ)=bs.all id
 |[]=>rfl
 |b::bs=>by
  rw[AN,Fg,CT,Gk,CT,<-all_range bs];all_goals rfl
section
variable{X:Cx}
noncomputable def xO(K:PySem.W.Frag):List V->Hp->VK->Prop:=λvs H Q=> ∃(a:AK)(bs:List Bool),vs=[V.ref a]/\Ip K H a (bs.map V.bl)/\Q (.bl (bs.all id)) H
def Zq(L:X.calm=AF):O3 X (.builtin "all") (xO X.K):=by
 intro Ho s Y H vs us Q I r h;obtain⟨a,bs,rfl,hs,q⟩:=h;obtain⟨D,M,O,_⟩:=I.list hs;rw[IM.xB r];have F:=M.bls;refine call_all_walk (gm O.isList λG e2 st E=>?_);subst e2;refine⟨_,_,_,_,_,_,_,rfl,Walks.list (A:=X.A.in1) (I.ok.hd L) _ a E D.toArray,st,Xb F,λh' tk S=>?_⟩;refine⟨.bl _,H,I.kept λb o J=>S b o (λB=>?_) (Heap.get?_push_of_some _ J),?_,q⟩
 .obtain e1|B:=AO.mp B
  .exact absurd (e1▸Aj J) (CQ _)
  cases B
 show Value.bool _=Value.bool _;rw[<-all_range,F,Aq,AY]
end
mutual
inductive Dp (K:PySem.W.Frag)(H:Hp):V->PyData->Prop
 |Jm:Dp K H .Jm .none
 |bl (b:Bool):Dp K H (.bl b) (.bool b)
 |int (i:Int):Dp K H (.int i) (.int i)
 |str (x:Str):Dp K H (.str x) (.str x)
 |lst {a:AK}{xs:List V}{ds:List PyData}:Ip K H a xs->Um K H xs ds->Dp K H (.ref a) (.list ds)
 |tup {a:AK}{xs:List V}{ds:List PyData}:NR K H a xs->Um K H xs ds->Dp K H (.ref a) (.tuple ds)
inductive Um (K:PySem.W.Frag)(H:Hp):List V->List PyData->Prop
 |nil:Um K H [] []
 |cons {v:V}{vs:List V}{d:PyData}{ds:List PyData}:Dp K H v d->Um K H vs ds->Um K H (v::vs) (d::ds)
end
section
variable{X:Cx}{Ho:List (AK×Obj)}{σ:St}{H:Hp}{s:AZ}
mutual
theorem Dp.reads(I:Hs X Ho σ H s): ∀(d:PyData)(v:V)(u:Value),Dp X.K H v d->IU v u-> ∃as,Reads s.heap u d as
 |.none,_,_,h,r=>by
  cases h;cases r;exact⟨_,Reads.none⟩
 |.bool b,_,_,h,r=>by
  cases h;cases r;exact⟨_,Reads.bool b⟩
 |.int i,_,_,h,r=>by
  cases h;obtain⟨t,rfl⟩:=r;exact⟨_,Reads.int i t⟩
 |.str x,_,_,h,r=>by
  cases h;obtain⟨t,rfl⟩:=r;exact⟨_,Reads.str x t⟩
 |.list ds,_,_,h,r=>by
  cases h with
  |lst hs ha=>
   cases r;obtain⟨Vk,rv,⟨o,n,ho,hc,_,hd⟩,_⟩:=I.list hs;obtain⟨as,hr⟩:=Dp.readsAll I ds _ Vk ha rv;exact⟨_,Reads.list ho hc hd hr⟩
 |.tuple ds,_,_,h,r=>by
  cases h with
  |tup hs ha=>
   cases r;obtain⟨Vk,rv,⟨o,ho,hc,n,hd⟩,_⟩:=I.tuple hs;obtain⟨as,hr⟩:=Dp.readsAll I ds _ Vk ha rv;exact⟨_,Reads.tuple ho hc hd hr⟩
 |.dict _,_,_,h,_=>by cases h
theorem Dp.readsAll(I:Hs X Ho σ H s): ∀(ds:List PyData)(vs:List V)(us:List Value),Um X.K H vs ds->IM vs us-> ∃as,ReadsAll s.heap us ds as
 |[],_,_,h,r=>by
  cases h;cases r;exact⟨_,ReadsAll.nil⟩
 |d::ds,_,_,h,r=>by
  cases h with
  |cons h1 h2=>
   cases r with
   |cons r1 r2=>
    obtain⟨as,q1⟩:=Dp.reads I d _ _ h1 r1;obtain⟨bs,q2⟩:=Dp.readsAll I ds _ _ h2 r2;exact⟨_,ReadsAll.cons q1 q2⟩
end
end
section
variable{X:Cx}
noncomputable def xK(K:PySem.W.Frag):R2:=λx y H Q=> ∃d e,Dp K H x d/\Dp K H y e/\D7 d=AF/\D7 e=AF/\Q (.bl (GP d e)) H
noncomputable def xF(K:PySem.W.Frag):R2:=λx y H Q=> ∃d e,Dp K H x d/\Dp K H y e/\D7 d=AF/\D7 e=AF/\Q (.bl (!GP d e)) H
def Nd(B:X.A.units+64<cLine):P0 X (Bm .Eq) (xK X.K):=by
 intro Ho s O H x y v u Q I D E h;obtain⟨d,e,hd,F,G,J,q⟩:=h;obtain⟨S,L⟩:=Dp.reads I d x v hd D;obtain⟨bs,M⟩:=Dp.reads I e y u F E;exact SeqAt.compareEq_shaped L M G J B ⟨.bl _,H,I,rfl,q⟩
def oY(B:X.A.units+64<cLine):P0 X (Bm .NotEq) (xF X.K):=by
 intro Ho s O H x y v u Q I D E h;obtain⟨d,e,hd,F,G,J,q⟩:=h;obtain⟨S,L⟩:=Dp.reads I d x v hd D;obtain⟨bs,M⟩:=Dp.reads I e y u F E;exact SeqAt.compareNe_shaped L M G J B ⟨.bl _,H,I,rfl,q⟩
end
noncomputable abbrev jF(h:Heap)(c:AK)(v:Option Value):Prop:=h.IsCell c v
noncomputable def xA(scope sc:Scope):Scope:=
 {scope with names:=scope.names.map λ(n,k)=>if(k== .free&&sc.kind== .function&&sc.names.lookup n==U .cell)then(n,.cell)else(n,k)}
noncomputable def JW(cells:List (Str×AK)):List (Str×NameKind)->List (Str×AK)->List (Str×AK)
 |[],acc=>acc
 |(n,k)::r,acc=>if k== .free then JW cells r ((n,(cells.lookup n).getD 0)::acc)else JW cells r acc
theorem Qv(env:Env)(f:Str×NameKind->List (Str×AK)->Sem (ForInStep (List (Str×AK))))
  (D: ∀n k c,f (n,k) c=if k== .free then(do let a<-cellOf env n;pure (.yield ((n,a)::c)))else pure (.yield c)):
  ∀(names:List (Str×NameKind))(acc:List (Str×AK)),(∀y∈names,y.2=.free-> ∃c,env.cells.lookup y.1=U c)->forIn names acc f=pure (JW env.cells names acc)
 |[],acc,_=>by rw[E9];rfl
 |(n,k)::r,acc,h=>by
  rw[Fs,D];have E:=λacc=>Qv env f D r acc λy G=>h y (Au _ G);unfold JW;by_cases B:(k==Dn)=AF
  .rw[AI B,AI B];obtain⟨c,F⟩:=h (n,k) BA (!8 B);have e:cellOf env n=pure c:=by unfold cellOf;rw[F]
   rw[e];have e2:(env.cells.lookup n).getD 0=c:=by rw[F];rfl
   rw[e2];exact E _
  rw[AD B,AD B];exact E _
def Zs(h: ∀y∈scope.names,y.2=.free-> ∃c,env.cells.lookup y.1=U c):closureFor scope env=pure (JW env.cells scope.names []):=by
 simp only[closureFor];rw[Qv env _ (λn k c=>rfl) scope.names [] h];rfl
theorem mem_lookup{α:Type}: ∀{l:List (Str×α)}{n:Str}{c:α},(n,c)∈l-> ∃B,l.lookup n=U B
 |(k,v)::r,n,c,h=>by
  rw[CN];cases D:n==k with
  |true=>exact⟨_,rfl⟩
  |false=>
   obtain e|h:=AO.mp h
   .cases e;simp at D
   exact mem_lookup h
set_option tactic.hygienic true
theorem Mo: ∀{names:List (Str×NameKind)}{acc:List (Str×AK)}{n:Str}{c:AK},(n,c)∈JW cells names acc->(n,c)∈acc\/((n,.free)∈names/\c=(cells.lookup n).getD 0)
 |[],_,_,_,h=>.inl h
 |(m,k)::r,acc,n,c,h=>by
  unfold JW at h;split at h
  .rename_i B;have B:k=.free:=by simpa using B
   obtain h|⟨D,E⟩:=Mo h
   .obtain e|h:=AO.mp h
    .cases e;exact .inr ⟨B▸BA,rfl⟩
    exact .inl h
   exact .inr ⟨Au _ D,E⟩
  obtain h|⟨D,E⟩:=Mo h
  .exact .inl h
  exact .inr ⟨Au _ D,E⟩
theorem Oq: ∀{names:List (Str×NameKind)}{acc:List (Str×AK)}{p:Str×AK},p∈acc->p∈JW cells names acc
 |[],_,_,h=>h
 |(m,k)::r,acc,p,h=>by
  unfold JW;split
  .exact Oq (Au _ h)
  exact Oq h
theorem Oo: ∀{names:List (Str×NameKind)}{acc:List (Str×AK)}{n:Str},(n,.free)∈names->(n,(cells.lookup n).getD 0)∈JW cells names acc
 |(m,k)::r,acc,n,h=>by
  unfold JW;obtain e|h:=AO.mp h
  .cases e;exact Oq BA
  split
  .exact Oo h
  exact Oo h
theorem NP: ∀{names:List (Str×NameKind)}{h:Heap}{acc:List (Str×AK)}{x:Str}{c:AK},(x,c)∈Bx h.objs.size names acc→
  (x,c)∈acc\/((x,.cell)∈names/\h.objs.size<=c/\jF (pushCells h names) c AB)
 |[],_,_,_,_,h=>.inl h
 |(n,k)::r,h,acc,x,c,hm=>by
  unfold Bx at hm;unfold pushCells;split at hm
  .rename_i B;rw[AI B];have B:k=.cell:=by simpa using B
   rw[<-BM h {cls:=.type "cell",data:=.cell AB}]at hm;obtain hm|⟨E,D,F⟩:=NP hm
   .obtain e|hm:=AO.mp hm
    .cases e;exact .inr ⟨B▸BA,AR _,_,El r _ _ _ (Heap.get?_push_size _ rfl),rfl⟩
    exact .inl hm
   rw[BM]at D;exact .inr ⟨Au _ E,ED D,F⟩
  rename_i B;rw[AD B];obtain hm|⟨E,D,F⟩:=NP hm
  .exact .inl hm
  exact .inr ⟨Au _ E,D,F⟩
theorem PV: ∀{names:List (Str×NameKind)}{n:Nat}{acc:List (Str×AK)}{p:Str×AK},p∈acc->p∈Bx n names acc
 |[],_,_,_,h=>h
 |(m,k)::r,n,acc,p,h=>by
  unfold Bx;split
  .exact PV (Au _ h)
  exact PV h
theorem RY: ∀{names:List (Str×NameKind)}{n:Nat}{acc:List (Str×AK)}{x:Str},(x,.cell)∈names-> ∃c,(x,c)∈Bx n names acc
 |(m,k)::r,n,acc,x,h=>by
  unfold Bx;obtain e|h:=AO.mp h
  .cases e;exact⟨n,PV BA⟩
  split
  .exact RY h
  exact RY h
theorem RX: ∀{names:List (Str×NameKind)}{h:Heap}{acc:List (Str×AK)}{x y:Str}{c:AK},(∀p∈acc,p.2<h.objs.size)->(∀x y c,(x,c)∈acc->(y,c)∈acc->x=y)→
  (x,c)∈Bx h.objs.size names acc->(y,c)∈Bx h.objs.size names acc->x=y
 |[],_,_,_,_,_,_,E,D,B=>E _ _ _ D B
 |(n,k)::r,h,acc,x,y,c,F,E,D,B=>by
  unfold Bx at D B;split at D
  .rename_i G;rw[AI G]at B;rw[<-BM h {cls:=.type "cell",data:=.cell AB}]at D B;refine RX (h:=h.push _) (λp I=>?_) (λx y c a b=>?_) D B
   .rw[BM];obtain rfl|I:=AO.mp I
    .exact B1 _
    exact FH (F p I)
   obtain e|a:=AO.mp a<;>obtain J|b:=AO.mp b
   .cases e;cases J;rfl
   .cases e;exact absurd (F _ b) (CQ _)
   .cases J;exact absurd (F _ a) (CQ _)
   exact E _ _ _ a b
  rename_i G;rw[AD G]at B;exact RX F E D B
set_option tactic.hygienic false
def Xz{code:Value}(h:Q (newEnv scope s.heap.objs.size globals (Bx (s.heap.objs.size+1) scope.names closure) qual func code (U around) builtins)
   {s with heap:=pushCells (s.heap.push {cls:=.type "dict",data:=.dict #[]}) scope.names}):
  Ar M A (newFunctionEnv scope globals closure [] qual func code (U around) builtins) Q E s:=by
 simp only[newFunctionEnv,Bf,BS];refine AL (wpAny_alloc ?_);refine AL (wpAny_layCells _ (λn k c=>rfl) scope.names closure _ _ ?_);rw[show({s with heap:=s.heap.push {cls:=.type "dict",data:=.dict #[]}}:AZ).heap.objs.size=s.heap.objs.size+1 from BM ..];rw[E9];exact AL (Ab (Ab h))
theorem Oc{sc:Scope}: ∀{names:List (Str×NameKind)}{x:Str}{k:NameKind},
  (names.map λ(n,k)=>if(k==Dn&&sc.kind== .function&&sc.names.lookup n==U .cell)then(n,GJ)else(n,k)).lookup x=U k→
  ∃E,names.lookup x=U E/\(k=E\/(E=.free/\k=.cell))
 |[],_,_,h=>by simp at h
 |(n,B)::r,x,k,h=>by
  have F:= @Oc sc r x k;have h':DZ x ((if(B==Dn&&sc.kind== .function&&sc.names.lookup n==U .cell)=AF then(n,GJ)else(n,B))::(r.map _))=U k:=h;cases hx:x==n with
  |true=>
   simp only[CN,hx];by_cases D:(B==Dn&&sc.kind== .function&&sc.names.lookup n==U .cell)=AF
   .rw[AI D]at h';simp only[CN,hx]at h';cases h';simp only[AX,BL]at D;exact⟨B,rfl,.inr ⟨D.1.1,rfl⟩⟩
   rw[AD D]at h';simp only[CN,hx]at h';cases h';exact⟨_,rfl,.inl rfl⟩
  |false=>
   simp only[CN,hx];by_cases D:(B==Dn&&sc.kind== .function&&sc.names.lookup n==U .cell)=AF
   .rw[AI D]at h';simp only[CN,hx]at h';exact F h'
   rw[AD D]at h';simp only[CN,hx]at h';exact F h'
structure Yx(N:List Str)(sc scope:Scope)(own:List (Str×Nat)):Prop where
 kind:scope.kind=.function
 uniq: ∀y∈scope.names,scope.names.lookup y.1=U y.2
 ix: ∀p∈own,N[p.2]? =U p.1
 free: ∀y∈scope.names,y.2=.free->sc.names.lookup y.1=U .cell\/sc.names.lookup y.1=U .free
 own: ∀y∈scope.names,y.2=.local\/y.2=.cell->y.1∈own.map (·.1)\/y.1∉N
def wipe(B:St):List Nat->St
 |[]=>B
 |v::vs=>(wipe B vs).set v AB
theorem OM(B:St): ∀vs:List Nat,(wipe B vs).length=B.length
 |[]=>rfl
 |v::vs=>by unfold wipe;rw[List.length_set,OM B vs]
theorem Q7: ∀{vs:List Nat},(wipe D vs)[i]? =U (U x)->D[i]? =U (U x)/\i∉vs
 |[],h=>⟨h,!2⟩
 |v::vs,h=>by
  unfold wipe at h;by_cases B:v=i
  .subst B;by_cases E:v<(wipe D vs).length
   .rw[List.getElem?_set_self E]at h;cases h
   rw[List.getElem?_eq_none (!8 E)]at h;cases h
  rw[List.getElem?_set_ne B]at h;obtain⟨F,G⟩:=Q7 h;exact⟨F,by simp only[AO,not_or];exact⟨λe=>B e.symm,G⟩⟩
noncomputable abbrev Cx.XE(X:Cx)(s:AZ)(H:Hp)(scope:Scope)(B:Env)(fp:List AK):Cx:={X with VZ:=s,qm:=H,env:=B,outer:=X.stack,ex:=fp,fn:=λx=>scope.names.lookup x==U .cell,pn:=[],xe:=λz z=>False}
section
variable{X:Cx}{Ho:List (AK×Obj)}{σ:St}{H:Hp}{s:AZ}
def Yg(I:Hs X Ho σ H s)(ok:Yx X.N X.env.scope scope own)(hN:X.N.Nodup)(G: ∀b∈fp,Rc X Ho H b/\b<s.heap.objs.size):
  Hs (X.XE s H scope (compEnvC scope (Bx (s.heap.objs.size+1) scope.names (JW X.env.cells scope.names [])) s.heap.objs.size X.env) fp) [] (wipe σ (own.map (·.2))) H {s with heap:=pushCells (s.heap.push {cls:=.type "dict",data:=.dict #[]}) scope.names}:=by
 have Z: ∀y∈scope.names,y.2=.free-> ∃c,X.env.cells.lookup y.1=U c:=λy L e=>by
  obtain k|k:=ok.free y L e
  .exact I.ok.has _ (.inl k)
  exact I.ok.has _ (.inr k)
 generalize D:compEnvC scope (Bx (s.heap.objs.size+1) scope.names (JW X.env.cells scope.names [])) s.heap.objs.size X.env=B;have kp: ∀b o,s.heap.get? b=U o->(pushCells (s.heap.push {cls:=.type "dict",data:=.dict #[]}) scope.names).get? b=U o:=λb o e=>El _ _ _ _ (Heap.get?_push_of_some _ e);have hL:B.locals=s.heap.objs.size:=by rw[<-D];rfl
 have F:B.cells=Bx (s.heap.objs.size+1) scope.names (JW X.env.cells scope.names []):=by rw[<-D];rfl
 have yE:B.scope=xA scope X.env.scope:=by rw[<-D];rfl
 rw[<-BM s.heap {cls:=.type "dict",data:=.dict #[]}]at F;have cm: ∀{y c},(y,c)∈JW X.env.cells scope.names []->X.env.cells.lookup y=U c/\c<s.heap.objs.size:=λ{y c} hm=>by
  obtain hm|⟨E,rfl⟩:=Mo hm
  .cases hm
  obtain⟨c,hc⟩:=Z _ E rfl;rw[hc];obtain⟨w,z⟩:=I.cell _ _ hc;exact⟨rfl,z.lt⟩
 have mem: ∀{y c},B.cells.lookup y=U c->(X.env.cells.lookup y=U c/\c<s.heap.objs.size)\/(s.heap.objs.size+1<=c/\jF (pushCells (s.heap.push {cls:=.type "dict",data:=.dict #[]}) scope.names) c AB):=λ{y c} e=>by
  rw[F]at e;obtain hm|⟨_,M,h3⟩:=NP (PySem.mem_of_lookup e)
  .exact .inl (cm hm)
  rw[BM]at M;exact .inr ⟨M,h3⟩
 have look: ∀{y},scope.names.lookup y=U .free-> ∃c,B.cells.lookup y=U c/\X.env.cells.lookup y=U c:=λ{y} hl=>by
  have L:(y,Dn)∈scope.names:=PySem.mem_of_lookup hl;obtain⟨c',J⟩:=mem_lookup (PV (names:=scope.names) (n:=(s.heap.push {cls:=.type "dict",data:=.dict #[]}).objs.size) (Oo (cells:=X.env.cells) (acc:=[]) L));rw[<-F]at J;refine⟨c',J,?_⟩;rw[F]at J;obtain hm|⟨E,_,_⟩:=NP (PySem.mem_of_lookup J)
  .exact(cm hm).1
  have:=ok.uniq _ E;show 6 hl this
 have okB:(X.XE s H scope B fp).Ok:=by
  refine⟨I.ok.mod,by show B.scope.kind=_;rw[yE];exact ok.kind,by show B.globals=_;rw[<-D];exact I.ok.glob,by show B.builtins=_;rw[<-D];exact I.ok.blt,by show s.heap.objs.size<=B.locals;rw[hL];exact AR _,
   λy z c e1 e2=>?_,λy L=>?_,λy c z e=>?_,I.ok.hd,I.ok.frames,.inl rfl,λb S=>⟨?_,λy c e z=>?_⟩,I.bs,Aa I.ok.eO I.sz,λb o e S=>?_,λb S z=>?_,I.stack,I.WK⟩
  .have e1:B.cells.lookup y=U c:=e1;have e2:B.cells.lookup z=U c:=e2;rw[F]at e1 e2;refine RX (λp hp=>?_) (λy z c a b=>I.ok.inj y z c (cm a).1 (cm b).1) (PySem.mem_of_lookup e1) (PySem.mem_of_lookup e2);rw[BM];exact FH (cm (y:=p.1) (c:=p.2) hp).2
  .show∃c,B.cells.lookup y=U c;have key: ∀k,B.kindOf y=U k->(k=.cell\/k=.free)-> ∃c,B.cells.lookup y=U c:=λk hk lA=>by
    unfold Env.kindOf at hk;rw[yE]at hk;obtain⟨Y,e,r⟩:=Oc hk;have:Y=.cell\/Y=.free:=by
     obtain rfl|⟨rfl,_⟩:=r
     .exact lA
     exact .inr rfl
    obtain rfl|rfl:=this
    .obtain⟨c,hm⟩:=RY (n:=(s.heap.push {cls:=.type "dict",data:=.dict #[]}).objs.size) (acc:=JW X.env.cells scope.names []) (PySem.mem_of_lookup e);obtain⟨c',J⟩:=mem_lookup hm;exact⟨c',by rw[F];exact J⟩
    obtain⟨c,E,_⟩:=look e;exact⟨c,E⟩
   obtain L|L:=L
   .exact key _ L (.inl rfl)
   exact key _ L (.inr rfl)
  .have z:(scope.names.lookup y==U GJ)=AF:=z;have z:scope.names.lookup y=U .cell:=by simpa using z
   have e:B.cells.lookup y=U c:=e;rw[F]at e;obtain hm|⟨_,M,_⟩:=NP (PySem.mem_of_lookup e)
   .obtain hm|⟨E,_⟩:=Mo hm
    .cases hm
    have q:=ok.uniq _ E;show 6 z q
   rw[BM]at M;exact ED M
  .show b≠B.locals;rw[hL];exact BH (G b S).2
  .have e:B.cells.lookup y=U c:=e;obtain⟨E,_⟩|⟨E,_⟩:=mem e
   .exact(G b S).1.2.2.2.2.1 y c E z
   have M:s.heap.objs.size+1<=b:=by rw[<-z];exact E
   exact absurd (A0 (G b S).2 (ED M)) (CQ _)
  .obtain z|z:=(G b S).1.2.2.2.1
   .exact I.ok.ZW b o e z
   exact absurd (A0 (Aj e) (Aa I.ok.eO z)) (CQ _)
  obtain z|z:=AO.mp (I.Sv b z)
  .exact(G b S).1.2.1 z
  exact(G b S).1.2.2.1 z
 refine⟨okB,rfl,I.bare,Un.kept kp,⟨λx=>AB,?_,λi y av e1 e2 e3=>?_⟩,λy c e=>?_,?_,λy c e=>?_,λp hp=>?_,I.JM.kept kp,by rw[OM];exact I.len⟩
 .show Heap.Ns _ B.locals _;rw[hL];exact Heap.Ns.keeps (Heap.Ns.new ..) λb o e=>El _ _ _ _ e
 .obtain⟨e2,Uz⟩:=Q7 e2;have O:scope.names.lookup y=U .free/\(B.kindOf y=U .cell\/B.kindOf y=U .free):=by
   have key: ∀k,B.scope.names.lookup y=U k->k=.local\/k=.cell\/k=.free->scope.names.lookup y=U .free/\(B.kindOf y=U .cell\/B.kindOf y=U .free):=λk hk lA=>by
    have pV:=hk;rw[yE]at hk;obtain⟨Y,e,r⟩:=Oc hk;have no: ¬(Y=.local\/Y=.cell):=λhh=>by
     obtain J|J:=ok.own _ (PySem.mem_of_lookup e) hh
     .obtain⟨p,hp,hpy⟩:=Fh.mp J;have e3:=ok.ix p hp;have:p.1=y:=hpy;rw[this]at e3;exact Uz (Fh.mpr ⟨p,hp,Td hN e3 e1⟩)
     exact J (BI e1)
    obtain rfl|⟨rfl,rfl⟩:=r
    .obtain rfl|rfl|rfl:=lA
     .exact absurd (.inl rfl) no
     .exact absurd (.inr rfl) no
     exact⟨e,.inr pV⟩
    exact⟨e,.inl pV⟩
   have e3:rH B.scope y:=e3;obtain e3|e3|e3:=e3
   .exact key _ e3 (.inl rfl)
   .exact key _ e3 (.inr (.inl rfl))
   exact key _ e3 (.inr (.inr rfl))
  obtain⟨m,hn,hl⟩:=I.loc;have x6:rH X.env.scope y:=(ok.free _ (PySem.mem_of_lookup O.1) rfl).elim (λk=>.inr (.inl k)) (λk=>.inr (.inr k));obtain⟨w,r,q⟩:=hl i y av e1 e2 x6;refine⟨w,r,.inr ⟨O.2,?_⟩⟩;obtain⟨c,E,M⟩:=look O.1;obtain⟨k,_⟩|⟨_,c',J,z⟩:=q
  .have k:X.env.scope.names.lookup y=U .local:=k;obtain Y|Y:=ok.free _ (PySem.mem_of_lookup O.1) rfl<;>rw[show X.env.scope.names.lookup y=_ from Y]at k<;>cases k
  show 6 M J;exact⟨c,E,z.keeps kp⟩
 .have e:B.cells.lookup y=U c:=e;obtain⟨E,_⟩|⟨_,z⟩:=mem e
  .obtain⟨w,z⟩:=I.cell y c E;exact⟨w,z.keeps kp⟩
  exact⟨_,z⟩
 .show H B.locals=AB;rw[hL];exact I.JM.fresh (AR _)
 .have e:B.cells.lookup y=U c:=e;obtain⟨E,_⟩|⟨E,_⟩:=mem e
  .exact I.MR y c E
  exact I.JM.fresh (ED E)
 exact absurd (show p∈([]:List (AK×Obj))++[]from hp) (!2)
def qc(I:Hs X Ho σ H s)(G:H D=U (.lst xs))(L:xs.length<Ac)(r:IU y v)(h: ∀s',Hs X Ho σ (Hu H D (.lst (xs++[y]))) s'->Q .none s'):Ar (Ay X.prog X.w) X.A (call (.builtin "list.append") [.ref D,v]) Q E s:=by
 obtain⟨M,F,n,J,e⟩:=I.JM D _ G;have Y:=J.length;refine append_at (hsz:=by rw[Aq];lia) e λh' O B=>?_;refine h {s with heap:=h'} (I.write (t':=s.toks) (by rw[G];trivial) (.inl rfl) (λb u S q=>(O.2 b S).trans q) ⟨_,B⟩ ⟨by rw[AG];exact L,F++[v],n+1,J.append (.cons r .nil),?_⟩);rw[B];simp
noncomputable def wA(X:Cx)(ifs:List Expr)(t:TT):Prop:=
 ∀(Ho:List (AK×Obj))(s:AZ)(σ:St)(H:Hp)(Q:Bool->Hp->Prop),Hs X Ho σ H s->t σ H Q→
  Ar (Ay X.prog X.w) X.A (forIn ifs AF λc r=>if r=AF then do let ok<-isTrue c X.env (eval c X.env);pure (Er ok)else pure (Er r)) (TP X Ho σ Q) X.xe s
noncomputable def wI:TT:=λz H Q=>Q AF H
def QW:wA X [] wI:=λz z z H z I h=>wpAny_tests_nil ⟨H,I,h⟩
end
def bp{B:α->AZ->Prop}(h:Ar M A t Q (λy y=>False) s)(D: ∀a s,Q a s->B a s):Ar M A t B E s:=CL h D λy y z=>False.elim z
def XB{prog:BB}{w:BJ}{A:CA}{R:Result->AZ->Prop}{s:AZ}{elt target iter:Expr}{ifs:List Expr}{scope:Scope}{pos:Pos}{it acc:Value}{env:Env}(I:Nat->AZ->Prop)
  (turn: ∀n s,I n s->Ar (Ay prog w) A (pyNext it) (λr B=>match r with
   |none=>R (.ok .next) B
   |some v=>Ar (Ay prog w) A (letOwnedTupleGo target it v) (λz D=>Ar (Ay prog w) A (assign target env v) (λz F=>
    Ar (Ay prog w) A (forIn ifs AF λc r=>if r=AF then do let ok<-isTrue c env (eval c env);pure (Er ok)else pure (Er r)) (λok E=>
     if ok=AF then Ar (Ay prog w) A (eval elt env) (λx G=>
      Ar (Ay prog w) A (call (.builtin "list.append") [acc,x]) (λz J=> ∃m,m<n/\I m J) (notedBy (Ay prog w) A env λe s'=>R (.error e) s') G) (notedBy (Ay prog w) A env λe s'=>R (.error e) s') E
     else∃m,m<n/\I m E) (notedBy (Ay prog w) A env λe s'=>R (.error e) s') F) (notedBy (Ay prog w) A env λe s'=>R (.error e) s') D) (notedBy (Ay prog w) A env λe s'=>R (.error e) s') B) (notedBy (Ay prog w) A env λe s'=>R (.error e) s') s)
  (n:Nat)(h:I n s):
  codeAny (Ay prog w) A (.compLoop (.ListComp elt [⟨target,iter,ifs,0⟩] scope pos) 0 it acc env) R s:=by
 refine codeAny_loop rfl I (λn s hI=>?_) n h;show Ar _ A ((compTurn (.ListComp elt [⟨target,iter,ifs,0⟩] scope pos) 0 it acc env).onRaise (λx=>do noteFrame x env;theTreesLotGoes x)) _ _ s;refine wpAny_noted ?_
 rw[compTurn_list];refine AL (Hh (AL (CL (turn n s hI) (λr B L=>?_) λz z h'=>h')));cases r with
 |none=>exact Ab L
 |some v=>
  refine AL (CL L (λz D O=>?_) λz z h'=>h');refine AL (CL O (λz F S=>AL (CL S (λok E M=>?_) λz z h'=>h')) λz z h'=>h');cases ok with
  |false=>exact Ab ⟨rfl,M⟩
  |true=>
   exact AL (AL (CL M (λx G Y=>AL (CL Y (λz J Z=>Ab (Ab ⟨rfl,Z⟩)) λz z h'=>h')) λz z h'=>h'))
section
variable{X:Cx}
def vB(wi:TI)(g:TG)(tt:TT)(O:TE)(vs:List Nat):TE:=λF H Q=>wi F H λJ I=> ∀D,I D=AB-> ∃W:Nat->Nat->Hp->Prop,(∃m,W 0 m (Hu I D (.lst [])))/\ ∀i m H,W i m H→
 (J.stop i H/\Q (.ref D) H)\/(J.go i H/\ ∃G:Hp->Prop,(∀E,G E-> ∃L,L<m/\W (i+1) L E)/\ ∀x E,J.eE i H x E->g x (wipe F vs) E λB H2=>wipe B vs=wipe F vs/\tt B H2 λb H3=>
  if b=AF then O B H3 λy M=> ∃acc,M D=U (.lst acc)/\acc.length<Ac/\G (Hu M D (.lst (acc++[y])))else G H3)
def aa{M:St}(hc:X.calm=AF)(hN:X.N.Nodup)(I:Hs X Ho M H s)(hi:PI X tg iter wi)(ok:Yx X.N X.env.scope scope own)(hg: ∀(s:AZ)(H:Hp)(C:AK)(cl:List (Str×AK))(fp:List AK),PG (X.XE s H scope (compEnvC scope cl C X.env) fp) tg g)(ht: ∀(s:AZ)(H:Hp)(C:AK)(cl:List (Str×AK))(fp:List AK),wA (X.XE s H scope (compEnvC scope cl C X.env) fp) ifs tt)(he: ∀(s:AZ)(H:Hp)(C:AK)(cl:List (Str×AK))(fp:List AK),PE (X.XE s H scope (compEnvC scope cl C X.env) fp) elt te)(hs: ∀x,foldedSetIterable iter X.env x=pure x)(h:vB wi g tt te (own.map (·.2)) M H Q)(hRR: ∀D C s' m F,Hs X Ho M F s'->Q (.ref D) F->s'.heap.Ns C m->Rc X Ho F C->compPost (Ay X.prog X.w) X.A X.xe use Qf (.ref D) C (.ok .next) s'):
  Ar (Ay X.prog X.w) X.A (comprehension (.ListComp elt [⟨tg,iter,ifs,0⟩] scope pos) scope X.env pos' (newList []) AJ (eval iter X.env) use) Qf X.xe s:=by
 have Y: ∀y∈scope.names,y.2=.free-> ∃c,X.env.cells.lookup y.1=U c:=λy hy e=>by
  obtain k|k:=ok.free y hy e
  .exact I.ok.has _ (.inl k)
  exact I.ok.has _ (.inr k)
 refine wpAny_comprehension_free (use:=use) rfl hs (Zs Y) ok.kind (λy hy e=>by rw[ok.uniq y hy,e])
  (Jv (hi Ho s M H _ I h) λxv s1 hx=>Jv hx λitv s2 h2=>?_)
 obtain⟨it,fp,tn,J,H2,e,I2,T,vE,f2,q⟩:=h2;subst e;refine DP (Xz ?_) (by show 0<=Ac;decide);generalize hD:s2.heap.objs.size=D;have hDn:H2 D=AB:=I2.JM.fresh (Ez hD);obtain⟨W,⟨m0,w0⟩,turn⟩:=q D hDn;generalize hs3:({s2 with heap:=s2.heap.push {cls:=.type "list",data:=.seq ([]:List Value).toArray}}:AZ)=B;have I3:Hs X Ho M (Hu H2 D (.lst [])) B:=by
  rw[<-hs3];refine I2.laid (t':=s2.toks) (λb o e=>Heap.get?_push_of_some _ e) (Ez hD) ⟨Ax _,[],0,.nil,?_⟩;rw[<-hD];exact Heap.get?_push_size _ rfl
 have h3:B.heap=s2.heap.push {cls:=.type "list",data:=.seq ([]:List Value).toArray}:=by rw[<-hs3]
 have sz: ∀b∈fp,b<s2.heap.objs.size:=λb E=>by
  obtain⟨o,e,_⟩:=T.obj _ _ vE b E;exact Aj e
 have Z: ∀b∈fp,Rc X Ho (Hu H2 D (.lst [])) b/\b<B.heap.objs.size:=λb E=>by
  have YK:=sz b E;refine⟨⟨?_,(f2 b E).2⟩,by rw[h3,BM];exact FH YK⟩;rw[Hv (by rw[<-hD];exact BH YK)];exact(f2 b E).1
 have vD:tn 0 B.heap:=T.keep _ _ _ vE λb t o e=>by rw[h3];exact Heap.get?_push_of_some _ e
 have I4:=Yg I3 ok hN Z;have pg:=hg B (Hu H2 D (.lst [])) B.heap.objs.size (Bx (B.heap.objs.size+1) scope.names (JW X.env.cells scope.names [])) fp;have pt:=ht B (Hu H2 D (.lst [])) B.heap.objs.size (Bx (B.heap.objs.size+1) scope.names (JW X.env.cells scope.names [])) fp;have pe:=he B (Hu H2 D (.lst [])) B.heap.objs.size (Bx (B.heap.objs.size+1) scope.names (JW X.env.cells scope.names [])) fp;show codeAny _ _ (.compStart (.ListComp elt [⟨tg,iter,ifs,0⟩] scope pos) 0 (.ref it) (.ref D) (compEnvC scope (Bx (B.heap.objs.size+1) scope.names (JW X.env.cells scope.names [])) B.heap.objs.size X.env)) (compPost (Ay X.prog X.w) X.A X.xe use Qf (.ref D) B.heap.objs.size) {B with heap:=pushCells (B.heap.push {cls:=.type "dict",data:=.dict #[]}) scope.names};have nfp: ∀b∈fp,(Hu H2 D (.lst [])) b=AB:=λb E=>(Z b E).1.1;generalize hce:compEnvC scope (Bx (B.heap.objs.size+1) scope.names (JW X.env.cells scope.names [])) B.heap.objs.size X.env=G at I4 pg pt pe⊢;have cL:G.locals=B.heap.objs.size:=by subst hce;rfl
 generalize vn:Hu H2 D (.lst [])=H3 at I3 I4 pg pt pe w0 nfp Z;generalize hs4:({B with heap:=pushCells (B.heap.push {cls:=.type "dict",data:=.dict #[]}) scope.names}:AZ)=s4 at I4⊢;have st4:tn 0 s4.heap:=T.keep _ _ _ vD λb t o e=>by rw[<-hs4];exact El _ _ _ _ (Heap.get?_push_of_some _ e)
 have L: ∀{σ':St}{F:Hp}{s':AZ},Hs (X.XE B H3 scope G fp) [] σ' F s'->(∀b∈fp,F b=AB)-> ∀b∈fp,Rc (X.XE B H3 scope G fp) [] F b:=λ{σ' F s'} I' hn b E=>
  ⟨hn b E,(I'.ok.rD b E).1,I'.ok.Zi b E,.inl E,λx c e=>(I'.ok.rD b E).2 x c e,λp hp=>absurd (show p∈([]:List (AK×Obj))++[]from hp) (!2)⟩
 have loop:codeAny (Ay X.prog X.w) X.A (.compLoop (.ListComp elt [⟨tg,iter,ifs,0⟩] scope pos) 0 (.ref it) (.ref D) G) (compPost (Ay X.prog X.w) X.A X.xe use Qf (.ref D) B.heap.objs.size) s4:=by
  refine XB (λn s'=> ∃i F,Hs (X.XE B H3 scope G fp) [] (wipe M (own.map (·.2))) F s'/\tn i s'.heap/\(∀b∈fp,F b=AB)/\W i n F) ?_ m0 ⟨0,H3,I4,st4,nfp,w0⟩
  rintro n s5 ⟨i,H5,I5,st5,n5,w5⟩;obtain⟨stop,qq⟩|⟨go,Nx,hNx,step⟩:=turn i n H5 w5
  .have td:=T.done (X.XE B H3 scope G fp) rfl rfl rfl hc i [] s5 _ H5 (λt t=>False) I5 (L I5 n5) st5 stop;refine bp td λr s6 ⟨hr,I6⟩=>?_;subst hr;have I7:Hs X Ho M H5 s6:=I3.nI (ch:=fp) I6.os I6.base I6.JM I6.bare λb E=>⟨(Z b E).1.2.2.2.1,(Z b E).1.2.1,(Z b E).1.2.2.2.2.1,(Z b E).1.2.2.2.2.2⟩;have nC:H5 B.heap.objs.size=AB:=by
    have z:H5 G.locals=AB:=I6.free;rw[cL]at z;exact z
   obtain⟨m,hn,_⟩:=I6.loc;have hn:s6.heap.Ns G.locals m:=hn;rw[cL]at hn;exact hRR D B.heap.objs.size s6 m H5 I7 qq hn (I3.W2 (AR _) nC)
  have ti:=T.item (X.XE B H3 scope G fp) rfl rfl rfl hc i [] s5 _ H5 (λt t=>False) I5 (L I5 n5) st5 go;refine bp ti λr s6 ⟨u,hr,h6⟩=>?_;subst hr;refine bp h6 λ_ s7 ⟨x,H7,I7,r7,y7,wg,n7⟩=>?_;have I7':=I7.pinned (L I7 n7) (T.obj _ _ wg);refine bp (pg _ s7 _ H7 x u _ I7' r7 (step x H7 y7)) λ_ s8 ⟨O,H8,I8,hw8,q8⟩=>?_;refine bp (pt _ s8 O H8 _ I8 q8) λb s9 ⟨H9,I9,q9⟩=>?_;have fin: ∀{s':AZ}{F:Hp},Hs (X.XE B H3 scope G fp) ([]++TV fp s7.heap) O F s'->Nx F-> ∃m,m<n/\ ∃i F,Hs (X.XE B H3 scope G fp) [] (wipe M (own.map (·.2))) F s'/\tn i s'.heap/\(∀b∈fp,F b=AB)/\W i m F:=λ{s' F} I' nx=>by
   obtain⟨m',hm,w'⟩:=hNx F nx;have S: ∀b∈fp,∀o,s7.heap.get? b=U o->s'.heap.get? b=U o/\F b=AB:=λb E o e=>
    let z:=I'.pin (b,o) (Bi _ (Bi _ (QB E e)))
    ⟨z.1,z.2.1⟩
   have hl:(wipe M (own.map (·.2))).length=O.length:=by rw[<-hw8,OM]
   refine⟨m',hm,i+1,F,(I'.QO (Ho:=[])).weak hl (λj v e=>?_),T.keep _ _ _ wg λb E o e=>(S b E o e).1,λb E=>?_,w'⟩
   .rw[<-hw8]at e;exact(Q7 e).1
   obtain⟨o,e,_⟩:=T.obj _ _ wg b E;exact(S b E o e).2
  cases b with
  |false=>
   simp only[Ai,BX]at q9⊢;exact fin I9 q9
  |true=>
   simp only[BS]at q9⊢;refine bp (pe _ s9 O H9 _ I9 q9) λz s10 ⟨yv,H10,I10,r10,acc,zK,xy,nx⟩=>?_;exact qc (X:=X.XE B H3 scope G fp) I10 zK xy r10 λs11 I11=>fin I11 nx
 exact codeAny_compStart_list loop (T.self X.A 0 _ _ _ st4 loop)
def aL(E:X.calm=AF)(F:X.N.Nodup)(G:PI X B iter wi)(ok:Yx X.N X.env.scope scope own)(J: ∀(s:AZ)(H:Hp)(C:AK)(cl:List (Str×AK))(fp:List AK),PG (X.XE s H scope (compEnvC scope cl C X.env) fp) B g)(L: ∀(s:AZ)(H:Hp)(C:AK)(cl:List (Str×AK))(fp:List AK),wA (X.XE s H scope (compEnvC scope cl C X.env) fp) ifs tt)(M: ∀(s:AZ)(H:Hp)(C:AK)(cl:List (Str×AK))(fp:List AK),PE (X.XE s H scope (compEnvC scope cl C X.env) fp) elt O)(hs:autoParam (∀x,foldedSetIterable iter X.env x=pure x) l9):
  PE X (.ListComp elt [⟨B,iter,ifs,0⟩] scope pos) (vB wi g tt O (own.map (·.2))):=by
 intro Ho s σ H Q I h;rw[eval_ListComp];refine aa E F I G ok J L M hs h λD C s' m S Y q hn f=>⟨m,hn,λZ sb=>?_⟩;obtain⟨f0,f1,f2,f3,f4,f5⟩:=f;exact⟨.ref D,S,Y.turned (t':=s'.toks) (λb o hb e=>(sb.2 b hb).trans e) f0 f1 f3 f4 f5,rfl,q⟩
set_option tactic.hygienic true
def fb(hc:X.calm=AF)(S:X.N.Nodup)(hy:X.N[i]? =U y)(B:X.env.scope.names.lookup y=U .local)(G:swapsWith (.ListComp elt [⟨E,iter,ifs,0⟩] scope pos) (U (.Name y J)) F.line X.env=pure AF)(hi:PI X E iter wi)(ok:Yx X.N X.env.scope scope own)(hg: ∀(s:AZ)(H:Hp)(C:AK)(cl:List (Str×AK))(fp:List AK),PG (X.XE s H scope (compEnvC scope cl C X.env) fp) E g)(ht: ∀(s:AZ)(H:Hp)(C:AK)(cl:List (Str×AK))(fp:List AK),wA (X.XE s H scope (compEnvC scope cl C X.env) fp) ifs tt)(he: ∀(s:AZ)(H:Hp)(C:AK)(cl:List (Str×AK))(fp:List AK),PE (X.XE s H scope (compEnvC scope cl C X.env) fp) elt Y)(hs:autoParam (∀x,foldedSetIterable iter X.env x=pure x) l9):
  PS X (.Assign [.Name y J] (.ListComp elt [⟨E,iter,ifs,0⟩] scope pos) F) (rd (vB wi g tt Y (own.map (·.2))) (UG i)):=by
 intro Ho s Z H D I h;rw[exec_Assign_Name_used _ _ _ _ G];refine AL (Hh (AL ?_));show Ar _ X.A (do let _<-comprehension (.ListComp elt [⟨E,iter,ifs,0⟩] scope pos) scope X.env (firstIterPos [⟨E,iter,ifs,0⟩] pos) (newList []) AJ (eval iter X.env) (U (assign (.Name y J) X.env))) _ _ s;have h:vB wi g tt Y (own.map (·.2)) Z H (λx H1=>UG i x Z H1 D.nx):=h;refine AL (Jv (aa (Qf:=λw s'=>SP X Ho D .next s') hc S I hi ok hg ht he hs h λL C s' m H' I' q hn f=>?_) λw s' hq=>Ab (Ab hq));show Ar _ _ (assign (.Name y J) X.env (.ref L)) _ _ _;refine Gb (VR (v:=V.ref L) I' S hy (.inl B) rfl (λs2 I2 ⟨a,sb,ha⟩=>?_) (.inr B));obtain⟨f0,f1,f2,f3,f4,f5⟩:=f;have M:C≠a:=by
  obtain z|z:=ha
  .rw[z];exact f1
  exact λe=>f4 y a z e.symm
 refine⟨m,hn.sameBut sb M,λh3 O=>?_⟩;exact⟨_,H',I2.turned (t':=s2.toks) (λb o hb e=>(O.2 b hb).trans e) f0 f1 f3 f4 f5,q⟩
def jn{elt:Expr}{D:List Comprehension}{scope:Scope}{pos B:Pos}{y:Str}{l:Nat}{env:Env}(E:env.scope.kind=.function)(F:env.scope.names.lookup y=U .local)(G:(B.line==pos.line)=AF)
  (ha:(scope.names.any λ(n,k)=>n==y&&(k== .local||k== .cell))=AJ):swapsWith (.ListComp elt D scope pos) (U (.Name y B)) l env=pure AF:=by
 have ky:env.kindOf y=U .local:=F;have I:env.blockKind=.function:=by unfold Env.blockKind;rw[E];rfl
 unfold swapsWith;simp only[I,ky,ha,show(Expr.ListComp elt D scope pos).pos=pos from rfl,show(Expr.Name y B).pos=B from rfl,G];rfl
end
noncomputable def uZ(N:List Str)(sc scope:Scope)(own:List (Str×Nat)):Bool:=
 (match scope.kind with|.function=>AF|_=>AJ)&&(scope.names.all λy=>decide (scope.names.lookup y.1=U y.2))&&(own.all λp=>decide (N[p.2]? =U p.1))&&
  (scope.names.all λy=>match y.2 with
   |.free=>(match sc.names.lookup y.1 with|some .cell=>AF|some .free=>AF|_=>AJ)
   |.local=>decide (y.1∈own.map (·.1))||decide (y.1∉N)
   |.cell=>decide (y.1∈own.map (·.1))||decide (y.1∉N)
   |_=>AF)
def Ou(h:uZ N sc scope own=AF):Yx N sc scope own:=by
 unfold uZ at h;simp only[AX,A7,Cs]at h;obtain⟨⟨⟨D,F⟩,G⟩,E⟩:=h;refine⟨?_,F,G,λy B e=>?_,λy B e=>?_⟩
 .split at D
  .assumption
  cases D
 .have q:=E y B;simp only[e]at q;split at q<;>first|exact .inl (!7)|exact .inr (!7)|cases q
 have q:=E y B;obtain e|e:=e<;>(simp only[e,BE,Cs]at q;exact q)
section
variable{prog:BB}{w:BJ}{A:CA}{R:Result->AZ->Prop}{s:AZ}{elt t0 i0 t1 i1:Expr}{ABC ABB:List Expr}{scope:Scope}{pos:Pos}{it acc:Value}{env:Env}
end
section
variable{X:Cx}
end
section
variable{κ:Type} [DecidableEq κ]
noncomputable def Lp(B:List (κ×V))(k:κ):Option V:=(B.find? λD=>decide (D.1=k)).map (·.2)
noncomputable def putK(B:List (κ×V))(k:κ)(v:V):List (κ×V):=
 if(B.any λD=>decide (D.1=k))=AF then B.map (λD=>if D.1=k then(D.1,v)else D)else B++[(k,v)]
def Lo{k:κ}(e:p.1=k):Lp (p::r) k=U p.2:=by simp[Lp,List.find?_cons,e]
def LD{k:κ}(e: ¬p.1=k):Lp (p::r) k=Lp r k:=by simp[Lp,List.find?_cons,e]
theorem Sk(k:κ): ∀B:List (κ×V),(B.any λD=>decide (D.1=k))=(Lp B k).isSome
 |[]=>rfl
 |p::r=>by
  rw[CS];by_cases e:p.1=k
  .simp only[Lo e,Af e,Cy,Bf]
  rw[LD e,AM e,CH];exact Sk k r
theorem VL(k j:κ)(y:V): ∀B:List (κ×V),Lp B k=AB->Lp (B++[(k,y)]) j=if j=k then U y else Lp B j
 |[],_=>by
  by_cases e:k=j
  .rw[AI e.symm];exact Lo (p:=(k,y)) e
  rw[AD (λz=>e z.symm)];exact LD (p:=(k,y)) e
 |p::r,hn=>by
  rw[Az];have D: ¬p.1=k:=λz=>by rw[Lo z]at hn;cases hn
  rw[LD D]at hn;have E:=VL k j y r hn;by_cases e:p.1=j
  .rw[Lo e,Lo e,AD (λz=>D (e.trans z))]
  rw[LD e,LD e,E]
def Ro(B:List (κ×V))(k:κ)(v:V):(putK B k v).length<=B.length+1:=by
 unfold putK;split
 .rw[AY];lia
 rw[AG,AN,Cr];lia
def TU{k:κ}(v:V)(h:Lp B k=AB):putK B k v=B++[(k,v)]:=by
 unfold putK;rw[Sk,h];exact AD (!1)
def O1.ME(r:O1 o u):o.isSome=u.isSome:=by
 cases o with
 |none=>cases u with
  |none=>rfl
  |some _=>exact(show False from r).elim
 |some _=>cases u with
  |none=>exact(show False from r).elim
  |some _=>rfl
def KV.val(r:KV B vs)(k:κ):O1 (Lp B k) (valueAt vs k):=by
 unfold KV at r
 induction r with
 |nil=>exact C1
 | @cons p q ps D h t G=>
  obtain⟨F,I⟩:=h;by_cases e:p.1=k
  .have E:q.1=k:=F.symm.trans e;have b:valueAt (q::D) k=U q.2:=by simp[valueAt,List.find?_cons,E]
   rw[Lo e,b];exact I
  have E: ¬q.1=k:=λz=>e (F.trans z);have b:valueAt (q::D) k=valueAt D k:=by simp[valueAt,List.find?_cons,E]
  rw[LD e,b];exact G
theorem KV.any(r:KV B vs)(k:κ):(B.any λD=>decide (D.1=k))=vs.any λD=>decide (D.1=k):=by
 unfold KV at r
 induction r with
 |nil=>rfl
 |cons h t E=>rw[CS,CS,E,h.1]
def KV.oQ(r:KV E vs)(k:κ)(F:IU y u):
  KV (E.map λB=>if B.1=k then(B.1,y)else B) (vs.map λB=>if B.1=k then(B.1,u)else B):=by
 unfold KV at r⊢
 induction r with
 |nil=>exact .nil
 | @cons p q ps J h t G=>
  rw[Av,Av];refine .cons ?_ G
  obtain⟨D,I⟩:=h;by_cases e:p.1=k
  .rw[AI e,AI (D.symm.trans e)];exact⟨D,F⟩
  rw[AD e,AD (λz=>e (D.trans z))];exact⟨D,I⟩
def KV.put(r:KV B vs)(k:κ)(D:IU y u):KV (putK B k y) (stored vs k u):=by
 unfold putK stored;rw[r.any k];by_cases e:(vs.any λE=>decide (E.1=k))=AF
 .rw[AI e,AI e];exact r.oQ k D
 rw[AD e,AD e];exact Paired.snoc r ⟨rfl,D⟩
theorem KV.length{vs:List (κ×Value)}(r:KV B vs):B.length=vs.length:=Paired.length r
end
def Tw(r:IU (kV k) u):(J0 P w).is k u=AF:=by
 cases k with
 |inl i=>obtain⟨t,e⟩:=(show∃t,u=Value.int i t from r);subst e;exact X3 P w i t
 |inr x=>obtain⟨t,e⟩:=(show∃t,u=Value.str x t from r);subst e;exact X2 P w x t
theorem Vl: ∀{B:List Key}{us:List Value},IM (B.map kV) us->ItemsAre (J0 P w) B us
 |[],_,r=>by show 6 EF r;exact .nil
 |k::B,_,r=>by
  rw[Av]at r;cases r with
  |cons h t=>exact .cons (Tw h) (Vl t)
noncomputable abbrev KT(H:Hp):List (List Key×V)->List (List Key×AK×Value)->Prop:=Paired λp q=>p.1=q.1/\H q.2.1=U (.tup (p.1.map kV))/\IU p.2 q.2.2
def KT.val(r:KT H B xs)(k:List Key):O1 (Lp B k) ((atKey xs k).map (·.2)):=by
 induction r with
 |nil=>exact C1
 | @cons p q ps D h t G=>
  obtain⟨F,_,I⟩:=h;by_cases e:p.1=k
  .have E:q.1=k:=F.symm.trans e;have b:atKey (q::D) k=U q.2:=by simp[atKey,List.find?_cons,E]
   rw[Lo e,b];exact I
  have E: ¬q.1=k:=λz=>e (F.trans z);have b:atKey (q::D) k=atKey D k:=by simp[atKey,List.find?_cons,E]
  rw[LD e,b];exact G
def KT.oQ(r:KT H D xs)(k:List Key)(G:IU y u):
  KT H (D.map λE=>if E.1=k then(E.1,y)else E) (xs.map (putAt k u)):=by
 induction r with
 |nil=>exact .nil
 | @cons p q ps L h t I=>
  rw[Av,Av];refine .cons ?_ I
  obtain⟨B,F,J⟩:=h;unfold putAt;by_cases e:p.1=k
  .rw[AI e,AI (B.symm.trans e)];exact⟨B,F,G⟩
  rw[AD e,AD (λz=>e (B.trans z))];exact⟨B,F,J⟩
def KT.put(r:KT H B xs)(k:List Key)(E:H b=U (.tup (k.map kV)))(D:IU y u):
  KT H (putK B k y) (storedH xs k b u):=by
 have e:(B.any λF=>decide (F.1=k))=(atKey xs k).isSome:=by
  rw[Sk,(r.val k).ME,EC]
 unfold putK storedH;rw[e];by_cases q:(atKey xs k).isSome=AF
 .rw[AI q,AI q];exact r.oQ k D
 rw[AD q,AD q];exact Paired.snoc r ⟨rfl,E,D⟩
def KT.keeps(r:KT H B xs)(E: ∀b D,H b=U (.tup D)->F b=U (.tup D)):KT F B xs:=
 Paired.o8 r λy y z=>⟨z.1,E _ _ z.2.1,z.2.2⟩
section
variable{P:BB}{w:BJ}{H:Hp}{h:Heap}{a:AK}
def mT(ok:OA P w H h)(e:Rd H a u):Jp P w H h a u:=e.ok ok
def YW(ok:OA P w H h)(e:Rd H a (.dK B)):B.length<=Ac/\(a==CM)=AJ/\ ∃vs,KV B vs/\h.DictOf (J0 P w) a vs:=
 show Jp P w H h a (.dK B)from mT ok e
def uW(ok:OA P w H h)(e:H a=U (.dK B)):B.length<=Ac/\(a==CM)=AJ/\ ∃vs,KV B vs/\h.DictOf (J0 P w) a vs:=YW ok (.inl e)
def Ts(ok:OA P w H h)(e:H a=U (.tup (D.map kV))):(tupleKind (J0 P w)).is h D a:=by
 obtain⟨_,B,r,o,E,F,n,G⟩:=(show Jp P w H h a (.tup (D.map kV))from ok a _ e);exact⟨o,B.toArray,n,E,F,G,by simpa using Vl r⟩
def YT(ok:OA P w H h)(e:Rd H a (.dT B)):B.length<=Ac/\(a==CM)=AJ∧
  ∃xs,KT H B xs/\h.DictOfH (tupleKind (J0 P w)) a xs:=by
 obtain⟨z,y,xs,r,o,E,F,G,I,J,L,M⟩:=(show Jp P w H h a (.dT B)from mT ok e);refine⟨z,y,xs,r,o,E,F,G,I,J,L,λx hx=>?_,M⟩;have all: ∀{l:List (List Key×V)}{m:List (List Key×AK×Value)},KT H l m-> ∀x∈m,(tupleKind (J0 P w)).is h x.1 x.2.1:=by
  intro l m q
  induction q with
  |nil=>intro x hx;exact nomatch hx
  | @cons p q ps S D t O=>
   intro x hx;obtain e|hx:=AO.mp hx
   .subst e;exact Ts ok (by rw[<-D.1];exact D.2.1)
   exact O x hx
 exact all r x hx
def uV(ok:OA P w H h)(e:H a=U (.dT B)):B.length<=Ac/\(a==CM)=AJ∧
 ∃xs,KT H B xs/\h.DictOfH (tupleKind (J0 P w)) a xs:=YT ok (.inl e)
end
noncomputable def MA(H:Hp)(a:AK)(y:V)(r:Option V):Prop:=
 (∃B k,Rd H a (.dK B)/\y=kV k/\r=Lp B k)\/ ∃B k b,Rd H a (.dT B)/\y=.ref b/\H b=U (.tup (k.map kV))/\r=Lp B k
noncomputable def Z7(H:Hp)(a:AK)(y v:V)(D:Hp):Prop:=
 (∃B k,H a=U (.dK B)/\y=kV k/\B.length<Ac/\D=Hu H a (.dK (putK B k v)))∨
 ∃B k b,H a=U (.dT B)/\y=.ref b/\H b=U (.tup (k.map kV))/\B.length<Ac/\D=Hu H a (.dT (putK B k v))
def MA.t(e:H a=U (.dT B))(D:H b=U (.tup (k.map kV))):MA H a (.ref b) (Lp B k):=.inr ⟨B,k,b,.inl e,rfl,D,rfl⟩
def Z7.t(e:H a=U (.dT B))(D:H b=U (.tup (k.map kV)))(E:B.length<Ac):
 Z7 H a (.ref b) v (Hu H a (.dT (putK B k v))):=.inr ⟨B,k,b,e,rfl,D,E,rfl⟩
section
variable{X:Cx}{Ho:List (AK×Obj)}{σ:St}{H:Hp}{s:AZ}{a:AK}{y v:V}{u r:Value}{o:Option V}{A:CA}{E:Value->AZ->Prop}
def Hs.big(I:Hs X Ho σ H s):CM<s.heap.objs.size:=by
 have h:BQ<s.heap.objs.size:=(I.mod.glob.keeps I.bk).lt;exact AAL (!1) h
def dR(O:A.units+1<cLine)(I:Hs X Ho σ H s)(g:MA H a y (U v))(M:IU y u)(h: ∀D s',Hs X Ho σ H s'->IU v D->Q D s'):
  Ar (Ay X.prog X.w) A (getItem (.ref a) u) Q E s:=by
 obtain⟨F,k,e,G,l⟩|⟨F,k,b,e,G,S,l⟩:=g
 .subst G;obtain⟨z,hd,vs,rel,dd⟩:=YW I.JM e;obtain⟨D,J,B⟩:=O1.some_of (v:=v) (o:=valueAt vs k) (by rw[l];exact rel.val k);exact Gx (Tw M) dd.mapOf J (h D _ (I.tok _) B)
 subst G;cases(show u=BF b from M);obtain⟨z,hd,xs,rel,dd⟩:=YT I.JM e;obtain⟨D,J,B⟩:=O1.some_of (v:=v) (o:=(atKey xs k).map (·.2)) (by rw[l];exact rel.val k);obtain⟨p,Y,L⟩:=EB.mp J;refine wpAny_getItem_heap (Dz O) (Ts I.JM S) dd Y ?_
 rw[L];exact h D _ (I.tok _) B
def zo(G:A.units+1<cLine)(I:Hs X Ho σ H s)(g:MA H a y o)(F:IU y u)(h: ∀s',Hs X Ho σ H s'->Q (.bool o.isSome) s'):
  Ar (Ay X.prog X.w) A (Bm .In u (.ref a)) Q E s:=by
 obtain⟨B,k,e,D,l⟩|⟨B,k,b,e,D,J,l⟩:=g
 .subst D;obtain⟨z,hd,vs,rel,dd⟩:=YW I.JM e;refine wpAny_in_of (Tw F) hd dd.mapOf ?_
  rw[<-(rel.val k).ME,<-l];exact h _ (I.tok _)
 subst D;cases(show u=BF b from F);obtain⟨z,hd,xs,rel,dd⟩:=YT I.JM e;refine wpAny_in_heap (Dz G) (Ts I.JM J) hd dd ?_
 have q:=(rel.val k).ME;rw[EC]at q;rw[<-q,<-l];exact h _ (I.tok _)
def lQ(G:A.units+1<cLine)(I:Hs X Ho σ H s)(g:MA H a y o)(F:IU y u)(h: ∀s',Hs X Ho σ H s'->Q (.bool (!o.isSome)) s'):
  Ar (Ay X.prog X.w) A (Bm .NotIn u (.ref a)) Q E s:=by
 obtain⟨B,k,e,D,l⟩|⟨B,k,b,e,D,J,l⟩:=g
 .subst D;obtain⟨z,hd,vs,rel,dd⟩:=YW I.JM e;refine wpAny_notIn_of (Tw F) hd dd.mapOf ?_
  rw[<-(rel.val k).ME,<-l];exact h _ (I.tok _)
 subst D;cases(show u=BF b from F);obtain⟨z,hd,xs,rel,dd⟩:=YT I.JM e;refine wpAny_notIn_heap (Dz G) (Ts I.JM J) hd dd ?_
 have q:=(rel.val k).ME;rw[EC]at q;rw[<-q,<-l];exact h _ (I.tok _)
def bM(I:Hs X Ho σ H s)(B:nP (H a))(hs:E2 a s.heap h')(D: ∃q,h'.get? a=U q)(new:Jp X.prog X.w (Hu H a ob) h' a ob):
  Hs X Ho σ (Hu H a ob) {s with heap:=h',toks:=t'}:=
 I.write (x:=a) (e:=a) B (.inl rfl) (λb q F z=>(hs.2 b F).trans z) D new
def qR(z:B.length<=Ac)(hd:(a==CM)=AJ)(rel:KV B vs)(dd:h'.DictOf (J0 P w) a vs):
 Jp P w D h' a (.dK B):=⟨z,hd,vs,rel,dd⟩
def dQ(hu:A.units+1<cLine)(I:Hs X Ho σ H s)(g:Z7 H a y v H')(O:IU y u)(S:IU v r)(h: ∀s',Hs X Ho σ H' s'->Q () s'):
  Ar (Ay X.prog X.w) A (setItem (.ref a) u r) Q E s:=by
 obtain⟨B,k,e,G,l,J⟩|⟨B,k,b,e,G,Y,l,J⟩:=g
 .subst G J;obtain⟨z,hd,vs,rel,dd⟩:=uW I.JM e;have L:vs.length<=Ac:=by rw[<-rel.length];exact z
  have M:(putK B k v).length<=Ac:=by have:=Ro B k v;lia
  refine wpAny_setItem_pairs (hsz:=L) (Tw O) dd λh' D hs=>h _ ?_;have he: ∃q,h'.get? a=U q:=let⟨q,_,_,F,_⟩:=D;⟨q,F⟩;exact bM I (by rw[e];exact C1) hs he (qR M hd (rel.put k S) D)
 subst G J;cases(show u=BF b from O);obtain⟨z,hd,xs,rel,dd⟩:=uV I.JM e;have L:xs.length<=Ac:=by rw[<-Paired.length rel];exact z
 have M:(putK B k v).length<=Ac:=by have:=Ro B k v;lia
 refine wpAny_setItem_heap (hsz:=L) (Dz hu) (Ts I.JM Y) dd λh' D hs=>h _ ?_;obtain⟨q,es,ep,F,h2,h3,h4,_,h5⟩:=D;refine bM I (by rw[e];exact C1) hs ⟨q,F⟩ ⟨M,hd,_,(rel.put k Y S).keeps λc ys Z=>?_,q,es,ep,F,h2,h3,h4,h5⟩;rw[Hv (OY Z e (λz=>nomatch z))];exact Z
end
section
variable{X:Cx}{Ho:List (AK×Obj)}{σ:St}{H:Hp}{s:AZ}{a:AK}{LZ:List (Key×V)}{k:Key}{u:Value}{A:CA}{E:Value->AZ->Prop}
end
noncomputable def qj(i:Expr):Prop:= ∀B D,subscripted i AJ B D=operate [B,D] (getItem B D)
def aD{id:String}(M:typeLookup (.type T) "__getitem__"=pure (U (.builtin id)))(hs:qj slice)(h:Ar (Ay prog w) A (eval value env) (λo F=>Ar (Ay prog w) A (eval slice env) (λi B=>B.TypeIs o T/\Ar (Ay prog w) A (getItem o i) Q E B) E F) E s):
  Ar (Ay prog w) A (eval (.Subscript value slice pos) env) Q E s:=by
 refine HQ (CL h (λo F I=>CL I (λi B D=>?_) λz z x=>x) λz z x=>x);obtain⟨L,D⟩:=D;unfold subscriptTail;refine AL ?_
 rw[getitemInPython_of_ne L.not_modules];refine AL (Fn L M ?_);have fin:Ar (Ay prog w) A (subscripted slice AJ o i) (λr G=>Ar (Ay prog w) A (letTemporaryGo value o r>>= λz=>pure r) Q E G) E B:=by
  rw[hs o i];exact wpAny_operating (CL D (λr G J=>AL (wpAny_letTemporaryGo (Ab J))) λz z x=>x)
 first
  |exact Ab (AL fin)
  |exact AL (Ab (AL fin))
  |exact AL fin
def YY{D:St}(I:Hs X Ho D H s)(g:MA H a y o):s.TypeIs (.ref a) "dict":=by
 obtain⟨B,k,e,_,_⟩|⟨B,k,b,e,_,_,_⟩:=g
 .obtain⟨_,_,vs,_,dd⟩:=YW I.JM e;exact dd.typeIs
 obtain⟨_,_,xs,_,dd⟩:=YT I.JM e;exact dd.typeIs
inductive Dg (H:Hp)(a:AK)(y:V)(Q:V->Prop):Prop
 |mk (v:V)(h:MA H a y (U v))(q:Q v)
inductive Do (H:Hp)(a:AK)(y:V)(Q:Option V->Prop):Prop
 |mk (o:Option V)(h:MA H a y o)(q:Q o)
noncomputable def rb(D ty:TE):TE:=λB H Q=>D B H λx E=>ty B E λy H2=>match x with|.ref a=>(Dg H2 a y λv=>Q v H2)|_=>False
noncomputable def wW(ty D:TE):TE:=λB H Q=>ty B H λy E=>D B E λx H2=>match x with|.ref a=>(Do H2 a y λo=>Q (.bl (o.isSome)) H2)|_=>False
noncomputable def jm(ty D:TE):TE:=λB H Q=>ty B H λy E=>D B E λx H2=>match x with|.ref a=>(Do H2 a y λo=>Q (.bl (!o.isSome)) H2)|_=>False
noncomputable def ro(F ty G:TE):TS:=λD B H=>G B H λv I=>F B I λx H2=>ty B H2 λy H3=>match x with|.ref a=>(∃E,Z7 H3 a y v E/\D.nx B E)|_=>False
section
variable{X:Cx}{o i e value:Expr}{pos pos' Y7:Pos}{td ty tv:TE}
def Qa(G:X.A.units+1<cLine)(J:PE X o td)(L:PE X i ty)(hs:qj i):PE X (.Subscript o i pos) (rb td ty):=by
 intro Ho s D H Q I h;refine aD PySem.F.slot_dict_getitem.lookup hs (Jv (J Ho s D H _ I h) λu M ⟨x,O,S,Y,Z⟩=>Jv (L Ho M D O _ S Z) λiv s2 ⟨y,H2,E,ry,q0⟩=>?_);obtain⟨a,ex,v,g,q2⟩:=mR q0;subst ex;obtain rfl:u=BF a:=Y;exact⟨YY E g,dR G E g ry λw' s3 I3 B=>⟨v,H2,I3,B,q2⟩⟩
def fw(D:X.A.units+1<cLine)(E:PE X i ty)(F:PE X o td):PC X .In i o (wW ty td):=by
 intro Ho s B H Q I h;refine Jv (E Ho s B H _ I h) λiv G ⟨y,J,L,M,O⟩=>Jv (F Ho G B J _ L O) λu s2 ⟨x,H2,S,Y,Z⟩=>?_;obtain⟨a,ex,ov,g,q2⟩:=mR Z;subst ex;obtain rfl:u=BF a:=Y;exact zo D S g M λs3 I3=>⟨.bl ov.isSome,H2,I3,rfl,q2⟩
def PH(D:X.A.units+1<cLine)(E:PE X i ty)(F:PE X o td):PC X .NotIn i o (jm ty td):=by
 intro Ho s B H Q I h;refine Jv (E Ho s B H _ I h) λiv G ⟨y,J,L,M,O⟩=>Jv (F Ho G B J _ L O) λu s2 ⟨x,H2,S,Y,Z⟩=>?_;obtain⟨a,ex,ov,g,q2⟩:=mR Z;subst ex;obtain rfl:u=BF a:=Y;exact lQ D S g M λs3 I3=>⟨.bl (!ov.isSome),H2,I3,rfl,q2⟩
def WW(E:X.A.units+1<cLine)(F:PE X o td)(G:PE X i ty)(J:PE X value tv)(hs:swapsWith value (U (.Subscript o i pos')) pos.line X.env=pure AJ):
  PS X (.Assign [.Subscript o i pos'] value pos) (ro td ty tv):=by
 intro Ho s B H D I h;refine wpAny_Assign_Subscript (Jv (J Ho s B H _ I h) λr L ⟨v,M,O,S,Y⟩=>Jv (F Ho L B M _ O Y) λu Z ⟨x,H2,I2,rx,q2⟩=>Jv (G Ho Z B H2 _ I2 q2) λiv s3 ⟨y,H3,I3,ry,q0⟩=>?_) hs;obtain⟨a,ex,H4,g,q3⟩:=mR q0;subst ex;obtain rfl:u=BF a:=rx;exact dQ E I3 g ry S λs4 I4=>⟨B,H4,I4,q3⟩
end
def iX(h:Heap)(B:CM<h.objs.size):Jp P w H (h.push {cls:=.type "dict",data:=.dict #[]}) h.objs.size (.dT []):=
 ⟨Ax _,C4.mpr (Ne.symm (BH B)),[],.nil,_,#[],0,Heap.get?_push_size _ rfl,⟨rfl,rfl,rfl⟩,rfl,rfl,HZ⟩
def er:TE:=λz H Q=> ∀p,H p=AB->Q (.ref p) (Hu H p (.dT []))
section
variable{X:Cx}{pos:Pos}
def fu:PE X (.Dict [] [] pos) er:=λHo s B H Q I h=>
 wpAny_Dict_empty ⟨.ref s.heap.objs.size,_,I.laid (a:=s.heap.objs.size) (o:=.dT []) (t':=s.toks) (λz z q=>Heap.get?_push_of_some _ q) (AR _) (iX s.heap I.big),rfl,h _ (I.JM.fresh (AR _))⟩
end
section
variable{X:Cx}{Ho:List (AK×Obj)}{σ:St}{H:Hp}{s:AZ}{a:AK}{y d:V}{u r:Value}{o:Option V}{A:CA}{E:Value->AZ->Prop}
end
section
variable{X:Cx}{o e f:Expr}{apos M0:Pos}{td ty tx:TE}
end
section
variable{X:Cx}{Ho:List (AK×Obj)}{σ:St}{H:Hp}{s:AZ}{a:AK}{LZ:List (Key×V)}{A:CA}{E:Value->AZ->Prop}
end
section
variable{X:Cx}{Ho:List (AK×Obj)}{σ:St}{H:Hp}{s:AZ}{a:AK}{y:V}{u:Value}{A:CA}{E:Value->AZ->Prop}
end
section
variable{prog:BB}{w:BJ}{A:CA}{E:Value->AZ->Prop}
end
section
variable{X:Cx}
end
section
variable{X:Cx}{Ho:List (AK×Obj)}{σ:St}{H:Hp}{s:AZ}{h':Heap}
def Hs.jb{ch:List AK}(I:Hs X Ho σ H s)(k: ∀b o,b∉ch->s.heap.get? b=U o->h'.get? b=U o)(D: ∀b∈ch,Rc X Ho H b):Hs X Ho σ H {s with heap:=h',toks:=t'}:=by
 have E: ∀b u,H b=U u->b∉ch:=λb u e z=>by
  have q:=(D b z).1;show 6 q e
 refine I.step (g':=s.gens) (d':=s.drawn) (ch:=ch) (λb F=>⟨(D b F).2.2.2.1,(D b F).2.1,(D b F).2.2.2.2.1,(D b F).2.2.2.2.2⟩) (λb o y y B e y=>k b o B e) (λb o y y B e y=>⟨o.slots,k b o B e⟩)
  (λy y y y n=>n) (λb o B e=>⟨o,k b o B e⟩) (λy y e=>e) (λy y y e=>e) (λb ps e=>⟨#[],by rw[e];simp⟩) (λm hm=>?_) (λb u e=>?_) I.bare
 .obtain⟨o,G,J,L,r⟩:=hm;exact⟨o,G,J,k _ o (λz=>(D _ z).2.1 rfl) L,r⟩
 refine(I.JM b u e).Sx (λc v B q=>k c v ?_ q) (λy q=>q) λy y q=>q;obtain z|z:=B
 .rw[z];exact E b u e
 exact E c _ z
def Hs.O6{ch:List AK}{T:AK}(I:Hs X Ho σ H s)(k: ∀b o,b∉ch->s.heap.get? b=U o->h'.get? b=U o)(E: ∀b∈ch,Rc X Ho H b)(G:s.heap.objs.size<=T)(new:Jp X.prog X.w (Hu H T ob) h' T ob):Hs X Ho σ (Hu H T ob) {s with heap:=h',toks:=t'}:=by
 have hn:H T=AB:=I.JM.fresh G;have F: ∀b u,H b=U u->b∉ch:=λb u e z=>by
  have q:=(E b z).1;show 6 q e
 refine I.step (g':=s.gens) (d':=s.drawn) (ch:=ch) (λb B=>⟨(E b B).2.2.2.1,(E b B).2.1,(E b B).2.2.2.2.1,(E b B).2.2.2.2.2⟩) (λb o y y D e y=>k b o D e) (λb o y y D e y=>⟨o.slots,k b o D e⟩)
  (λb o y e n=>?_) (λb o D e=>⟨o,k b o D e⟩) (λb xs e=>?_) (λb o u e=>?_) (λb ps e=>⟨#[],?_⟩) (λm hm=>?_) (λb u e=>?_) I.bare
 .rw[Hv (BH (A0 (Aj e) G))];exact n
 .rw[Hv (IJ e hn)];exact e
 .rw[Hv (IJ e hn)];exact e
 .rw[Hv (IJ e hn),e];simp
 .obtain⟨o,J,L,M,r⟩:=hm;exact⟨o,J,L,k _ o (λz=>(E _ z).2.1 rfl) M,r⟩
 by_cases B:b=T
 .subst B;show 6 Hq e;exact new
 rw[Hv B]at e;refine(I.JM b u e).Sx (λc v D q=>k c v ?_ q) (λc q=>by rw[Hv (IJ q hn)];exact q) λc xs q=>by rw[Hv (IJ q hn)];exact q
 obtain z|z:=D
 .rw[z];exact F b u e
 exact F c _ z
def Hs.lock(I:Hs X Ho σ H s)(h:H d=U u)(B:nP (U u)): ∃od,Hs X Ho σ (Hu H d (.MZ od u)) s:=by
 have x:=I.JM d u h;have ex: ∃od,s.heap.get? d=U od:=by
  cases u with
  |lst xs=>obtain⟨_,_,_,_,e⟩:=x;exact⟨_,e⟩
  |dK D=>obtain⟨_,_,_,_,o,_,_,e,_⟩:=x;exact⟨o,e⟩
  |dT D=>obtain⟨_,_,_,_,o,_,_,e,_⟩:=x;exact⟨o,e⟩
  |set S n=>obtain⟨o,_,_,_,e,_⟩:=x;exact⟨o,e⟩
  |ins C dx fs=>obtain⟨_,_,_,e,_⟩:=x;exact⟨_,e⟩
  |ext φ=>obtain⟨_,⟨_,e⟩,_⟩:=x;exact⟨_,e⟩
  |_=>exact False.elim B
 obtain⟨od,e⟩:=ex;have new:Jp X.prog X.w (Hu H d (.MZ od u)) s.heap d (.MZ od u):=by
  refine⟨e,x.Sx (λb v y q=>q) (λb q=>?_) λb xs q=>?_⟩
  .rw[Hv (λz=>by rw[z,h]at q;cases q;exact B)];exact q
  rw[Hv (λz=>by rw[z,h]at q;cases q;exact B)];exact q
 exact⟨od,I.write (x:=d) (e:=d) (t':=s.toks) (h':=s.heap) (by rw[h];exact B) (.inl rfl) (λb v y q=>q) ⟨od,e⟩ new⟩
def Hs.aO(I:Hs X Ho σ H s)(h:H d=U u)(E:nP (U u)): ∀B D,X.qm d≠U (.MZ B D):=λB D e=>by
 have q:=I.base.OG d B D e;show 6 h q;exact E
def Hs.unlock(I:Hs X Ho σ H s)(h:H d=U (.MZ od u))(hn: ∀D E,X.qm d≠U (.MZ D E)):Hs X Ho σ (Hu H d u) s:=by
 have B: ∀b o,H b=U o->(∀D E,o≠ .MZ D E)->b≠d:=λb o e F z=>by
  rw[z,h]at e;cases e;exact F _ _ rfl
 have neN: ∀b,H b=AB->b≠d:=λb e z=>by rw[z,h]at e;cases e
 refine⟨I.ok,I.os,I.bare,⟨I.base.keep,I.base.slot,λb o e n hx=>?_,I.base.there,λb xs e=>?_,λb o x e=>?_,λb ps e=>?_⟩,I.loc,I.cell,?_,λx c e=>?_,λp J=>?_,λb o e=>?_,I.len⟩
 .rw[Hv (neN b (I.base.free b o e n hx))];exact I.base.free b o e n hx
 .have q:=I.base.Pb b xs e;rw[Hv (B b _ q (λy y z=>nomatch z))];exact q
 .have q:=I.base.OG b o x e;rw[Hv (λz=>by rw[z]at e;exact hn _ _ e)];exact q
 .obtain⟨m,q⟩:=I.base.Pd b ps e;exact⟨m,by rw[Hv (B b _ q (λy y z=>nomatch z))];exact q⟩
 .rw[Hv (neN _ I.free)];exact I.free
 .rw[Hv (neN c (I.MR x c e))];exact I.MR x c e
 .obtain⟨e,n,r⟩:=I.pin p J;exact⟨e,by rw[Hv (neN _ n)];exact n,r⟩
 by_cases G:b=d
 .rw[G,Hq]at e;cases e;rw[G];obtain⟨_,x⟩:=I.JM d _ h;exact x.Sx (λc v y q=>q) (λc q=>by rw[Hv (B c _ q (λy y z=>nomatch z))];exact q) λc xs q=>by rw[Hv (B c _ q (λy y z=>nomatch z))];exact q
 rw[Hv G]at e;exact(I.JM b o e).Sx (λc v y q=>q) (λc q=>by rw[Hv (B c _ q (λy y z=>nomatch z))];exact q) λc xs q=>by rw[Hv (B c _ q (λy y z=>nomatch z))];exact q
end
def rY(t:TS):TS:=λD F H=> ∃d u,H d=U u/\nP (U u)/\ ∀od,t ⟨λB E=>E d=U (.MZ od u)/\D.nx B (Hu E d u),λv E=>E d=U (.MZ od u)/\D.rt v (Hu E d u),λB E=>E d=U (.MZ od u)/\D.bk B (Hu E d u),λB E=>E d=U (.MZ od u)/\D.ct B (Hu E d u)⟩ F (Hu H d (.MZ od u))
section
variable{X:Cx}
set_option tactic.hygienic true
def kH{st:DW}(h:PS X st t):PS X st (rY t):=by
 intro Ho s L H D I G;obtain⟨d,u,hd,F,G⟩:=G;obtain⟨od,M⟩:=I.lock hd F;refine Jv (h Ho s L _ _ M (G od)) λf O q=>?_;cases f with
 |next=>obtain⟨B,J,E,e,q⟩:=q;exact⟨B,_,E.unlock e (I.aO hd F),q⟩
 |brk=>obtain⟨B,J,E,e,q⟩:=q;exact⟨B,_,E.unlock e (I.aO hd F),q⟩
 |cont=>obtain⟨B,J,E,e,q⟩:=q;exact⟨B,_,E.unlock e (I.aO hd F),q⟩
 |ret v=>obtain⟨x,B,J,E,r,e,q⟩:=q;exact⟨x,B,_,E.unlock e (I.aO hd F),r,q⟩
def ZQ{B:St}(I:Hs X Ho B H s)(o:Obj)(T:Turn X.prog X.w X.K E J [s.heap.objs.size] s.heap.objs.size D)(st:D 0 (s.heap.push o))(q:R J H):PIE X Ho B E R (.ref s.heap.objs.size) {s with heap:=s.heap.push o,toks:=tk}:=by
 refine⟨s.heap.objs.size,[s.heap.objs.size],D,J,H,rfl,I.kept λb ob e=>Heap.get?_push_of_some _ e,T,st,λb F=>?_,q⟩;have e:b=s.heap.objs.size:=by simpa using F
 subst e;exact I.W2 (AR _) (I.JM.fresh (AR _))
end
section
variable{X:Cx}{tg:Expr}
end
noncomputable def uf(x:Str):It:=⟨λi z=>i<x.cps.size,λi H v B=>B=H/\ ∃c,x.cps[i]? =U c/\v=.str ⟨#[c]⟩,λi z=>x.cps.size<=i⟩
theorem XZ{K:PySem.W.Frag}(it:AK)(x:Str)(t:Tok)(ty:String)(vQ:ty="str_ascii_iterator"\/ty="str_iterator"):
  Turn P w K tg (uf x) [it] it (λi h=>h.IsStrIter it ty x t i)where
 mem:=!2
 obj:=λi h st b hb=>by
  have e:b=it:=by simpa using hb
  subst e;obtain⟨o,e,c,d⟩:=st;exact⟨o,e,λv z=>by rw[d]at z;cases z⟩
 keep:=λi h h' st k=>let⟨o,ho,r⟩:=st;⟨o,k it (!2) o ho,r⟩
 item:=by
  intro X hP hw hK hc i Ho s σ H E I hf st hg;subst hP hw hK;obtain⟨f0,f1,f2,f3,f4,f5⟩:=hf it (!2);have W:Walks X.prog X.w X.A it [it] [it] x.cps.size (SignAt x) (λi h=>h.IsStrIter it ty x t i):=by
   obtain e|e:=vQ
   .rw[e];exact Walks.strAscii (I.ok.hd hc) it x t
   rw[e];exact Walks.strWide (I.ok.hd hc) it x t
  have g0:["enumerate","zip","dict_itemiterator","dict_reverseitemiterator","odict_iterator","itertools.zip_longest","itertools.pairwise"].contains ty=AJ:=by
   obtain e|e:=vQ
   .rw[e];decide
   rw[e];decide
  refine W.item i s _ _ hg st λv h' tk hv fB kk=>?_;obtain⟨c,u,y1,rfl⟩:=hv;have I1:Hs X Ho σ H {s with heap:=h',toks:=tk}:=I.turned (λb o hb e=>kk b o (!8 hb) e) f0 f1 f3 f4 f5;obtain⟨oi,e,cc,dd⟩:=id fB;exact⟨_,rfl,a7 (s:={s with heap:=h',toks:=tk}) e cc dd g0 ⟨.str ⟨#[c]⟩,H,I1,⟨u,rfl⟩,⟨rfl,c,y1,rfl⟩,fB,λb hb=>(hf b hb).1⟩⟩
 done:=by
  intro X hP hw hK hc i Ho s σ H E I hf st hg;subst hP hw hK;obtain⟨f0,f1,f2,f3,f4,f5⟩:=hf it (!2);have hx:x.cps[i]? =AB:=Array.getElem?_eq_none hg
  obtain e|e:=vQ
  .rw[e]at st;exact wpAny_pyNext_ascii_end (I.ok.hd hc) st hx λh' eb=>⟨rfl,I.turned (t':=s.toks) (λb o hb e=>eb b o hb e) f0 f1 f3 f4 f5⟩
  rw[e]at st;exact wpAny_pyNext_wide_end (I.ok.hd hc) st hx λh' eb=>⟨rfl,I.turned (t':=s.toks) (λb o hb e=>eb b o hb e) f0 f1 f3 f4 f5⟩
 self:=λA i s Q E st h=>by
  obtain e|e:=vQ
  .rw[e]at st;exact wpAny_pyIter_striter_ascii st h
  rw[e]at st;exact wpAny_pyIter_striter_wide st h
def xu(B:TE):TI:=λD H R=>B D H λv E=> ∃x,v=.str x/\R (uf x) E
def oS(E:PE X e F):PI X L e (xu F):=by
 intro Ho s G H R I h;refine Jv (E Ho s G H _ I h) λv B ⟨y,M,D,J,x,ex,q⟩=>?_;subst ex;obtain⟨t,rfl⟩:=J;cases ha:x.cps.all (· <128)
 .exact wpAny_pyIter_wide ha (ZQ (tk:=B.toks) D _ (XZ _ x t "str_iterator" (.inr rfl)) ⟨_,Heap.get?_push_size _ rfl,rfl,rfl⟩ q)
 exact GL ha (ZQ (tk:=B.toks) D _ (XZ _ x t "str_ascii_iterator" (.inl rfl)) ⟨_,Heap.get?_push_size _ rfl,rfl,rfl⟩ q)
section
variable{prog:BB}{w:BJ}{A:CA}{E:Value->AZ->Prop}{s:AZ}
end
def ZT{l₁:List α}{l₂:List β}(h:Paired G l₁ l₂): ∀{i:Nat}{a:α},l₁[i]? =U a-> ∃b,l₂[i]? =U b/\G a b:=by
 induction h with
 |nil=>intro i a e;simp at e
 | @cons a b l₁ l₂ r t B=>
  intro i D e;cases i with
  |zero=>
   simp only[List.getElem?_cons_zero,Ca]at e;subst e;exact⟨b,rfl,r⟩
  |succ j=>
   simp only[List.getElem?_cons_succ]at e⊢;exact B e
section
variable{X:Cx}{Ho:List (AK×Obj)}{σ:St}{H:Hp}{s:AZ}{d:AK}{o:Obj}
end
def bI{o:Obj}(h:o.data=.dict E F)(h':o.data=.dict B D):B=E/\D=F:=by
 show 6 h h';exact⟨rfl,rfl⟩
section
variable{P:BB}{w:BJ}{K:PySem.W.Frag}{tg:Expr}{d:AK}{o:Obj}{es:Array Cc}{ep:Nat}
end
section
variable{X:Cx}{tg e:Expr}{td:TE}{apos M0:Pos}
end
def uh(K:PySem.W.Frag)(a:AK):It:=
 ⟨λi H=> ∃(xs:List V)(x:V),Ip K H a xs/\xs[i]? =U x,λi H v B=> ∃T x,v=.ref T/\H T=AB/\B=Hu H T (.tup [.int (i:Nat),x])/\ ∀xs,Ip K H a xs->xs[i]? =U x,λi H=> ∃xs:List V,Ip K H a xs/\xs.length<=i⟩
theorem bg{K:PySem.W.Frag}(a e it:AK):
  Turn P w K (.Tuple elts kk Y7) (uh K a) [e,it] e (λi h=>(∃old,IsEnum h e it ((i:Nat):Int) old)/\h.IsListIter it a i/\e≠it)where
 mem:=!2
 obj:=λi h st b hb=>by
  obtain⟨⟨old,he⟩,⟨o,ho,hc,hd⟩,_⟩:=st;have e':b=e\/b=it:=by simpa using hb
  obtain z|z:=e'
  .rw[z];exact⟨_,he,λv q=>nomatch q⟩
  rw[z];exact⟨o,ho,λv q=>by rw[hd]at q;cases q⟩
 keep:=λi h h' st k=>let⟨⟨old,he⟩,hi,Uz⟩:=st;⟨⟨old,k e (!2) _ he⟩,hi.at λo q=>k it (!2) o q,Uz⟩
 item:=by
  intro X hP hw hK hc i Ho s σ H E I hf st hg;subst hP hw hK;obtain⟨⟨old,he⟩,hit,Uz⟩:=st;obtain⟨xs,x,hq,hx⟩:=hg;obtain⟨Vk,rv,p,hz⟩:=I.list hq;obtain⟨u,hu,ru⟩:=rv.get hx;have hel:e<s.heap.objs.size:=Aj he;have hil:it<s.heap.objs.size:=by obtain⟨_,q,_⟩:=hit;exact Aj q
  refine wpAny_pyNext_enum_item he hit p.isList (x:=u) (!8 hu) Uz λh' ho ym hT hsz hk=>?_;refine⟨_,rfl,wpAny_letOwnedTupleGo_enum (s:={s with heap:=h',toks:=s.toks+1}) ho λpz he' sb=>?_⟩;have zI:pz.get? s.heap.objs.size=U {cls:=.type "tuple",data:=.seq #[.int i s.toks,u]}:=(sb.2 _ (Cu hel)).trans hT;have new:Jp X.prog X.w (Hu H s.heap.objs.size (.tup [.int (i:Nat),x])) pz s.heap.objs.size (.tup [.int (i:Nat),x]):=
   ⟨by show 2<=Ac;decide,[.int i s.toks,u],.cons ⟨_,rfl⟩ (.cons ru .nil),⟨_,zI,rfl,_,rfl⟩⟩
  have I1:Hs X Ho σ (Hu H s.heap.objs.size (.tup [.int (i:Nat),x])) {s with heap:=pz,toks:=s.toks+1}:=
   I.O6 (ch:=[e,it]) (λb ob hb q=>(sb.2 b (λz=>hb (by simp[z]))).trans (hk b ob (λz=>hb (by simp[z])) (λz=>hb (by simp[z])) q)) hf (AR _) new
  refine⟨.ref s.heap.objs.size,_,I1,rfl,⟨_,x,rfl,I.JM.fresh (AR _),rfl,λys hy=>by rw[I.Tj hy hq];exact hx⟩,⟨⟨u,?_⟩,ym.at λo q=>(sb.2 it (Ne.symm Uz)).trans q,Uz⟩,λb hb=>?_⟩
  .have e1:((i+1:Nat):Int)=(i:Int)+1:=!3
   rw[e1];exact he'
  have iC:b<s.heap.objs.size:=by
   have e':b=e\/b=it:=by simpa using hb
   obtain z|z:=e'
   .rw[z];exact hel
   rw[z];exact hil
  rw[Hv (BH iC)];exact(hf b hb).1
 done:=by
  intro X hP hw hK hc i Ho s σ H E I hf st hg;subst hP hw hK;obtain⟨⟨old,he⟩,hit,Uz⟩:=st;obtain⟨xs,hq,hx⟩:=hg;obtain⟨Vk,rv,p,hz⟩:=I.list hq;obtain⟨f0,f1,f2,f3,f4,f5⟩:=hf it (!2);have hl:=rv.length;exact wpAny_pyNext_enum_end (I.ok.hd hc) he hit p.isList (by simp;lia) λh' eb=>⟨rfl,I.turned (t':=s.toks) (λb o hb q=>eb b o hb q) f0 f1 f3 f4 f5⟩
 self:=λA i s Q E st h=>let⟨⟨_,he⟩,_⟩:=st;Ga he h
def si(K:PySem.W.Frag)(ta:TA):TI:=λD H R=>ta D H λvs B=>match vs with|[y]=>(match y with|.ref a=>(∃xs,Ip K B a xs/\R (uh K a) B)|_=>False)|_=>False
def kL(O:Gl X "enumerate")(hm:X.mg "enumerate"=AB)(ha:PA X [e] ta)(hs:autoParam (BC [e] X.env=[(AJ,eval e X.env)]) KJ):
  PI X (.Tuple elts kk G) (.Call (.Name "enumerate" p) [e] [] pos) (si X.K ta):=by
 intro Ho s J H R I h;refine Call_ (Od I O hm boot_enumerate (Bv (Jv (ha pos Ho s J H _ I h) λus B ⟨vs,L,E,S,Y⟩=>?_) hs rfl));obtain⟨a,ex,xs,Z,q⟩:=m1R Y;subst ex;cases S with
 |cons r rr=>
  cases rr;cases r;obtain⟨Vk,rv,p',hz⟩:=E.list Z;refine call_enumerate_list p'.isList λh' M F hsz hk=>Ga M ?_;have I2:Hs X Ho J L {B with heap:=h'}:=E.kept (t':=B.toks) hk;refine⟨B.heap.objs.size+1,[B.heap.objs.size+1,B.heap.objs.size],_,_,L,rfl,I2,bg a (B.heap.objs.size+1) B.heap.objs.size,⟨⟨.none,M⟩,F,Nat.succ_ne_self _⟩,λb hb=>?_,q⟩;have e':b=B.heap.objs.size+1\/b=B.heap.objs.size:=by simpa using hb
  have D:B.heap.objs.size<=b:=by
   obtain z|z:=e'
   .rw[z];exact DA _ _
   rw[z];exact AR _
  exact E.W2 D (E.JM.fresh D)
def de:Bt "zip"=U (.type "zip"):=!0
end _L
section
namespace AA1
open PySem PyProof.Rows
end AA1
end
section
namespace TL
open PySem PySem.Builtin PySem.Builtin.Str PySem.StrLaws
end TL
end
namespace _L
open PySem PySem.Spec PyProof.Rows
section
variable{X:Cx}{Ho:List (AK×Obj)}{σ:St}{H:Hp}{s:AZ}{Q:VK}
end
section
variable{X:Cx}
end
section
variable{X:Cx}{o e:Expr}{to te:TE}
end
section
variable{X:Cx}
end
end _L
namespace Att
open PySem PySem.W PySem.Calls PyProof.Rows
section
variable{prog:BB}{w:BJ}{A:CA}{E:Value->AZ->Prop}{s:AZ}{K:Frag}
end
end Att
namespace _L
open PySem PySem.Spec PyProof.Rows
noncomputable def IF(s:DW)(j:Nat):DW:=match s with
 |.ClassDef _ _ _ body _ _ _ _ _ _ _=>body.getD j (.Pass ⟨0,0,0,0⟩)
 |_=>.Pass ⟨0,0,0,0⟩
noncomputable def J8(s:DW):Arguments:=match s with
 |.FunctionDef _ a _ _ _ _ _ _ _ _=>a
 |_=>{posonlyargs:=[],args:=[],vararg:=AB,kwonlyargs:=[],kw_defaults:=[],kwarg:=AB,defaults:=[]}
noncomputable def J1(s:DW):List DW:=match s with
 |.FunctionDef _ _ b _ _ _ _ _ _ _=>b
 |_=>[]
noncomputable def IV(s:DW):Scope:=match s with
 |.FunctionDef _ _ _ _ _ _ sc _ _ _=>sc
 |_=>{kind:=.function,names:=[],isGenerator:=AJ,isCoroutine:=AJ}
noncomputable abbrev E0:XK:=λz z z=>False
structure XS(K:PySem.W.Frag)(x qual:Str)(st:DW)(f:AK)(fd:CY):Prop where
 ex: ∃(oc:Value)(od:Option AK)(kV doc pm:Value)(an:Option AK)(Kg ct:Value)(Xw:Array (Option Value)),
  fd=PySem.W.fnOf x qual (J8 st) (J1 st) (IV st) .none kV doc pm an Kg ct/\K.lookup f=U ⟨oc,od,.func fd,Xw⟩/\PySem.W.codeIn K Kg qual=AF
 kp:PySem.W.keepIn K (.ref f)=AF
section
variable{P:BB}{w:BJ}{K:PySem.W.Frag}{mg:Str->Option Value}{base:Heap}
def XS.binds{st:DW}(F:XS K x qual st f B)(h: ∀(kV doc pm:Value)(an:Option AK)(Kg ct:Value)(us:List Value),us.length=ps.length->bindArgs (PySem.W.fnOf x qual (J8 st) (J1 st) (IV st) .none kV doc pm an Kg ct) ⟨us,[]⟩=pure (ps.zip us)):Binds K B ps []:=by
 obtain⟨oc,od,kV,doc,pm,an,Kg,ct,Xw,rfl,E,D⟩:=F.ex;exact .all (h kV doc pm an Kg ct)
def qB{st:DW}{kV:Value}(l:K.lookup f=U ⟨oc,od,.func (PySem.W.fnOf x qual (J8 st) (J1 st) (IV st) .none kV doc pm an Kg ct),Xw⟩)(c:PySem.W.codeIn K Kg qual=AF)(k:PySem.W.keepIn K (.ref f)=AF):XS K x qual st f (PySem.W.fnOf x qual (J8 st) (J1 st) (IV st) .none kV doc pm an Kg ct):=⟨⟨oc,od,kV,doc,pm,an,Kg,ct,Xw,rfl,l,c⟩,k⟩
end
def Mm(hr:Kz k A):A.units+1<cLine:=Bg (Nat.add_le_add_left (by decide:1<=64) _) hr.units
section
variable{X:Cx}
def pv(i:Nat)(D:autoParam (X.N[i]? =U x) KJ)(E:autoParam (rH X.env.scope x) uw)(hd:autoParam ((x==("__debug__":Str))=AJ) Li)(B:autoParam ((x==("__classdict__":Str))=AJ) Li):PE X (.Name x pos) (nk i):=oU D E hd B
end
def xr{B:Prop} [Decidable c] (D:c->A)(E: ¬c->B):if c then A else B:=by
 by_cases h:c
 .rw[AI h];exact D h
 rw[AD h];exact E h
section
variable{κ:Type} [DecidableEq κ]
end
end _L
namespace _L
open PySem PySem.Spec PyProof.Rows
open PySem.W (WData Codec OpenSpec Well WellAll ReadsW ReadsAllW)
mutual
inductive Dw (K:PySem.W.Frag)(H:Hp):V->WData->Prop
 |Jm:Dw K H .Jm .none
 |bl (b:Bool):Dw K H (.bl b) (.bool b)
 |int (i:Int):Dw K H (.int i) (.int i)
 |str (x:Str):Dw K H (.str x) (.str x)
 |Yf (b:Array UInt8):Dw K H (.Yf b) (.bytes b.toList)
 |lst {a:AK}{xs:List V}{ds:List WData}:Ip K H a xs->O2 K H xs ds->Dw K H (.ref a) (.list ds)
 |tup {a:AK}{xs:List V}{ds:List WData}:NR K H a xs->O2 K H xs ds->Dw K H (.ref a) (.tuple ds)
inductive O2 (K:PySem.W.Frag)(H:Hp):List V->List WData->Prop
 |nil:O2 K H [] []
 |cons {v:V}{vs:List V}{d:WData}{ds:List WData}:Dw K H v d->O2 K H vs ds->O2 K H (v::vs) (d::ds)
end
theorem bH{K:PySem.W.Frag}: ∀ns:List Int,O2 K H (ns.map V.int) (ns.map WData.int)
 |[]=>.nil
 |n::r=>.cons (.int n) (bH r)
theorem ah{K:PySem.W.Frag}: ∀(ns:List Int)(xs:List V),O2 K H xs (ns.map WData.int)->xs=ns.map V.int
 |[],xs,h=>by
  cases h;rfl
 |n::r,xs,h=>by
  cases h with
  |cons B D=>
   cases B;rw[ah r _ D]<;>rfl
section
variable{P:BB}{w:BJ}{K:PySem.W.Frag}{H:Hp}{h:Heap}{R:PySem.W.WRecords}{cl:Str->Option AK}
def nz(JM:OA P w H h)(E:K.In h)(q:Ip K H a xs): ∃(B:List Value)(o:Obj)(n:Nat),IM xs B/\h.get? a=U o/\o.cls=.type "list"/\o.data=.seq B.toArray n:=by
 obtain q|⟨o,B,n,e,F,_,hd,_,D⟩:=q
 .obtain⟨_,B,n,D,e⟩:=(show Jp P w H h a (.lst xs)from q.ok JM);exact⟨B,_,n,D,e,rfl,rfl⟩
 exact⟨B.toList,o,n,D,E _ _ e,F,by simp[hd]⟩
def ny(JM:OA P w H h)(F:K.In h)(q:NR K H a xs): ∃(B:List Value)(o:Obj)(n:Nat),IM xs B/\h.get? a=U o/\o.cls=.type "tuple"/\o.data=.seq B.toArray n:=by
 obtain q|⟨o,B,n,e,D,hd,_,E⟩:=q
 .obtain⟨_,B,E,o,e,D,n,hd⟩:=(show Jp P w H h a (.tup xs)from q.ok JM);exact⟨B,o,n,E,e,D,hd⟩
 exact⟨B.toList,o,n,E,F _ _ e,D,by simp[hd]⟩
mutual
theorem Dw.reads(JM:OA P w H h)(KX:K.In h): ∀(d:WData)(v:V)(u:Value),Dw K H v d->IU v u-> ∃as,ReadsW R cl h u d as
 |.none,_,_,x,r=>by
  cases x;cases r;exact⟨_,ReadsW.none⟩
 |.bool b,_,_,x,r=>by
  cases x;cases r;exact⟨_,ReadsW.bool b⟩
 |.int i,_,_,x,r=>by
  cases x;obtain⟨t,rfl⟩:=r;exact⟨_,ReadsW.int i t⟩
 |.str s,_,_,x,r=>by
  cases x;obtain⟨t,rfl⟩:=r;exact⟨_,ReadsW.str s t⟩
 |.bytes b,_,_,x,r=>by
  cases x;obtain⟨t,rfl⟩:=r;exact⟨_,ReadsW.bytes _ t⟩
 |.list ds,_,_,x,r=>by
  cases x with
  |lst hs ha=>
   cases r;obtain⟨Vk,o,n,rv,ho,hc,hd⟩:=nz JM KX hs;obtain⟨as,hr⟩:=Dw.readsAll JM KX ds _ Vk ha rv;exact⟨_,ReadsW.list ho hc hd hr⟩
 |.tuple ds,_,_,x,r=>by
  cases x with
  |tup hs ha=>
   cases r;obtain⟨Vk,o,n,rv,ho,hc,hd⟩:=ny JM KX hs;obtain⟨as,hr⟩:=Dw.readsAll JM KX ds _ Vk ha rv;exact⟨_,ReadsW.tuple ho hc hd hr⟩
 |.float _,_,_,x,_=>by cases x
 |.dict _,_,_,x,_=>by cases x
 |.bytearray _,_,_,x,_=>by cases x
 |.set _,_,_,x,_=>by cases x
 |.frozenset _,_,_,x,_=>by cases x
 |.obj _ _,_,_,x,_=>by cases x
theorem Dw.readsAll(JM:OA P w H h)(KX:K.In h): ∀(ds:List WData)(vs:List V)(us:List Value),O2 K H vs ds->IM vs us-> ∃as,ReadsAllW R cl h us ds as
 |[],_,_,x,r=>by
  cases x;cases r;exact⟨_,ReadsAllW.nil⟩
 |d::ds,_,_,x,r=>by
  cases x with
  |cons h1 h2=>
   cases r with
   |cons r1 r2=>
    obtain⟨as,q1⟩:=Dw.reads JM KX d _ _ h1 r1;obtain⟨bs,q2⟩:=Dw.readsAll JM KX ds _ _ h2 r2;exact⟨_,ReadsAllW.cons q1 q2⟩
end
end
mutual
noncomputable def aJ:WData->Bool
 |.none=>AF
 |.bool _=>AF
 |.int _=>AF
 |.str _=>AF
 |.bytes _=>AF
 |.list xs=>R7 xs
 |.tuple xs=>R7 xs
 |_=>AJ
noncomputable def R7:List WData->Bool
 |[]=>AF
 |x::r=>aJ x&&R7 r
end
theorem Xq{α:Type}{f:α->WData}(h: ∀a,aJ (f a)=AF): ∀l:List α,R7 (l.map f)=AF
 |[]=>rfl
 |x::r=>by
  show(aJ (f x)&&R7 (r.map f))=AF;rw[h x,Xq h r]<;>rfl
theorem OV: ∀(c:Codec)(a:c.denote),aJ (c.enc a)=AF
 |.unit,_=>rfl
 |.bool,_=>rfl
 |.int _ _,_=>rfl
 |.nat _ _,_=>rfl
 |.u8,_=>rfl
 |.bytes _ _,_=>rfl
 |.text _ _ _ _,_=>rfl
 |.list _ _ c,a=>Xq (λx=>OV c x) a
 |.pair c d,a=>by
  show(aJ (c.enc a.1)&&(aJ (d.enc a.2)&&AF))=AF;rw[OV c a.1,OV d a.2]<;>rfl
 |.triple c d e,a=>by
  show(aJ (c.enc a.1)&&(aJ (d.enc a.2.1)&&(aJ (e.enc a.2.2)&&AF)))=AF;rw[OV c a.1,OV d a.2.1,OV e a.2.2]<;>rfl
 |.option c,AB=>rfl
 |.option c,U x=>OV c x
theorem Vc: ∀(cs:List Codec)(a:Codec.denoteAll cs),R7 (Codec.encAll cs a)=AF
 |[],_=>rfl
 |c::cs,a=>by
  show(aJ (c.enc a.1)&&R7 (Codec.encAll cs a.2))=AF;rw[OV c a.1,Vc cs a.2]<;>rfl
theorem P4: ∀{xs:List WData}{d:WData},d∈xs->d.weight<=WData.weightAll xs
 |[],d,h=>absurd h (!2)
 |x::r,d,h=>by
  show d.weight<=x.weight+1+WData.weightAll r;obtain e|m:=AO.mp h
  .rw[e]
   lia
  have z:=P4 m
  lia
noncomputable def toV:Value->V
 |.none=>.Jm
 |.bool b=>.bl b
 |.int i _=>.int i
 |.str x _=>.str x
 |.bytes b _=>.Yf b
 |.ref a=>.ref a
 |_=>.Jm
noncomputable def eA(A:List AK):Value->Prop
 |.none=>True
 |.bool _=>True
 |.int _ _=>True
 |.str _ _=>True
 |.bytes _ _=>True
 |.ref a=>a∈A
 |_=>False
def eA.mono(h: ∀a∈A,a∈B): ∀{u:Value},eA A u->eA B u:=λ{u} x=>by
 cases u with
 |ref a=>exact h a x
 |none=>trivial
 |bool b=>trivial
 |int i t=>trivial
 |str s t=>trivial
 |bytes b t=>trivial
 |_=>exact False.elim x
def fT(x:eA A u):IU (toV u) u:=by
 cases u with
 |ref a=>rfl
 |none=>rfl
 |bool b=>rfl
 |int i t=>exact⟨t,rfl⟩
 |str s t=>exact⟨t,rfl⟩
 |bytes b t=>exact⟨t,rfl⟩
 |_=>exact False.elim x
theorem M6: ∀{vs:List Value},(∀u∈vs,eA A u)->IM (vs.map toV) vs
 |[],_=>.nil
 |u::r,h=>.cons (fT (h u (BA ..))) (M6 λx hx=>h x (Au _ hx))
noncomputable def OB(h:Heap)(A:List AK)(a:AK):Prop:= ∃vs:List Value,vs.length<=Ac/\(∀u∈vs,eA A u)∧
 (h.get? a=U {cls:=.type "list",data:=.seq vs.toArray}\/h.get? a=U {cls:=.type "tuple",data:=.seq vs.toArray})
theorem OB.mono(k: ∀a∈A,a∈B)(x:OB h A a):OB h B a:=by
 obtain⟨vs,D,E,F⟩:=x;exact⟨vs,D,λu G=>(E u G).mono k,F⟩
theorem Mc: ∀{vs:List Value}{B:List WData},WellAll P h vs B->vs.length=B.length
 |_,_,.nil=>rfl
 |_,_,.cons _ b=>by
  show _+1=_+1;rw[Mc b]
def VH(x:Well P h v (.list D)): ∃(a:AK)(vs:List Value),v=.ref a/\h.get? a=U {cls:=.type "list",data:=.seq vs.toArray}/\WellAll P h vs D:=by
 cases x with
 |list E B=>exact⟨_,_,rfl,E,B⟩
def Sf(x:Well P h v (.tuple D)): ∃(a:AK)(vs:List Value),v=.ref a/\h.get? a=U {cls:=.type "tuple",data:=.seq vs.toArray}/\WellAll P h vs D:=by
 cases x with
 |tuple E B=>exact⟨_,_,rfl,E,B⟩
def VI(x:WellAll P h us (d::B)): ∃(v:Value)(vs:List Value),us=v::vs/\Well P h v d/\WellAll P h vs B:=by
 cases x with
 |cons a b=>exact⟨_,_,rfl,a,b⟩
def aX(h:n<=1048576):n<=Ac:=Aa h (!1)
section
variable{P:CF}{h:Heap}
mutual
theorem jA: ∀(d:WData)(v:Value),Well P h v d->aJ d=AF->d.weight<=1048576-> ∃A:List AK,eA A v/\ ∀a∈A,OB h A a
 |.none,_,x,_,_=>by
  cases x;exact⟨[],trivial,λa m=>absurd m (!2)⟩
 |.bool b,_,x,_,_=>by
  cases x;exact⟨[],trivial,λa m=>absurd m (!2)⟩
 |.int i,_,x,_,_=>by
  cases x;exact⟨[],trivial,λa m=>absurd m (!2)⟩
 |.str s,_,x,_,_=>by
  cases x;exact⟨[],trivial,λa m=>absurd m (!2)⟩
 |.bytes b,_,x,_,_=>by
  cases x;exact⟨[],trivial,λa m=>absurd m (!2)⟩
 |.list ds,_,x,p,z=>by
  obtain⟨a,vs,rfl,ho,T8⟩:=VH x;have z2:WData.weightAll ds<=1048576:=z;obtain⟨A,h1,h2⟩:=Q0 ds _ T8 p λd hd=>Aa (P4 hd) z2;have k: ∀b∈A,b∈a::A:=λb hb=>Au _ hb;refine⟨a::A,BA ..,λb hb=>?_⟩;obtain e|m:=AO.mp hb
  .rw[e];exact⟨vs,aX (by rw[Mc T8];exact Aa (PySem.W.length_le_weightAllW ds) z2),λu hu=>(h1 u hu).mono k,.inl ho⟩
  exact(h2 b m).mono k
 |.tuple ds,_,x,p,z=>by
  obtain⟨a,vs,rfl,ho,T8⟩:=Sf x;have z2:WData.weightAll ds<=1048576:=z;obtain⟨A,h1,h2⟩:=Q0 ds _ T8 p λd hd=>Aa (P4 hd) z2;have k: ∀b∈A,b∈a::A:=λb hb=>Au _ hb;refine⟨a::A,BA ..,λb hb=>?_⟩;obtain e|m:=AO.mp hb
  .rw[e];exact⟨vs,aX (by rw[Mc T8];exact Aa (PySem.W.length_le_weightAllW ds) z2),λu hu=>(h1 u hu).mono k,.inr ho⟩
  exact(h2 b m).mono k
 |.float _,_,_,p,_=>Bc (show AJ=AF from p)
 |.dict _,_,_,p,_=>Bc (show AJ=AF from p)
 |.bytearray _,_,_,p,_=>Bc (show AJ=AF from p)
 |.set _,_,_,p,_=>Bc (show AJ=AF from p)
 |.frozenset _,_,_,p,_=>Bc (show AJ=AF from p)
 |.obj _ _,_,_,p,_=>Bc (show AJ=AF from p)
theorem Q0: ∀(ds:List WData)(vs:List Value),WellAll P h vs ds->R7 ds=AF->(∀d∈ds,d.weight<=1048576)-> ∃A:List AK,(∀u∈vs,eA A u)/\ ∀a∈A,OB h A a
 |[],_,x,_,_=>by
  cases x;exact⟨[],λu m=>absurd m (!2),λa m=>absurd m (!2)⟩
 |d::ds,_,x,p,z=>by
  obtain⟨v,vs,rfl,x1,x2⟩:=VI x;have q:aJ d=AF/\R7 ds=AF:=F6.mp p;obtain⟨A,a1,a2⟩:=jA d v x1 q.1 (z d (BA ..));obtain⟨B,b1,b2⟩:=Q0 ds vs x2 q.2 λe he=>z e (Au _ he);have kA: ∀b∈A,b∈A++B:=λb hb=>AQ.mpr (.inl hb);have kB: ∀b∈B,b∈A++B:=λb hb=>AQ.mpr (.inr hb);refine⟨A++B,λu hu=>?_,λb hb=>?_⟩
  .obtain e|m:=AO.mp hu
   .rw[e];exact a1.mono kA
   exact(b1 u m).mono kB
  obtain m|m:=AQ.mp hb
  .exact(a2 b m).mono kA
  exact(b2 b m).mono kB
end
end
def k8(o:Obj):Option HO:=match o.data with
 |.seq vs _=>if(o.cls==C0 "list")=AF then U (.MZ o (.lst (vs.toList.map toV)))else U (.MZ o (.tup (vs.toList.map toV)))
 |_=>AB
def Nt(K:PySem.W.Frag)(h:Heap)(A:List AK):Hp:=λb=>if b∈A then(if(K.lookup b).isNone=AF then(h.get? b).bind k8 else AB)else AB
noncomputable def bR(H:Hp):Prop:= ∀b,H b=AB\/ ∃o u,H b=U (.MZ o u)
def YJ(vs:List Value):k8 {cls:=.type "list",data:=.seq vs.toArray}=U (.MZ {cls:=.type "list",data:=.seq vs.toArray} (.lst (vs.map toV))):=by
 show(if(C0 "list"==C0 "list")=AF then U (HO.MZ {cls:=.type "list",data:=.seq vs.toArray} (.lst (vs.toArray.toList.map toV)))else U (HO.MZ {cls:=.type "list",data:=.seq vs.toArray} (.tup (vs.toArray.toList.map toV))))=_;rw[AI (beq_self_eq_true _)]
def YI(vs:List Value):k8 {cls:=.type "tuple",data:=.seq vs.toArray}=U (.MZ {cls:=.type "tuple",data:=.seq vs.toArray} (.tup (vs.map toV))):=by
 show(if(C0 "tuple"==C0 "list")=AF then U (HO.MZ {cls:=.type "tuple",data:=.seq vs.toArray} (.lst (vs.toArray.toList.map toV)))else U (HO.MZ {cls:=.type "tuple",data:=.seq vs.toArray} (.tup (vs.toArray.toList.map toV))))=_;rw[AD (!1)]
section
variable{P:BB}{w:BJ}{K:PySem.W.Frag}{h:Heap}{A:List AK}
def Sd(B:b∈A)(D:K.lookup b=AB)(e:h.get? b=U o):Nt K h A b=k8 o:=by
 unfold Nt;rw[AI B,D,AI (show(AB:Option Obj).isNone=AF from rfl),e]<;>rfl
def kW(q:Nt K h A b=U u):b∈A/\K.lookup b=AB:=by
 unfold Nt at q;by_cases B:b∈A
 .rw[AI B]at q;cases D:K.lookup b with
  |none=>exact⟨B,rfl⟩
  |some o=>
   rw[D,AD (!2)]at q;cases q
 rw[AD B]at q;cases q
def Sb(E: ∀a∈A,OB h A a)(q:Nt K h A b=U u):K.lookup b=AB/\ ∃vs:List Value,vs.length<=Ac/\(∀u∈vs,eA A u)∧
  ((h.get? b=U {cls:=.type "list",data:=.seq vs.toArray}/\u=.MZ {cls:=.type "list",data:=.seq vs.toArray} (.lst (vs.map toV)))∨
   (h.get? b=U {cls:=.type "tuple",data:=.seq vs.toArray}/\u=.MZ {cls:=.type "tuple",data:=.seq vs.toArray} (.tup (vs.map toV)))):=by
 obtain⟨B,D⟩:=kW q;obtain⟨vs,F,G,I⟩:=E b B;refine⟨D,vs,F,G,?_⟩;obtain e|e:=I
 .rw[Sd B D e,YJ]at q;exact .inl ⟨e,(BU q).symm⟩
 rw[Sd B D e,YI]at q;exact .inr ⟨e,(BU q).symm⟩
def dy(B: ∀a∈A,OB h A a):bR (Nt K h A):=λb=>by
 cases q:Nt K h A b with
 |none=>exact .inl rfl
 |some u=>
  obtain⟨_,vs,_,_,⟨_,e⟩|⟨_,e⟩⟩:=Sb B q
  .exact .inr ⟨_,_,by rw[e]⟩
  exact .inr ⟨_,_,by rw[e]⟩
def lh(E: ∀a∈A,OB h A a):OA P w (Nt K h A) h:=λb u q=>by
 obtain⟨_,vs,B,D,⟨e,rfl⟩|⟨e,rfl⟩⟩:=Sb E q
 .exact⟨e,by rw[AY];exact B,vs,_,M6 D,e⟩
 exact⟨e,by rw[AY];exact B,vs,M6 D,_,e,rfl,_,rfl⟩
def SK{us:List Value}(e:(U {cls:=c,data:=.seq vs.toArray}:Option Obj)=U {cls:=B,data:=.seq us.toArray}):c=B/\vs=us:=by
 have e1:=BU e;have e2:c=B:=congrArg Obj.cls e1;have e3:Hc vs.toArray=Hc us.toArray:=congrArg Obj.data e1;injection e3 with e4
 refine⟨e2,?_⟩;have e5:=congrArg Gu e4;simpa using e5
def zy(E:K.In h)(F: ∀a∈A,OB h A a){vs:List Value}(ha:a∈A)(e:h.get? a=U {cls:=.type "list",data:=.seq vs.toArray}):(∀u∈vs,eA A u)/\Ip K (Nt K h A) a (vs.map toV):=by
 obtain⟨us,G,D,I⟩:=F a ha;have J:us=vs:=by
  obtain q|q:=I
  .rw[e]at q;exact(SK q).2.symm
  rw[e]at q;exact absurd (HP (SK q).1) (!1)
 subst J;refine⟨D,?_⟩;cases B:K.lookup a with
 |none=>exact .inl (.inr ⟨_,by rw[Sd ha B e,YJ]⟩)
 |some o=>
  have e2:=E a o B;rw[e]at e2;obtain rfl:=BU e2;exact .inr ⟨_,us.toArray,_,B,rfl,rfl,rfl,by rw[Aq];exact G,by simpa using M6 D⟩
def zw(E:K.In h)(F: ∀a∈A,OB h A a){vs:List Value}(ha:a∈A)(e:h.get? a=U {cls:=.type "tuple",data:=.seq vs.toArray}):(∀u∈vs,eA A u)/\NR K (Nt K h A) a (vs.map toV):=by
 obtain⟨us,G,D,I⟩:=F a ha;have J:us=vs:=by
  obtain q|q:=I
  .rw[e]at q;exact absurd (HP (SK q).1) (!1)
  rw[e]at q;exact(SK q).2.symm
 subst J;refine⟨D,?_⟩;cases B:K.lookup a with
 |none=>exact .inl (.inr ⟨_,by rw[Sd ha B e,YI]⟩)
 |some o=>
  have e2:=E a o B;rw[e]at e2;obtain rfl:=BU e2;exact .inr ⟨_,us.toArray,_,B,rfl,rfl,by rw[Aq];exact G,by simpa using M6 D⟩
mutual
theorem qQ{Pm:CF}(KX:K.In h)(ar: ∀a∈A,OB h A a): ∀(d:WData)(v:Value),Well Pm h v d->aJ d=AF->eA A v->Dw K (Nt K h A) (toV v) d
 |.none,_,x,_,_=>by
  cases x;exact .Jm
 |.bool b,_,x,_,_=>by
  cases x;exact .bl b
 |.int i,_,x,_,_=>by
  cases x;exact .int i
 |.str s,_,x,_,_=>by
  cases x;exact .str s
 |.bytes b,_,x,_,_=>by
  cases x;have z:=Dw.Yf (K:=K) (H:=Nt K h A) b.toArray;exact z
 |.list ds,_,x,p,hu=>by
  obtain⟨a,vs,rfl,ho,T8⟩:=VH x;obtain⟨h2,hs⟩:=zy KX ar hu ho;exact .lst hs (W9 KX ar ds _ T8 p h2)
 |.tuple ds,_,x,p,hu=>by
  obtain⟨a,vs,rfl,ho,T8⟩:=Sf x;obtain⟨h2,hs⟩:=zw KX ar hu ho;exact .tup hs (W9 KX ar ds _ T8 p h2)
 |.float _,_,_,p,_=>Bc (show AJ=AF from p)
 |.dict _,_,_,p,_=>Bc (show AJ=AF from p)
 |.bytearray _,_,_,p,_=>Bc (show AJ=AF from p)
 |.set _,_,_,p,_=>Bc (show AJ=AF from p)
 |.frozenset _,_,_,p,_=>Bc (show AJ=AF from p)
 |.obj _ _,_,_,p,_=>Bc (show AJ=AF from p)
theorem W9{Pm:CF}(KX:K.In h)(ar: ∀a∈A,OB h A a): ∀(ds:List WData)(vs:List Value),WellAll Pm h vs ds->R7 ds=AF->(∀u∈vs,eA A u)->O2 K (Nt K h A) (vs.map toV) ds
 |[],_,x,_,_=>by
  cases x;exact .nil
 |d::ds,_,x,p,hu=>by
  obtain⟨v,vs,rfl,x1,x2⟩:=VI x;have q:aJ d=AF/\R7 ds=AF:=F6.mp p;exact .cons (qQ KX ar d v x1 q.1 (hu _ (BA ..))) (W9 KX ar ds vs x2 q.2 λu m=>hu u (Au _ m))
end
end
set_option tactic.hygienic true
def bu{K:PySem.W.Frag}(KX:K.In B.heap)(S:B.heap.Ns BQ mg)(hb:B.heap.Ns builtinsNs mb)(hbb: ∀x:Str,x≠"__name__"->mb x=Bt x)(Y:B.heap.NoLimit)(hg:B.gens= #[])(I:WellAll w.params B.heap vals L)(Z:R7 L=AF)(hwt: ∀d∈L,d.weight<=1048576)(hr:Kz k callerA)(F: ∀base:Heap,K.In base->base.Ns BQ mg->Lh P w K mg base CX k fa fd ps sp)(J: ∀(s:AZ)(us:List Value),us.length=ps.length->BindsTo s fd ⟨us,[]⟩ (ps.zip us))(hlen:L.length=ps.length)(hsp: ∀(H:Hp)(xs:List V),bR H->O2 K H xs L->sp xs H (λv H'=>Dw K H' v d0) λy y y=>False)(hCX: ∀H e s',CX [] H B (λy y y=>False) e s'->False):
  codeAny (Ay P w) callerA (.call (.ref fa) ⟨vals,[]⟩) (λr s'=> ∃u as,r=.ok (.ret u)/\ReadsW R cl s'.heap u d0 as/\OldK B.heap s'.heap/\s'.os=B.os/\AllBare s'.gens) B:=by
 obtain⟨A,ho,ar⟩:=Q0 L vals I Z hwt;have hO:bR (Nt K B.heap A):=dy ar;have JM:OA P w (Nt K B.heap A) B.heap:=lh ar;have hS:=W9 KX ar L vals I Z ho;have hV:=M6 ho;have hK: ∀b u,Nt K B.heap A b=U u->K.lookup b=AB:=λb u q=>(Sb ar q).1;have noA: ∀{b:AK}{o:Obj}{M:Array Cc}{O:Nat},B.heap.get? b=U o->o.data=.dict M O->Nt K B.heap A b=AB:=λ{b o M O} e d=>by
  cases q:Nt K B.heap A b with
  |none=>rfl
  |some u=>
   obtain⟨_,vs,_,_,⟨e2,_⟩|⟨e2,_⟩⟩:=Sb ar q
   .show 6 e2 e;have d':Hc vs.toArray _=AAw M O:=d;cases d'
   show 6 e2 e;have d':Hc vs.toArray _=AAw M O:=d;cases d'
 generalize Nt K B.heap A=H at hO JM hS hK noA;have D: ∀{b:AK}{o:Obj},B.heap.get? b=U o->H b=AB->(W0 B.heap H).get? b=U o:=λe n=>g8 e n;have E: ∀{b:AK}{m:Str->Option Value},B.heap.Ns b m->(W0 B.heap H).Ns b m:=λ{b m} ⟨o,M,O,e,d,r⟩=>⟨o,M,O,D e (noA e d),d,r⟩;have nK: ∀b o,K.lookup b=U o->H b=AB:=λb o e=>by
  cases q:H b with
  |none=>rfl
  |some u=>
   rw[hK b u q]at e;cases e
 have hKb:K.In (W0 B.heap H):=λb o e=>D (KX b o e) (nK b o e);have hM:Mod K mg (W0 B.heap H):=⟨hKb,E S,⟨mb,E hb,hbb⟩,let⟨mc,h1,h2⟩:=Y;⟨mc,E h1,h2⟩⟩;have e0:Z6 P w K mg (W0 B.heap H) callerA [] B H:=⟨rfl,hM,λb o e=>kU e,Ez (dA _ _),trivial,λb hb=>absurd (show b∈([]:List AK)from hb) (!2),JM,.of_eq hg⟩;have hl:vals.length=ps.length:=by rw[Mc I];exact hlen
 refine Ex ((F _ hKb (E S)).run callerA [] B H ⟨vals,[]⟩ vals (vals.map toV) _ _ hr e0 (J B vals hl) hV (hsp H _ hO hS)) λr s' x=>?_;cases r with
 |error e=>exact(hCX H e s' x).elim
 |ok fl=>
  cases fl with
  |next=>exact False.elim x
  |brk=>exact False.elim x
  |cont=>exact False.elim x
  |ret u=>
   obtain⟨v,H',os,bare,un,G,r',q⟩:=x;have kept: ∀b o,B.heap.get? b=U o->s'.heap.get? b=U o:=λb o e=>by
    cases q2:H b with
    |none=>exact un.keep b o e q2 (by intro z;exact absurd (show b∈([]:List AK)from z) (!2)) (!2)
    |some u2=>
     obtain z|⟨ob,u3,z⟩:=hO b
     .show 6 q2 z
     have z2:=un.OG b ob _ z;obtain⟨e1,_⟩:=JM b _ z;obtain⟨e2,_⟩:=G b _ z2;show 6 e e1;exact e2
   have KX':K.In s'.heap:=λb o e=>kept b o (KX b o e);obtain⟨as,tH⟩:=Dw.reads (R:=R) (cl:=cl) G KX' d0 v u q r';exact⟨u,as,rfl,tH,OldK.of_keep kept,os,bare⟩
def Tp(h:WData.layableAll B=AF): ∀d∈B,d.weight<=1048576:=λd hd=>
 (PySem.W.layableW_iff.mp (A7.mp h d hd)).2.2
theorem UL: ∀(cs:List Codec)(a:Codec.denoteAll cs),(Codec.encAll cs a).length=cs.length
 |[],_=>rfl
 |c::cs,a=>by
  show(Codec.encAll cs a.2).length+1=cs.length+1;rw[UL cs a.2]
def bU{K:CF->PySem.W.Frag}{CX:BJ->nR}{sp:BJ->Sp}(B:r.wellSaid=AF)(vf:d.params.defaults=[])(D:r.args.length=ps.length)(hr:Kz k callerA)(hY: ∀(w:BJ)(h:Heap),YP w h->(K w.params).In h)(F: ∀(w:BJ)(mg:Str->Option Value)(M:AK)(h:Heap),YP w h->(K w.params).In h->h.Ns BQ mg->mg d.name=U (.ref M)→
   ∃O:CY,(∀(s:AZ)(us:List Value),us.length=ps.length->BindsTo s O ⟨us,[]⟩ (ps.zip us))∧
    ∀base:Heap,(K w.params).In base->base.Ns BQ mg->Lh r.prog w (K w.params) mg base (CX w) k M O ps (sp w)) (S: ∀(w:BJ)(H:Hp)(xs:List V)(a:Codec.denoteAll r.args),bR H->Codec.withinAll r.args a=AF->Codec.app r.args r.asked a=AF->O2 (K w.params) H xs (Codec.encAll r.args a)→
   sp w xs H (λv H'=>Dw (K w.params) H' v (r.ret.enc (Codec.app r.args r.f a))) λy y y=>False) (Z: ∀(w:BJ)(H:Hp)(s:AZ)(e:Value)(s':AZ),CX w [] H s (λy y y=>False) e s'->False):
  PySem.W.WalkOS q loose XP YP r d [] (λf vs=>PySem.call f vs):=by
 intro w VZ E mg mb G Y M o pm cd doc dV kV ho hd hcd hD hmg hg args vals as I J tH vO hlo;obtain⟨a,e1,e2⟩:=PySem.W.os_pre_some I;obtain⟨e3,L⟩:=Codec.encAll_of_decAll r.args args a e1;subst e3;have KX:=hY w _ Y;obtain⟨O,hb,hF⟩:=F w mg M _ Y KX G.T.g hmg;refine PySem.W.enter_call (Ex (bu (R:=[]) (cl:=classAt VZ.heap) (d0:=r.ret.enc (Codec.app r.args r.f a)) KX G.T.g G.T.b G.T.builtins G.T.nolimit hg vO (Vc _ _) (Tp J) hr hF hb (by rw[UL];exact D)
  (λH xs hO hS=>S w H xs a hO L e2 hS) λH e s'=>Z w H E e s') λr' s' hq=>?_)
 obtain⟨u,as',rfl,h1,h2,h3,h4⟩:=hq;exact⟨.inl ⟨u,_,as',rfl,λy=>rfl,h1,(OpenSpec.post_iff B L _ _).mpr rfl,λz=>Bc (show AJ=AF from z)⟩,h2,h3,h4⟩
end _L
namespace _S
open Rc40
noncomputable def bld{α:Type}(d:α):Nat->List α->List α
 |0,_=>[]
 |n+1,l=>l.headD d::bld d n l.tail
theorem aS{α:Type}(d:α): ∀(n:Nat)(l:List α),l.length=n->l=bld d n l
 |0,_,h=>Ej h
 |n+1,a::t,h=>congrArg (a:: ·) (aS d n t (Nat.succ.inj h))
theorem Jn{α:Type}(p:α->Bool): ∀l:List α,(l.dropWhile p).length<=l.length
 |[]=>AR _
 |a::l=>by
  rw[Bj];split
  .exact Gg (Jn p l)
  exact AR _
theorem Ir{α:Type}(p:α->Bool): ∀l:List α,l.drop (l.takeWhile p).length=l.dropWhile p
 |[]=>rfl
 |a::l=>by
  rw[Aw,Bj];split
  .exact Ir p l
  rfl
set_option tactic.hygienic true
theorem JY{α:Type}(p:α->Bool): ∀{l:List α}{a:α}{r:List α},l.dropWhile p=a::r->p a=AJ
 |[],a,r,h=>by cases h
 |b::l,a,r,h=>by
  rw[Bj]at h;split at h
  .exact JY p h
  rename_i B;cases h;simpa using B
noncomputable def Of(c:Nat):Bool:=c==32||c==9
def Ra(t:Text):blank t=t.dropWhile Of:=rfl
def K3(c:Nat)(t:Text):blank (c::t)=if Of c=AF then blank t else c::t:=by
 rw[Ra,Ra,Bj]
def IE(t:Text):(blank t).length<=t.length:=Jn _ t
def Zv{r:Text}(h:blank t=c::r):Of c=AJ:=JY _ h
def Zu(t:Text):blank (blank t)=blank t:=by
 cases h:blank t with
 |nil=>rfl
 |cons c r=>rw[K3,AD (by rw[Zv h];decide)]
noncomputable def le(t:Text):Nat:=match t with
 |10::_=>1
 |13::10::_=>2
 |_=>0
def Ly(t:Text):eol t=if le t=0 then AB else U (t.drop (le t)):=by
 unfold eol le;split<;>split<;>simp_all
def YA(t:Text):le t<=t.length:=by
 unfold le;split<;>simp
def KC(h:eol t=U r):r.length<t.length:=by
 rw[Ly]at h;split at h
 .cases h
 rename_i hn;cases h;rw[AS];have:=YA t;omega
noncomputable def gp(t:Text):Text:=gap (t.length+1) t
def iI: ∀(f:Nat)(t:Text),t.length<f->gap f t=gp t:=by
 intro f
 induction f using BV with
 |_ f B=>
  intro t h
  match f,h with
  |f+1,h=>
   unfold gp;rw[gap,gap];cases e:eol (blank t)with
   |none=>rfl
   |some r=>
    have D:=KC e;have E:=IE t;show gap f r=gap t.length r;rw[B f (B1 f) r (!5)];by_cases q:t.length<f+1/\t.length≠f
    .rw[B t.length (!5) r (!5)]
    have:t.length=f:=!5
    rw[this,B f (B1 f) r (!5)]
def T9(t:Text):gp t=match eol (blank t)with
  |some r=>gp r
  |none=>blank t:=by
 unfold gp;rw[gap];cases e:eol (blank t)with
 |none=>rfl
 |some r=>
  have B:=KC e;have D:=IE t;show gap t.length r=gap (r.length+1) r;rw[iI _ _ (!3)];rfl
def uF{t:Text}(h:Of c=AF):gp (c::t)=gp t:=by
 rw[T9,T9 t,K3,AI h]
def p9(h:eol t=U r):gp t=gp r:=by
 have B:blank t=t:=by
  cases t with
  |nil=>rfl
  |cons c s=>
   rw[K3,AD];intro q;unfold eol at h;split at h
   .rename_i e;cases e;revert q;decide
   .rename_i e;cases e;revert q;decide
   cases h
 rw[T9,B,h]
def SW(B:blank t=t)(D:eol t=AB):gp t=t:=by
 rw[T9,B,D]
def Km(t:Text):(gp t).length<=t.length:=by
 generalize hn:t.length=n
 induction n using BV generalizing t with
 |_ n B=>
  subst hn;rw[T9];cases e:eol (blank t)with
  |none=>exact IE t
  |some r=>
   have D:=KC e;have E:=IE t;exact Aa (B r.length (!5) r rfl) (!5)
noncomputable def SJ(t:Text):Text:=match t with
 |35::r=>r.dropWhile seen
 |t=>t
def VY(h:seen c=AF):c≠10/\c≠13:=by
 constructor<;>(rintro rfl;revert h;decide)
def Nr(r:Text):comment (35::r)=if r.dropWhile seen=[]\/(eol (r.dropWhile seen)).isSome=AF then U (r.dropWhile seen)else AB:=by
 show(let c:=r.takeWhile λx=>x != 10;let c:=if c.getLast?=U 13/\c.length<r.length then c.dropLast else c;if c.all seen=AF then U (r.drop c.length)else AB)=_;have hs:r=r.takeWhile seen++r.dropWhile seen:=(A1).symm;generalize ha:r.takeWhile seen=a at hs;generalize M:r.dropWhile seen=s at hs;have D: ∀x∈a,seen x=AF:=by
  intro x hx;rw[<-ha]at hx;exact A7.mp (Ck) x hx
 have G: ∀x∈a,(x != 10)=AF:=by
  intro x hx;simp[(VY (D x hx)).1]
 subst hs;have tw: ∀s':Text,(a++s').takeWhile (λx=>x != 10)=a++s'.takeWhile (λx=>x != 10):=λs'=>BD G;show 4;rw[tw];cases s with
 |nil=>
  have I:(E7 (λx=>x != 10) ([]:Text))=[]:=rfl;rw[I,An];rw[AD (show¬(a.getLast?=U 13/\a.length<a.length)by simp),AI (A7.mpr D)];simp
 |cons c u=>
  have O:seen c=AJ:=JY seen M;by_cases E:c=10
  .subst E;have I:(E7 (λx=>x != 10) ((10:Nat)::u))=[]:=rfl;rw[I,An];have S: ¬(a.getLast?=U 13/\a.length<(a++10::u).length):=by
    rintro⟨q,_⟩;exact(VY (D 13 (Ei q))).2 rfl
   rw[AD S,AI (A7.mpr D)];rw[AI (show _\/(eol (10::u)).isSome=AF from .inr rfl)];simp
  have Y:(E7 (λx=>x != 10) (c::u))=c::u.takeWhile (λx=>x != 10):=by
   rw[Aw,AI (by simp[E])]
  rw[Y];have bad: ∀w:Text,c∈w-> ¬w.all seen=AF:=by
   intro w Z q;have:=A7.mp q c Z;show 6 O this
  by_cases B:(eol (c::u)).isSome=AF
  .obtain⟨F,uQ,eu⟩: ∃F,c=13/\u=10::F:=by
    unfold eol at B;split at B
    .rename_i q;cases q;exact absurd rfl E
    .rename_i q;cases q;exact⟨_,rfl,rfl⟩
    cases B
   subst uQ eu;have l2:(E7 (λx=>x != 10) ((10:Nat)::F))=[]:=rfl;have l3:(a++[13]).dropLast=a:=!2
   have J:(a++[13]:List Nat).getLast?=U 13/\(a++[13]:List Nat).length<(a++13::10::F:List Nat).length:=!2
   rw[l2,AI J,l3,AI (A7.mpr D),AI (.inr B)];simp
  rw[AD (show¬((c::u:Text)=[]\/(eol (c::u)).isSome=AF)by rintro(q|q);cases q;exact B q)];rw[AD];refine bad _ ?_
  split
  .rename_i q;rw[List.dropLast_append_of_ne_nil (!2)];cases L:u.takeWhile (λx=>x != 10)with
   |nil=>
    rw[L]at q;have q1:c=13:=by have:=q.1;simp at this;exact this
    have q2:=q.2;subst q1;exfalso;cases u with
    |nil=>simp at q2
    |cons d F=>
     by_cases hd:d=10
     .subst hd;exact B rfl
     rw[Aw,AI (by simp[hd])]at L;cases L
   |cons z zs=>simp[List.dropLast]
  simp
end _S
namespace _L
open PySem PySem.Spec PyProof.Rows
def Q6(P:BB)(w:BJ):nR:=λouter H s E e s'=>
 ∃(F C:AK)(G:Value)(B:Heap)(D:Hp),e=.ref F/\Gm B outer F (.ref C) G s'.heap/\s'.os=s.os/\AllBare s'.gens/\Un (OH outer) [] H D s.heap s'.heap∧
  (∀b o,s.heap.get? b=U o->H b=AB->b∉OH outer->B.get? b=U o)/\(∀b o,s.heap.get? b=U o->b∉OH outer-> ∃I,B.get? b=U I)/\OA P w D B/\E (.ref C) AB D
theorem Y5{B:Heap}(u:Un fs [] H H' h h1)(kb: ∀b o,h.get? b=U o->H b=AB->b∉fs->B.get? b=U o)(th: ∀b o,h.get? b=U o->b∉fs-> ∃o',B.get? b=U o')(st:B.StaysIn h2)(up:h1.UpToSlots h2)(fr: ∀b∈fs,∀o,h1.get? b=U o-> ∀vs,o.data≠ .fields vs):Un fs [] H H' h h2 where
 keep:=λb o e n hb z=>st b o (kb b o e n hb)
 slot:=λb o e n hb hx=>by
  obtain⟨sl,e1⟩:=u.slot b o e n hb hx;obtain⟨vF,e2⟩:=up b _ e1 (fr b hb _ e1);exact⟨vF,e2⟩
 free:=u.free
 there:=λb o e hx=>by
  by_cases hb:b∈fs
  .obtain⟨o1,e1⟩:=u.there b o e hx;obtain⟨vF,e2⟩:=up b _ e1 (fr b hb _ e1);exact⟨_,e2⟩
  obtain⟨o',e1⟩:=th b o e hb;exact⟨o',st b o' e1⟩
 Pb:=u.Pb
 OG:=u.OG
 Pd:=u.Pd
def Vw{h:Heap}(D:h.FunFrames base l): ∀b∈OH l,∀o,h.get? b=U o-> ∀vs,o.data≠ .fields vs:=λb E o e vs=>by
 obtain⟨_,F,B,d⟩:=D.mem E;show 6 e B;exact d vs
section
variable{P:BB}{w:BJ}{K:PySem.W.Frag}{mg:Str->Option Value}{base:Heap}{N:List Str}{qual:Str}{scope:Scope}{f:AK}{cd:Value}{A:CA}{outer:List Env}{s₀:AZ}{H₀:Hp}{E:XK}
def Ig:Passes (Q6 P w) (Ph (Q6 P w) P w K mg base N qual scope f cd A outer s₀ H₀ E) E:=by
 intro Ho σ H s e s' I hx;obtain⟨ea,C,a0,B,H',rfl,fl,os,bare,un,kb,th,JM,q⟩:=hx;have S:(A.deeper (envOfC qual scope s₀.heap.objs.size f cd)).frames=U (envOfC qual scope s₀.heap.objs.size f cd::outer):=I.ok.frames;refine wpAny_leaves_onW S rfl fl λh' J up=>?_;have nL: ∀b o,s₀.heap.get? b=U o->b≠s₀.heap.objs.size:=λb o e=>BH (Aj e);have L: ∀b o,s₀.heap.get? b=U o->b∉OH outer->b∉OH (envOfC qual scope s₀.heap.objs.size f cd::outer):=λb o e D z=>by
  obtain z|z:=AO.mp (I.Sv b z)
  .exact nL b o e z
  exact D z
 have G: ∀b o,s₀.heap.get? b=U o->H₀ b=AB->b∉OH outer->B.get? b=U o:=λb o e n D=>
  kb b o (I.base.keep b o e n D (by simp[Ph])) (I.base.free b o e n (by simp[Ph])) (L b o e D)
 have M: ∀b o,s₀.heap.get? b=U o->b∉OH outer-> ∃o',B.get? b=U o':=λb o e D=>by
  obtain⟨O,e1⟩:=I.base.there b o e (by simp[Ph]);exact th b O e1 (L b o e D)
 have F:Un (OH outer) [] H₀ H s₀.heap s.heap:=I.base;have Y:Un (OH outer) [] H₀ H' s₀.heap s'.heap:=by
  refine⟨λb o e n D hx=>?_,λb o e n D hx=>?_,λb o e n hx=>?_,λb o e hx=>?_,λb xs e=>un.Pb b xs (F.Pb b xs e),λb o u e=>un.OG b o u (F.OG b o u e),λb ps e=>?_⟩
  .exact fl.1 b o (G b o e n D)
  .obtain⟨sl,e1⟩:=F.slot b o e n D hx;obtain⟨Z,e2⟩:=un.any e1 (F.free b o e n hx) (!2);exact⟨Z,e2⟩
  .obtain⟨O,e1⟩:=F.there b o e hx;exact un.free b O e1 (F.free b o e n hx) (!2)
  .obtain⟨O,e1⟩:=F.there b o e hx;exact un.there b O e1 (!2)
  obtain⟨m1,e1⟩:=F.Pd b ps e;obtain⟨m2,e2⟩:=un.Pd b _ e1;exact⟨m1++m2,by rw[e2,FD]⟩
 have fr': ∀b∈OH outer,∀o,s'.heap.get? b=U o-> ∀vs,o.data≠ .fields vs:=by
  intro b D;have hl:s'.heap.FunFrames B outer:=fl.2.2.1.2.2;exact Vw hl b D
 exact⟨ea,C,a0,B,H',rfl,J,os.trans I.os,bare,Y5 Y G M J.1 up fr',G,M,JM,q⟩
end
noncomputable abbrev nE:List Value:=[.type "Exception",.type "BaseException",.type "object"]
def rE(K:PySem.W.Frag)(C:AK):Bool:=match K.lookup C with
 |some ⟨oc,_,.cls B,D⟩=>oc== .type "type"&&B.mro.head?==U (.ref C)&&D.toList[4]? ==U (U (.builtin "Exception.__new__"))&&D.toList.length==6&& !B.hasDel&&PySem.W.tailIn K nE B.mro.tail&&PySem.W.nsOkIn K B.ns&&PySem.W.nsIn K B.ns "__init__"==U AB
 |_=>AJ
def six{α:Type}{x:α}{l:List α}(e:l[4]? =U x)(h:l.length=6): ∃a b c d f,l=[a,b,c,d,x,f]:=by
 have q:=_S.aS x 6 l h;rw[q]at e;exact⟨_,_,_,_,_,q.trans (congrArg (λy=>[_,_,_,_,y,_]) (BU e))⟩
structure jE(K:PySem.W.Frag)(mg:Str->Option Value)(x:Str)(C:AK):Prop where
 bound:mg x=U (.ref C)
 ex:rE K C=AF
inductive ExO (h:Heap)(C:AK):Prop
 |mk (bm N nm qn bs hdct sn sub ab col dd k0 k1 k2 k3 k5 mN) (c:h.get? C=U (excClassObj nm qn C N bs bm hdct sn sub ab col dd k0 k1 k2 k3 k5 "Exception.__new__"))(n:h.Ns N mN)(i:mN "__init__"=AB)(t:OwnTail h nE bm)
def lL{K:PySem.W.Frag}{h:Heap}{C:AK}(B:K.In h)(e:rE K C=AF):ExO h C:=by
 unfold rE at e;cases look:K.lookup C with
 |none=>show 6 look e
 |some o=>
  rw[look]at e;obtain⟨oc,E,od,D⟩:=o;cases od with
  |cls data=>
   simp only[AX,BL,Bool.not_eq_true']at e;obtain⟨⟨⟨⟨⟨⟨⟨rfl,e2⟩,e3⟩,e4⟩,e5⟩,e6⟩,e7⟩,e8⟩:=e;obtain⟨c1,I,m,J,L,M,O,S,Y,F,G⟩:=data;obtain⟨D⟩:=D;obtain⟨k0,k1,k2,k3,k5,rfl⟩:=six e3 e4;cases e5;cases m with
   |nil=>cases e2
   |cons v tl=>
    cases e2;exact⟨tl,_,_,_,_,_,_,_,_,_,_,k0,k1,k2,k3,k5,_,B _ _ look,.of_isNs (PySem.W.isNs_of_in B e7),PySem.W.nsMap_none_of_in B e7 e8,PySem.W.tail_of_in B e6⟩
  |_=>cases e
section
variable{P:BB}{w:BJ}{K:PySem.W.Frag}{mg:Str->Option Value}{base:Heap}{N:List Str}{qual:Str}{scope:Scope}{f C:AK}{cd:Value}{A:CA}{outer:List Env}{s₀:AZ}{H₀:Hp}{E:XK}{x:Str}{np M0 pos:Pos}
noncomputable def nq(C:AK)(E:XK):TS:=λz z H=>E (.ref C) AB H
def JE(hx:jE K mg x C)(hg:Gl (Ph (Q6 P w) P w K mg base N qual scope f cd A outer s₀ H₀ E) x)(L:autoParam ((x==("__debug__":Str))=AJ) Li):
  PS (Ph (Q6 P w) P w K mg base N qual scope f cd A outer s₀ H₀ E) (.Raise (U (.Call (.Name x np) [] [] M0)) AB pos) (nq C E):=by
 intro Ho s σ H D I h;obtain⟨bm,NS,nm,qn,bs,hdct,sn,sub,ab,col,dd,k0,k1,k2,k3,k5,mN,oC,oN,oI,oT⟩:=lL I.Pu hx.ex;refine wpAny_Raise_call_subT (C:=C) (nm:=nm) (q:=qn) (N:=NS) (bs:=bs) (bm:=bm) (hdct:=hdct) (sn:=sn) (sub:=sub) (ab:=ab) (col:=col) (dd:=dd) (k0:=k0) (k1:=k1) (k2:=k2) (k3:=k3) (k5:=k5) (mN:=mN)
  PySem.F.excBase_Exception (oT.hasType PySem.F.excBase_Exception.hasBase) (I.ok.hd rfl) rfl oI (Nl I hg hx.bound ⟨rfl,?_⟩ L)
 refine evalArgs_empty ⟨rfl,Ax _,oC,oN,oT,λh' e made=>?_⟩;have M:(A.deeper (envOfC qual scope s₀.heap.objs.size f cd)).frames=U (envOfC qual scope s₀.heap.objs.size f cd::outer):=I.ok.frames;have mH:s.heap.FunFrames base (envOfC qual scope s₀.heap.objs.size f cd::outer):=I.stack;have O: ∀env∈(envOfC qual scope s₀.heap.objs.size f cd::outer),∀b,env.frame=U b->b∈OH (envOfC qual scope s₀.heap.objs.size f cd::outer):=λenv he b B=>E8.mpr ⟨env,he,B⟩;refine wpAny_leaves_madeW (base:=PySem.W.hideAll s.heap (OH (envOfC qual scope s₀.heap.objs.size f cd::outer))) (h:=s.heap) M rfl (λb o q=>PySem.W.of_hideAll _ q) (PySem.W.funFrames_hide mH O) made λh2 t fl tup tn up=>?_;have nL: ∀b o,s₀.heap.get? b=U o->b≠s₀.heap.objs.size:=λb o e=>BH (Aj e);have G: ∀b o,s₀.heap.get? b=U o->b∉OH outer->b∉OH (envOfC qual scope s₀.heap.objs.size f cd::outer):=λb o e B z=>by
  obtain z|z:=AO.mp (I.Sv b z)
  .exact nL b o e z
  exact B z
 have S:Un (OH outer) [] H₀ H s₀.heap s.heap:=I.base;have kb: ∀b o,s₀.heap.get? b=U o->H₀ b=AB->b∉OH outer->(PySem.W.hideAll s.heap (OH (envOfC qual scope s₀.heap.objs.size f cd::outer))).get? b=U o:=λb o e n B=>
  PySem.W.hideAll_get _ (S.keep b o e n B (!2)) (G b o e B)
 have th: ∀b o,s₀.heap.get? b=U o->b∉OH outer-> ∃o',(PySem.W.hideAll s.heap (OH (envOfC qual scope s₀.heap.objs.size f cd::outer))).get? b=U o':=λb o e B=>by
  obtain⟨o1,e1⟩:=S.there b o e (!2);exact⟨o1,PySem.W.hideAll_get _ e1 (G b o e B)⟩
 have u1:Un (OH outer) [] H₀ H s₀.heap h':=S.trans (Un.kept made.keeps);have Y: ∀b∈OH outer,∀o,h'.get? b=U o-> ∀vs,o.data≠ .fields vs:=λb B o e1=>by
  obtain⟨_,o2,e2,d⟩:=I.QE.mem B;have e3:=made.keeps b o2 e2;show 6 e1 e3;exact d
 have JM:OA P w H (PySem.W.hideAll s.heap (OH (envOfC qual scope s₀.heap.objs.size f cd::outer))):=λb o e=>by
  refine(I.JM b o e).Sx (λc u Z q=>PySem.W.hideAll_get _ q λz=>?_) (λy q=>q) λy y q=>q;have J:H c=AB:=I.WK c z;obtain rfl|Z:=Z
  .show 6 e J
  show 6 Z J
 exact⟨e,C,_,_,H,rfl,fl,I.os,I.bare,Y5 u1 kb th fl.1 up Y,kb,th,JM,h⟩
end
section
variable{X:Cx}{Ho:List (AK×Obj)}{σ:St}{H H':Hp}{s s':AZ}
def Hs.uJ{cls' a0':Value}(I:Hs X Ho σ H s)(fl:Gm B X.stack L cls M s'.heap)(os:s'.os=s.os)(bare:AllBare s'.gens)(un:Un (OH X.stack) [] H H' s.heap s'.heap)(E: ∀b o,s.heap.get? b=U o->H b=AB->b∉OH X.stack->B.get? b=U o)(F: ∀b o,s.heap.get? b=U o->b∉OH X.stack-> ∃G,B.get? b=U G)(JM:OA X.prog X.w H' B)(st:B.StaysIn D)(J:s'.heap.UpToSlots D):Hs X Ho σ H' {s' with heap:=D}:=by
 refine I.nI (ch:=[]) os (Y5 un E F st J (Vw fl.2.2.1)) (JM.kept λb u q=>st b u q) bare λb z=>absurd z (!2)
noncomputable abbrev Cx.mark(X:Cx)(e:AK):Cx:={X with A:=X.A.mark (U (.ref e)),calm:=AJ,xe:=λz z=>False}
theorem Hs.mark(I:Hs X Ho σ H s)(e:AK):Hs (X.mark e) Ho σ H s:=
 ⟨⟨I.ok.mod,I.ok.kind,I.ok.glob,I.ok.blt,I.ok.above,I.ok.inj,I.ok.has,I.ok.qT,(λz=>nomatch z),I.ok.frames,I.ok.mH,I.ok.rD,I.ok.bs,I.ok.eO,I.ok.ZW,I.ok.Zi,I.ok.QE,I.ok.dG⟩,I.os,I.bare,I.base,I.loc,I.cell,I.free,I.MR,I.pin,I.JM,I.len⟩
def Hs.unmark(I:Hs (X.mark e) Ho σ H s)(hd:X.calm=AF->X.A.handled=AB):Hs X Ho σ H s:=
 ⟨⟨I.ok.mod,I.ok.kind,I.ok.glob,I.ok.blt,I.ok.above,I.ok.inj,I.ok.has,I.ok.qT,hd,I.ok.frames,I.ok.mH,I.ok.rD,I.ok.bs,I.ok.eO,I.ok.ZW,I.ok.Zi,I.ok.QE,I.ok.dG⟩,I.os,I.bare,I.base,I.loc,I.cell,I.free,I.MR,I.pin,I.JM,I.len⟩
set_option tactic.hygienic true
theorem SP.unmark(h:SP (X.mark e) Ho D f s)(hd:X.calm=AF->X.A.handled=AB):SP X Ho D f s:=by
 cases f with
 |next=>obtain⟨B,H',I,q⟩:=h;exact⟨B,H',I.unmark hd,q⟩
 |brk=>obtain⟨B,H',I,q⟩:=h;exact⟨B,H',I.unmark hd,q⟩
 |cont=>obtain⟨B,H',I,q⟩:=h;exact⟨B,H',I.unmark hd,q⟩
 |ret u=>obtain⟨v,B,H',I,r,q⟩:=h;exact⟨v,B,H',I.unmark hd,r,q⟩
structure Clause where
 name:Str
 cls:AK
 np:Pos
 first:DW
 rest:List DW
 pos:Pos
 t:TS
abbrev Clause.hand(c:Clause):ExceptHandler:=.ExceptHandler (U (.Name c.name c.np)) AB (c.first::c.rest) c.pos
structure Yw(X:Cx)(c:Clause):Prop where
 gl:Gl X c.name
 bound:X.mg c.name=U (.ref c.cls)
 db:(c.name==("__debug__":Str))=AJ
 rh: ∀e,eP (X.mark e) (c.first::c.rest) c.t
def el(K:PySem.W.Frag)(C:AK):List Clause->TS
 |[]=>λz z z=>False
 |c::r=>λD σ H=> ∃b,PySem.W.exmOne K (.ref C) (.ref c.cls)=U b/\if b=AF then c.t D σ H else el K C r D σ H
theorem ay(hd:X.calm=AF->X.A.handled=AB)(Y:PassesOwnAt (Ay X.prog X.w) (X.A.mark (U (.ref E))) X.A X.env X.xe)(inv: ∀J,B.StaysIn J->s'.heap.UpToSlots J->Hs X Ho σ H' {s' with heap:=J}): ∀(cs:List Clause),(∀c∈cs,Yw X c)-> ∀(F:Heap),Gm B X.stack E (.ref C) a0 F->s'.heap.UpToSlots F->el X.K C cs D σ H'→
  Ar (Ay X.prog X.w) X.A (handleBy (.ref E) X.env (cs.map Clause.hand)) (SP X Ho D) X.xe {s' with heap:=F}
 |[],_,F,fl,I,q=>q.elim
 |c::r,ok,F,fl,I,q=>by
  obtain⟨b,eb,q⟩:=q;have oc:=ok c (BA);have Z:=inv F fl.1 I;have L:=Z.mark E;obtain⟨ob,M,G⟩:=fl.there;have LT:PySem.W.Looks (Ay X.prog X.w) F (typeOf (.ref E)) (.ref C):=by
   rw[<-G];exact(PySem.W.Looks.ld M).andThen .now
  show Ar _ _ (handleBy (.ref E) X.env (.ExceptHandler (U (.Name c.name c.np)) AB (c.first::c.rest) c.pos::r.map Clause.hand)) _ _ _;refine wpAny_handleBy_cons (codeAny_handlers_test ?_) (by intro z;cases z);refine Nl (X:=X.mark E) L oc.gl oc.bound ?_ oc.db
  refine PySem.W.exm_one Z.Pu LT eb _ _ _ _ (λy y z=>z) ?_
  cases b with
  |false=>exact ay hd Y inv r (λc hc=>ok c (Au _ hc)) F fl I q
  |true=>
   refine codeAny_handlers_suite (lands_againW fl λh6 O S=>?_);have I6:=(inv h6 O.1 (I.trans S)).mark E;exact wpAny_passesOwnAt Y (CL (oc.rh E Ho _ σ H' D I6 q) (λf s2 z=>SP.unmark z hd) λy y z=>z.elim)
end
section
variable{P:BB}{w:BJ}{K:PySem.W.Frag}{mg:Str->Option Value}{base:Heap}{N:List Str}{qual:Str}{scope:Scope}{f g:AK}{cd:Value}{A:CA}{outer:List Env}{s₀:AZ}{H₀:Hp}{E:XK}{x:Str}{p M0 w8 Y7:Pos}
 {k:Nat}{fd:CY}{ps:List Str}{sp:Sp}{U3:List V}{ds:List Value}{e:Expr}{es:List Expr}{ta:TA}
def aC(K:PySem.W.Frag)(sp:Sp)(B:List V)(ta:TA)(cs:List Clause):TS:=λD F H=>ta F H λvs G=>sp (vs++B) G D.rt λc z H2=> ∃C,c=.ref C/\el K C cs D F H2
set_option tactic.hygienic true
def cC(X:Cx)(hX:X=Ph (Q6 P w) P w K mg base N qual scope f cd A outer s₀ H₀ E)(F:Lh P w K mg base (Q6 P w) k g fd ps sp)(hr:Kz k X.A)(hg:Gl X x)(hm:mg x=U (.ref g))(hk:PySem.W.keepIn K (.ref g)=AF)(hb:Binds K fd ps O)(hd:IM G O)(ha:PA X.nox (e::S) ta)(ok: ∀z∈c::cs,Yw X z)(Z:autoParam ((x==("__debug__":Str))=AJ) Li)(he:autoParam (BC (e::S) X.env=(AJ,eval e X.env)::BC S X.env) KJ)(Wz:autoParam ((backTo M0 (BC S X.env)).any (·.1)=AJ) KJ):
  PS X (.Try [.Return (U (.Call (.Name x p) (e::S) [] M0)) w8] (c.hand::cs.map Clause.hand) [] [] Y7) (aC K sp G ta (c::cs)):=by
 subst hX;intro Ho s σ H D I h;refine wpAny_Try_except (FP (Ge (Cj (Nl I hg hm ?_ Z))));refine PySem.W.callWith_K (h₀:=base) I.ok.mod.qw hk (CL (ha M0 Ho s σ H _ (I.WB _) h) (λus s1 ⟨vs,H1,I1w,r,q⟩=>?_) λy y z=>z.elim) he Wz;have L:=I1w.Y4;refine⟨L.Pu,?_⟩;have r2:IM (vs++G) (us++O):=r.append hd;have hl:(us++O).length=ps.length:=by rw[<-r2.length];exact F.len _ _ _ _ q
 refine HK (Ex (F.run _ _ s1 H1 ⟨us,[]⟩ (us++O) (vs++G) _ _ hr L.qO (hb s1 us L.Pu hl) r2 q) λr s' M=>?_);cases r with
 |ok fl=>
  cases fl with
  |ret u=>
   obtain⟨v,H2,I2,rv,q2⟩:=L.after M;exact⟨v,σ,H2,I2,rv,q2⟩
  |next=>exact False.elim M
  |brk=>exact False.elim M
  |cont=>exact False.elim M
 |error x=>
  obtain⟨ea,C,a0,B,H2,rfl,fl,os,bare,un,kb,th,JM,C',eC,q2⟩:=M;cases eC;have inv: ∀Y,B.StaysIn Y->s'.heap.UpToSlots Y->Hs (Ph (Q6 P w) P w K mg base N qual scope f cd A outer s₀ H₀ E) Ho σ H2 {s' with heap:=Y}:=λY st up=>
   L.uJ (cls':=.none) (a0':=.none) fl os bare un kb th JM st up
  refine wpAny_looks_onW (env:=envOfC qual scope s₀.heap.objs.size f cd) I.ok.frames rfl fl λh4 J up4=>?_;refine wpAny_landsW J λh5 fl5 up5=>?_;exact ay (s':=s') (λy=>I.ok.hd rfl) AAk inv (c::cs) ok h5 fl5 (up4.trans up5) q2
end
def AA6:Passes (Q6 P w) X E0:=λz z z z z z z h=>by
 obtain⟨_,_,_,_,_,_,_,_,_,_,_,_,_,q⟩:=h;exact q.elim
def XS.ZU{K:PySem.W.Frag}{st:DW}(F:XS K x qual st f I)(S:Ji N ps (IV st))(len: ∀vs H Q E,sp vs H Q E->vs.length=ps.length)(B: ∀(Kg:Value)(A:CA)(outer:List Env)(s:AZ)(H:Hp)(vs:List V)(Q:VK)(E:XK),Kz k (A.deeper (envOfC qual (IV st) s.heap.objs.size f Kg))->sp vs H Q E→
  ∃t,eP (Ph (Q6 P w) P w K mg base N qual (IV st) f Kg A outer s H E) (J1 st) t/\t {nx:=λz J=>Q .Jm J,rt:=Q} (start N vs) H):Lh P w K mg base (Q6 P w) (k+1) f I ps sp:=by
 obtain⟨oc,od,kV,doc,pm,an,Kg,ct,Xw,rfl,L,D⟩:=F.ex;exact m7 L D S len λA outer s H vs Q E hr G=>B Kg A outer s H vs Q E hr G
def XS.Us{K:PySem.W.Frag}{st:DW}(F:XS K x qual st f D)(N:List Str)(B:Ji N ps (IV st)-> ∀(Kg:Value)(A:CA)(outer:List Env)(s:AZ)(H:Hp)(vs:List V)(Q:VK)(E:XK),Kz k (A.deeper (envOfC qual (IV st) s.heap.objs.size f Kg))->sp vs H Q E→
 ∃t,eP (Ph (Q6 P w) P w K mg base N qual (IV st) f Kg A outer s H E) (J1 st) t/\t {nx:=λz G=>Q .Jm G,rt:=Q} (start N vs) H) (S:autoParam (Ji N ps (IV st)) uv)(len:autoParam (∀vs H Q E,sp vs H Q E->vs.length=ps.length) uu):Lh P w K mg base (Q6 P w) (k+1) f D ps sp:=F.ZU S len (B S)
noncomputable def GI(mg:Str->Option Value)(x:Str)(i:Int):Prop:= ∃t,mg x=U (.int i t)
def Hx(g:GI X.mg x i)(B:autoParam (Gl X x) eD)(hd:autoParam ((x==("__debug__":Str))=AJ) Li):PE X (.Name x pos) (tC (.int i)):=by
 obtain⟨t,e⟩:=g;exact WZ B e ⟨t,rfl⟩ hd
section
variable(P:BB)(w:BJ)(K:PySem.W.Frag)(mg:Str->Option Value)(base:Heap)
noncomputable def FnAt(k:Nat)(x:Str)(ps:List Str)(B:List V)(sp:Sp):Prop:= ∃(f:AK)(D:CY)(E:List Value),mg x=U (.ref f)/\PySem.W.keepIn K (.ref f)=AF/\Binds K D ps E/\IM B E/\Lh P w K mg base (Q6 P w) k f D ps sp
noncomputable def Pk(k:Nat)(C:AK)(m:Str)(ps:List Str)(B:List V)(sp:Sp):Prop:= ∃(f:AK)(D:CY)(E:List Value),Uo K C/\Meth K C m f/\Binds K D ps E/\IM B E/\Lh P w K mg base (Q6 P w) k f D ps sp
noncomputable def VF(k:Nat)(x:Str)(C:AK)(ps:List Str)(B:List V)(sp:Sp):Prop:= ∃(f:AK)(D:CY)(E:List Value),mg x=U (.ref C)/\Mk K C f/\Binds K D ps E/\IM B E/\Lh P w K mg base (Q6 P w) k f D ps sp
end
section
variable{X:Cx}{k:Nat}{x m:Str}{C:AK}{ps:List Str}{U3:List V}{sp:Sp}{E:XK}{p pos apos:Pos}{e o:Expr}{es:List Expr}{t:TA}{ta:TE}
def Kc{H:Hp}{a C dx:AK}{fs:List (Str×V)}(e:H a=U (.ins C dx fs)):(∀K f Q,Fd K H a f Q=(Uo K C/\Jy K C f/\ ∃v,fs.lookup f=U v/\Q C v))/\(∀K f Q,FdS K H a f Q=(Uo K C/\Jy K C f/\fs.length<1000/\Q C dx fs))/\ ∀Q,FdP H a C Q=(fs.length<1000/\Q dx fs):=⟨λz z z=>uK e,λz z z=>qH e,λz=>qI e⟩
def Hn{t:TE}(B:PE X e t)(hs:autoParam (BC [e] X.env=(AJ,eval e X.env)::BC [] X.env) KJ):PA X [e] (Xe t Y9):=Hz B ML (hs:=hs)
def Hr(F:FnAt X.prog X.w X.K X.mg X.base k x ps U3 sp)(ha:PA X (e::es) t)(hr:autoParam (Kz k X.A) jH)(G:autoParam (Gl X x) eD)(hx:autoParam (Passes (Q6 X.prog X.w) X E) jG)(B:autoParam ((x==("__debug__":Str))=AJ) Li)
  (I:autoParam (BC (e::es) X.env=(AJ,eval e X.env)::BC es X.env) KJ)(D:autoParam ((backTo pos (BC es X.env)).any (·.1)=AJ) KJ):PE X (.Call (.Name x p) (e::es) [] pos) (mG sp U3 E t):=by
 obtain⟨f,M,O,hm,J,L,hd,F⟩:=F;exact kO F hr G hm J L hd hx ha B I D
class Z5 (C:AK)(m:Str)(sp:Sp):Prop where
 hs: ∀x vs H Q E,sp (x::vs) H Q E-> ∃a dx fs,x=.ref a/\H a=U (.ins C dx fs)/\fs.lookup m=AB
class Pl (t:TE):Prop where
 pl: ∀σ H Q,t σ H Q-> ∃v,Q v H
instance {i : Nat} : Pl (nk i) := ⟨fun _ _ _ h => let ⟨v, _, q⟩ := mV h; ⟨v, q⟩⟩
instance {v : V} : Pl (tC v) := ⟨fun _ _ _ h => ⟨v, h⟩⟩
noncomputable def nv(sp:Sp)(E:XK)(ta:TE):TE:=λB H Q=>ta B H λx D=>sp [x] D Q E
noncomputable def nu(sp:Sp)(E:XK)(ta D:TE):TE:=λB H Q=>ta B H λx F=>D B F λy H2=>sp [x,y] H2 Q E
def ID {pl : Sem Bool} [hs : Z5 C m sp] (F : Pk X.prog X.w X.K X.mg X.base k C m ps [] sp) (G : PE X o ta) (hr : autoParam (Kz k X.A) jH) (hx : autoParam (Passes (Q6 X.prog X.w) X E) jG)
  (J : autoParam (eval (.Call (.Attribute o m apos) [] [] pos) X.env = (do
   let D ← eval o X.env
   standAt apos.atName
   let (f, first) ← holding [D] (getMethod D m pl)
   callWith pos f first (backTo pos (BC [] X.env)) (backToKw pos (keywordEach [] X.env)))) KJ) :
  PE X (.Call (.Attribute o m apos) [] [] pos) (nv sp E ta) := by
 obtain ⟨f, Y, Z, c, hm, L, hd, F⟩ := F
 intro Ho s M H Q I h
 refine PySem.W.methodCall_KW (pl := pl) (Jv (G Ho s M H _ I h) fun u s1 ⟨x, H1, B, O, q⟩ => ?_) J
 obtain ⟨a, dx, fs, ex, S, l⟩ := hs.hs _ _ _ _ _ q
 subst ex
 obtain rfl : u = BF a := O
 refine UD B S c hm l ?_
 exact PySem.W.callWith_K0 (first := [.ref a]) B.Pu hm.kp (ZN (us := [.ref a]) (vs := [.ref a]) F hr L hd hx B (.cons rfl .nil) q)
def Ie {pl : Sem Bool} {D : TE} [hs : Z5 C m sp] [S : Pl D] (F : Pk X.prog X.w X.K X.mg X.base k C m ps [] sp) (Y : PE X o ta) (ha : PE X e D) (hr : autoParam (Kz k X.A) jH) (hx : autoParam (Passes (Q6 X.prog X.w) X E) jG)
  (B : autoParam (BC [e] X.env = (AJ, eval e X.env) :: BC [] X.env) KJ) (G : autoParam ((backTo pos (BC [] X.env)).any (·.1) = AJ) KJ)
  (Z : autoParam (eval (.Call (.Attribute o m apos) [e] [] pos) X.env = (do
   let J ← eval o X.env
   standAt apos.atName
   let (f, first) ← holding [J] (getMethod J m pl)
   callWith pos f first (backTo pos (BC [e] X.env)) (backToKw pos (keywordEach [] X.env)))) KJ) :
  PE X (.Call (.Attribute o m apos) [e] [] pos) (nu sp E ta D) := by
 obtain ⟨f, fd, ds, c, hm, hb, hd, F⟩ := F
 intro Ho s L H Q I h
 refine PySem.W.methodCall_KW (pl := pl) (Jv (Y Ho s L H _ I h) fun u s1 ⟨x, H1, M, rx, q⟩ => ?_) Z
 obtain ⟨y, q0⟩ := S.pl _ _ _ q
 obtain ⟨a, dx, fs, ex, ea, l⟩ := hs.hs _ _ _ _ _ q0
 subst ex
 obtain rfl : u = BF a := rx
 refine UD M ea c hm l ?_
 refine PySem.W.callWith_K (first := [.ref a]) (h₀ := X.base) I.ok.mod.qw hm.kp (Jv ((Hz ha ML (hs := B)) pos Ho s1 L H1 (fun vs H2 => sp (V.ref a :: vs) H2 Q E) M q) fun us s2 ⟨vs, H2, O, r, q2⟩ => ⟨O.Pu, ?_⟩) B G
 exact ZN (us := .ref a :: us) (vs := .ref a :: vs) F hr hb hd hx O (.cons rfl r) (by rw [An]; exact q2)
def Jl(F:VF X.prog X.w X.K X.mg X.base k x C ps U3 sp)(ha:PA X (e::es) t)(hr:autoParam (Kz (k+1) X.A) jH)(G:autoParam (Gl X x) eD)(hx:autoParam (Passes (Q6 X.prog X.w) X E) jG)(B:autoParam ((x==("__debug__":Str))=AJ) Li)
  (I:autoParam (BC (e::es) X.env=(AJ,eval e X.env)::BC es X.env) KJ)(D:autoParam ((backTo pos (BC es X.env)).any (·.1)=AJ) KJ):PE X (.Call (.Name x p) (e::es) [] pos) (KL C sp U3 E t):=by
 obtain⟨f,L,O,hm,M,J,hd,F⟩:=F;exact kM M F hr G hm J hd hx ha B I D
def cG(F:VF X.prog X.w X.K X.mg X.base k x C ps U3 sp)(hr:autoParam (Kz (k+1) X.A) jH)(D:autoParam (Gl X x) eD)(hx:autoParam (Passes (Q6 X.prog X.w) X E) jG)(B:autoParam ((x==("__debug__":Str))=AJ) Li):PE X (.Call (.Name x p) [] [] pos) (KL C sp U3 E Y9):=by
 obtain⟨f,I,J,hm,M,G,hd,F⟩:=F;exact ft M F hr D hm G hd hx B
def Ye{x:V}{B:St}(I:Hs X Ho B H s)(r:IU x u)(h: ∃t b,QL X.K H x t/\PySem.W.kitOne X.K t c=U b/\Q (.bl b) H):
  Ar (Ay X.prog X.w) X.A (call (.builtin "isinstance") [u,c]) (EP X Ho B Q) X.xe s:=by
 obtain⟨t,b,ty,e,q⟩:=h;exact cp I r ty e λtk=>⟨.bl b,H,I.tok tk,rfl,q⟩
def iT{Q:Prop}(h:b=AF)(p:P):if b=AF then P else Q:=by subst h;exact p
def iF{Q:Prop}(h:b=AJ)(p:Q):if b=AF then P else Q:=by subst h;exact p
def dT{Q:Prop}(h:a)(p:P):if@decide a i=AF then P else Q:=iT (Af h) p
def dF{Q:Prop}(h: ¬a)(p:Q):if@decide a i=AF then P else Q:=iF (AM h) p
def nT{Q:Prop}(h: ¬a)(p:P):if(!@decide a i)=AF then P else Q:=iT (by rw[AM h];rfl) p
def nF{Q:Prop}(h:a)(p:Q):if(!@decide a i)=AF then P else Q:=iF (by rw[Af h];rfl) p
def WJ(h:a)(p:P): @ite Prop a i P Q:=by rw[AI h];exact p
def W5(h: ¬a)(p:Q): @ite Prop a i P Q:=by rw[AD h];exact p
def Yy{Q:Prop}(p:P):if AF=AF then P else Q:=p
def Ol{Q:Prop}(p:Q):if AJ=AF then P else Q:=p
def Xc{Q:Prop}(p:P):if(!AJ)=AF then P else Q:=p
def bB{Q:Prop}(p:Q):if(!AF)=AF then P else Q:=p
end
end _L
namespace _S
open Rc40
set_option tactic.hygienic true
def U1(h:escape t=U x):x.2.length<t.length:=by
 unfold escape at h;split at h
 .cases h
 rename_i c r;repeat' (split at h)
 all_goals first
  |(cases h;done)
  |(cases h;simp;done)
  |(dsimp only at h;split at h;(cases h;simp[AS];omega);(cases h))
noncomputable def wi(q:Nat)(t:Text):Option (Text×Text):=match t with
 |[]=>AB
 |c::r=>if c=92/\q=34 then escape r else if seen c=AJ then AB else U ([c],r)
def J3(h:wi q t=U x):x.2.length<t.length:=by
 unfold wi at h;split at h
 .cases h
 rename_i c r;split at h
 .have:=U1 h;simp
  lia
 split at h
 .cases h
 cases h;simp
def Nf(q f:Nat)(t:Text):oneLine q (f+1) t=match t with
  |[]=>AB
  |c::r=>if c=q then U ([],r)else(wi q (c::r)).bind λx=>(oneLine q f x.2).map λy=>(x.1++y.1,y.2):=by
 cases t with
 |nil=>rfl
 |cons c r=>
  show(if c=q then U ([],r)else if c=92/\q=34 then(escape r).bind λx=>(oneLine q f x.2).map λy=>(x.1++y.1,y.2)else if seen c=AJ then AB else(oneLine q f r).map λy=>(c::y.1,y.2))=_;unfold wi;show 4;by_cases B:c=q
  .rw[AI B,AI B]
  rw[AD B,AD B];by_cases D:c=92/\q=34
  .rw[AI D,AI D]
  rw[AD D,AD D];by_cases E:seen c=AJ
  .rw[AI E,AI E];rfl
  rw[AD E,AD E];rfl
def Wg(q:Nat): ∀(f g:Nat)(t:Text),t.length<f->t.length<g->oneLine q f t=oneLine q g t:=by
 intro f
 induction f with
 |zero=>intro g t h;nofun
 |succ f D=>
  intro g t E B
  match g,B with
  |g+1,B=>
   rw[Nf,Nf];cases t with
   |nil=>rfl
   |cons c r=>
    show 4;split
    .rfl
    cases e:wi q (c::r)with
    |none=>rfl
    |some x=>
     have:=J3 e;show(oneLine q f x.2).map _=(oneLine q g x.2).map _;rw[D g x.2 (by simp at*;nofun) (by simp at*;nofun)]
noncomputable def ol(q:Nat)(t:Text):Option (Text×Text):=oneLine q (t.length+1) t
def sH(h:t.length<f):oneLine q f t=ol q t:=Wg q _ _ _ h (B1 _)
def Wh(q:Nat):ol q []=AB:=rfl
def PL(q c:Nat)(r:Text):ol q (c::r)=if c=q then U ([],r)else(wi q (c::r)).bind λx=>(ol q x.2).map λy=>(x.1++y.1,y.2):=by
 unfold ol;rw[Nf];show 4;split
 .rfl
 cases e:wi q (c::r)with
 |none=>rfl
 |some x=>
  have:=J3 e;show(oneLine q _ x.2).map _=(ol q x.2).map _;rw[sH (!8 this)]
def Ve: ∀{t:Text}{x:Text×Text},ol q t=U x->x.2.length<t.length:=by
 intro t;generalize hn:t.length=n
 induction n using BV generalizing t with
 |_ n B=>
  subst hn;intro x h;cases t with
  |nil=>show 6 Wh h
  |cons c r=>
   rw[PL]at h;split at h
   .cases h;simp
   cases e:wi q (c::r)with
   |none=>show 6 e h
   |some y=>
    have D:=J3 e;rw[e]at h;replace h:(ol q y.2).map (λz=>(y.1++z.1,z.2))=U x:=h;cases e2:ol q y.2 with
    |none=>show 6 e2 h
    |some z=>
     show 6 e2 h;have:=B _ D rfl e2;show 4
     lia
noncomputable def qn(q:Nat)(t:Text):Nat:=(t.takeWhile λx=>x==q).length
def TQ(q:Nat):qn q []=0:=rfl
def LF(q c:Nat)(r:Text):qn q (c::r)=if c=q then qn q r+1 else 0:=by
 unfold qn;rw[Aw];by_cases h:c=q
 .rw[AI (by simp[h]),AI h];rfl
 rw[AD (by simp[h]),AD h];rfl
def MN(q f:Nat)(t:Text):manyLines q (f+1) t=match t with
  |[]=>AB
  |c::r=>
   if 3<=qn q (c::r)then(if qn q (c::r)<=5 then U (Ad (qn q (c::r)-3) q,(c::r).drop (qn q (c::r)))else AB)
   else if c=92/\q=34/\(eol (blank r)).isSome=AF then manyLines q f (gp r)
   else match eol (c::r)with
    |some s=>(manyLines q f s).map λy=>(10::y.1,y.2)
    |none=>(wi q (c::r)).bind λx=>(manyLines q f x.2).map λy=>(x.1++y.1,y.2):=by
 cases t with
 |nil=>rfl
 |cons c r=>
  rw[manyLines];show(if 3<=qn q (c::r)then(if qn q (c::r)<=5 then U (Ad (qn q (c::r)-3) q,r.drop (qn q (c::r)-1))else AB)else _)=_;show 4;by_cases D:3<=qn q (c::r)
  .rw[AI D,AI D];obtain⟨k,F⟩: ∃k,qn q (c::r)=k+1:=⟨qn q (c::r)-1,!4⟩;rw[F];rfl
  rw[AD D,AD D];by_cases E:c=92/\q=34
  .obtain⟨rfl,rfl⟩:=E;rw[AI ⟨rfl,rfl⟩];by_cases B:(eol (blank r)).isSome=AF
   .rw[AI B,AI ⟨rfl,rfl,B⟩];rfl
   rw[AD B,AD (show¬((92:Nat)=92/\(34:Nat)=34/\(eol (blank r)).isSome=AF)from λz=>B z.2.2)];show _=(wi 34 (92::r)).bind _;rfl
  rw[AD E,AD (show¬(c=92/\q=34/\(eol (blank r)).isSome=AF)from λz=>E ⟨z.1,z.2.1⟩)];cases e:eol (c::r)with
  |some s=>rfl
  |none=>
   show 4;unfold wi;show 4;rw[AD E];by_cases B:seen c=AJ
   .rw[AI B,AI B];rfl
   rw[AD B,AD B];rfl
def Ti(q:Nat): ∀(f g:Nat)(t:Text),t.length<f->t.length<g->manyLines q f t=manyLines q g t:=by
 intro f
 induction f with
 |zero=>intro g t h;nofun
 |succ f B=>
  intro g t E D
  match g,D with
  |g+1,D=>
   rw[MN,MN];cases t with
   |nil=>rfl
   |cons c r=>
    show 4;simp only[AN]at E D;split
    .rfl
    split
    .have:=Km r;exact B g _ (!5) (!5)
    cases e:eol (c::r)with
    |some s=>
     have:=KC e;simp only[AN]at this;show 4;rw[B g s (!5) (!5)]
    |none=>
     show 4;cases e2:wi q (c::r)with
     |none=>rfl
     |some x=>
      have:=J3 e2;simp only[AN]at this;show(manyLines q f x.2).map _=(manyLines q g x.2).map _;rw[B g x.2 (!5) (!5)]
noncomputable def ml(q:Nat)(t:Text):Option (Text×Text):=manyLines q (t.length+1) t
def gN(h:t.length<f):manyLines q f t=ml q t:=Ti q _ _ _ h (B1 _)
def gO(q:Nat):ml q []=AB:=rfl
def Qi(q c:Nat)(r:Text):ml q (c::r)=
   if 3<=qn q (c::r)then(if qn q (c::r)<=5 then U (Ad (qn q (c::r)-3) q,(c::r).drop (qn q (c::r)))else AB)
   else if c=92/\q=34/\(eol (blank r)).isSome=AF then ml q (gp r)
   else match eol (c::r)with
    |some s=>(ml q s).map λy=>(10::y.1,y.2)
    |none=>(wi q (c::r)).bind λx=>(ml q x.2).map λy=>(x.1++y.1,y.2):=by
 conv=>lhs;unfold ml
 rw[MN];show 4;split
 .rfl
 split
 .have:=Km r;exact gN (by simp;nofun)
 cases e:eol (c::r)with
 |some s=>
  have:=KC e;show 4;rw[gN this]
 |none=>
  show 4;cases e2:wi q (c::r)with
  |none=>rfl
  |some x=>
   have:=J3 e2;show(manyLines q _ x.2).map _=(ml q x.2).map _;rw[gN this]
def cS(J:q=34\/q=39)(B:0<qn q t)(E:qn q t<3):ml q t=(ml q (t.drop (qn q t))).map λy=>(Ad (qn q t) q++y.1,y.2):=by
 have one: ∀{r:Text},qn q (q::r)<3->ml q (q::r)=(ml q r).map λy=>(q::y.1,y.2):=by
  intro r hr;rw[Qi,AD (!5),AD (by rintro⟨z,M,_⟩;nofun)];have e:eol (q::r)=AB:=by
   unfold eol;split
   .rename_i z;cases z;nofun
   .rename_i z;cases z;nofun
   rfl
  rw[e];have w:wi q (q::r)=U ([q],r):=by
   unfold wi;show 4;rw[AD (!5),AD (by obtain rfl|rfl:=J<;>decide)]
  rw[w];rfl
 cases t with
 |nil=>rw[TQ]at B;nofun
 |cons c r=>
  rw[LF]at B E⊢;by_cases F:c=q
  .subst F;rw[AI rfl]at B E⊢;have G:=one (r:=r) (by rw[LF,AI rfl];exact E);by_cases I:qn c r=0
   .rw[G,I];rfl
   have D:qn c r=1:=!5
   cases r with
   |nil=>rw[TQ]at I;nofun
   |cons d u=>
    rw[LF]at D;by_cases hd:d=c
    .subst hd;rw[AI rfl]at D;have L:=one (r:=u) (by rw[LF,AI rfl];nofun);rw[G,L,LF,AI rfl,D];show((ml d u).map _).map _=_;rw[C9];rfl
    rw[AD hd]at D
    nofun
  rw[AD F]at B
  nofun
def RG(c:Nat)(r:Text)(h:c=34\/c=39):quoted (c::r)=if r.take 2=[c,c]then ml c ((r.drop 2).drop (le (r.drop 2)))else ol c r:=by
 show(if c≠34/\c≠39 then AB else if r.take 2=[c,c]then(let s:=r.drop 2;let s:=(eol s).getD s;manyLines c (s.length+1) s)else oneLine c (r.length+1) r)=_;rw[AD (!3)];split
 .show 4;have e:(eol (r.drop 2)).getD (r.drop 2)=(r.drop 2).drop (le (r.drop 2)):=by
   rw[Ly];split
   .rename_i z;rw[z];rfl
   rfl
  rw[e];rfl
 rfl
def QR(r:Text):SJ (35::r)=r.dropWhile seen:=rfl
def O9{t:Text}(h: ∀r,t≠35::r):SJ t=t:=by
 unfold SJ;split
 .rename_i r;exact absurd rfl (h r)
 rfl
def U4{t:Text}(h: ∀r,t≠35::r):comment t=U t:=by
 unfold comment;split
 .rename_i r;exact absurd rfl (h r)
 rfl
def Qt(t:Text):ended t=if SJ (blank t)≠ []/\le (SJ (blank t))=0 then AB else U ((SJ (blank t)).drop (le (SJ (blank t)))):=by
 unfold ended;generalize blank t=b;have fin: ∀r:Text,(if r.isEmpty=AF then U []else eol r)=if r≠ []/\le r=0 then AB else U (r.drop (le r)):=by
  intro r;cases r with
  |nil=>rfl
  |cons c u=>
   rw[AD (!2),Ly];by_cases z:le (c::u)=0
   .rw[AI z,AI ⟨!2,z⟩]
   rw[AD z,AD (λq=>z q.2)]
 by_cases D: ∃r,b=35::r
 .obtain⟨r,rfl⟩:=D;rw[Nr,QR];by_cases h:r.dropWhile seen=[]\/(eol (r.dropWhile seen)).isSome=AF
  .rw[AI h];exact fin _
  rw[AD h,AI]
  .rfl
  refine⟨λz=>h (.inl z),?_⟩;have:=λz=>h (.inr z);rw[Ly]at this;by_cases z:le (r.dropWhile seen)=0
  .exact z
  rw[AD z]at this;exact absurd rfl this
 have B: ∀r,b≠35::r:=λr z=>D ⟨r,z⟩;rw[U4 B,O9 B];exact fin b
def ZC: ∀(f g:Nat)(t:Text),t.length<f->t.length<g->space f t=space g t:=by
 intro f
 induction f with
 |zero=>intro g t h;nofun
 |succ f B=>
  intro g t E D
  match g,D with
  |g+1,D=>
   rw[space,space];have F:=IE t;split
   .rename_i r e;rw[Nr];have G:=Jn seen r;have I:(blank t).length=r.length+1:=by rw[e];rfl
    split
    .show space f _=space g _;exact B g _ (!5) (!5)
    rfl
   rename_i s e;cases e2:eol (blank t)with
   |none=>rfl
   |some u=>
    have:=KC e2;show 4;exact B g u (!5) (!5)
noncomputable def sp(t:Text):Option Text:=space (t.length+1) t
def fD(h:t.length<f):space f t=sp t:=ZC _ _ _ h (B1 _)
def jJ(t:Text):Option Text:=match t with
 |35::r=>(comment (35::r)).bind sp
 |t=>U t
def VV(t:Text):sp t=jJ (gp t):=by
 generalize hn:t.length=n
 induction n using BV generalizing t with
 |_ n B=>
  subst hn
  conv=>lhs;unfold sp
  dsimp only[space];have D:=IE t;rw[T9];split
  .rename_i r e;have e2:eol (blank t)=AB:=by rw[e];rfl
   rw[e2];show 4;rw[e];show _=(comment (35::r)).bind sp;rw[Nr];have E:=Jn seen r;have F:(blank t).length=r.length+1:=by rw[e];rfl
   split
   .show space _ _=sp _;exact fD (!5)
   rfl
  rename_i s e;cases e2:eol (blank t)with
  |none=>
   show 4;unfold jJ;split
   .rename_i r q;exact absurd q (e r)
   rfl
  |some u=>
   have:=KC e2;show 4;rw[fD (!5)];exact B u.length (!5) u rfl
noncomputable def Dc(t:Text):Prop:= ∃c r,t=c::r/\seen c=AJ/\eol t=AB
def Dc.blank(h:Dc t):blank t=t:=by
 obtain⟨c,r,rfl,hs,_⟩:=h;rw[K3,AD];intro q;have:c=32\/c=9:=by simpa[Of]using q
 obtain rfl|rfl:=this<;>(revert hs;decide)
def Dc.gp(h:Dc t):gp t=t:=SW h.blank (let⟨_,_,_,_,e⟩:=h;e)
def Dc.hash(h:Dc t): ∀r,t≠35::r:=λr e=>by
 obtain⟨c,D,B,hs,_⟩:=h;show 6 B e;revert hs;decide
def Sy(r:Text):(jJ (35::r)=sp (SJ (35::r)))\/(jJ (35::r)=AB/\Dc (SJ (35::r))):=by
 show((comment (35::r)).bind sp=_)\/((comment (35::r)).bind sp=AB/\_);rw[Nr,QR];by_cases h:r.dropWhile seen=[]\/(eol (r.dropWhile seen)).isSome=AF
 .rw[AI h];exact .inl rfl
 rw[AD h];refine .inr ⟨rfl,?_⟩;cases e:r.dropWhile seen with
 |nil=>exact absurd (.inl e) h
 |cons c u=>
  refine⟨c,u,rfl,JY seen e,?_⟩;cases e2:eol (c::u)with
  |none=>rfl
  |some z=>exact absurd (.inr (by rw[e,e2];rfl)) h
def OQ(r:Text):(SJ (35::r)).length<(35::r).length:=DQ (Jn _ _)
def MD{t:Text}(h: ∀r,t≠35::r):jJ t=U t:=by
 unfold jJ;split
 .rename_i r;exact absurd rfl (h r)
 rfl
def ZA: ∀{t u:Text},jJ t=U u->u.length<=t.length:=by
 intro t;generalize hn:t.length=n
 induction n using BV generalizing t with
 |_ n D=>
  subst hn;intro u h;by_cases B: ∃r,t=35::r
  .obtain⟨r,rfl⟩:=B;obtain e|⟨e,_⟩:=Sy r
   .rw[e,VV]at h;have E:=OQ r;have F:=Km (SJ (35::r));have:=D (gp (SJ (35::r))).length (!3) rfl h
    lia
   show 6 e h
  rw[MD λr z=>B ⟨r,z⟩]at h;cases h;exact AR _
def LR(h:sp t=U u):u.length<=t.length:=by
 rw[VV]at h;exact Aa (ZA h) (Km t)
def Wc(t:Text):part t=match t with
  |[]=>AB
  |c::r=>if c=34\/c=39 then ol c r else if t.takeWhile isWord=[]then AB else U (t.takeWhile isWord,t.dropWhile isWord):=by
 cases t with
 |nil=>rfl
 |cons c r=>
  show(if c=34\/c=39 then oneLine c (r.length+1) r else let w:=(c::r).takeWhile isWord;if w.isEmpty=AF then AB else U (w,(c::r).drop w.length))=_;show 4;rw[Ir];split
  .rfl
  simp only[FU]
def Js(h:part t=U x):x.2.length<t.length:=by
 rw[Wc]at h;split at h
 .cases h
 rename_i c r;split at h
 .have:=Ve h;simp
  lia
 split at h
 .cases h
 rename_i B;cases h;have e:(c::r).takeWhile isWord++(c::r).dropWhile isWord=c::r:=A1;have:=congrArg A5 e;rw[AG]at this;have D:0<((c::r).takeWhile isWord).length:=by
  cases z:(c::r).takeWhile isWord with
  |nil=>exact absurd z B
  |cons a b=>simp
 show 4
 lia
def gi: ∀(f g:Nat)(t:Text),t.length<f->t.length<g->key f t=key g t:=by
 intro f
 induction f with
 |zero=>intro g t h;nofun
 |succ f D=>
  intro g t E B
  match g,B with
  |g+1,B=>
   rw[key,key];cases e:part t with
   |none=>rfl
   |some x=>
    have F:=Js e;have G:=IE x.2;show(match blank x.2 with|46::r=>_|r=>_)=(match blank x.2 with|46::r=>_|r=>_);split
    .rename_i r e2;have I:(blank x.2).length=r.length+1:=by rw[e2];rfl
     have J:=IE r;rw[D g (blank r) (!5) (!5)]
    rfl
noncomputable def ky(t:Text):Option (List Text×Text):=key (t.length+1) t
def Tq(h:t.length<f):key f t=ky t:=gi _ _ _ h (B1 _)
def kc(t:Text):Option (List Text×Text):=match t with
 |46::r=>ky (blank r)
 |t=>U ([],t)
def Tr(t:Text):ky t=(part t).bind λx=>(kc (blank x.2)).map λy=>(x.1::y.1,y.2):=by
 conv=>lhs;unfold ky
 dsimp only[key];cases e:part t with
 |none=>rfl
 |some x=>
  have B:=Js e;have D:=IE x.2;show(match blank x.2 with|46::r=>_|r=>_)=(kc (blank x.2)).map λy=>(x.1::y.1,y.2);unfold kc;split
  .rename_i r e2;have E:(blank x.2).length=r.length+1:=by rw[e2];rfl
   have F:=IE r;rw[Tq (!3)]
  rfl
def Tu(r:Text):kc (46::r)=ky (blank r):=rfl
def Tv{t:Text}(h: ∀r,t≠46::r):kc t=U ([],t):=by
 unfold kc;split
 .rename_i r;exact absurd rfl (h r)
 rfl
def LJ: ∀{t:Text}{x:List Text×Text},ky t=U x->x.2.length<t.length/\x.1≠ []/\blank x.2=x.2/\x.1.length<=t.length-x.2.length:=by
 intro t;generalize hn:t.length=n
 induction n using BV generalizing t with
 |_ n D=>
  subst hn;intro x h;rw[Tr]at h;cases e:part t with
  |none=>show 6 e h
  |some y=>
   have E:=Js e;have F:=IE y.2;rw[e]at h;replace h:(kc (blank y.2)).map (λz=>(y.1::z.1,z.2))=U x:=h;by_cases B: ∃r,blank y.2=46::r
   .obtain⟨r,hr⟩:=B;have G:(blank y.2).length=r.length+1:=by rw[hr];rfl
    have I:=IE r;rw[hr,Tu]at h;cases e2:ky (blank r)with
    |none=>show 6 e2 h
    |some z=>
     show 6 e2 h;have:=D (blank r).length (!5) rfl e2;refine⟨by show 4;nofun,!2,this.2.2.1,?_⟩;simp only[AN]
     nofun
   rw[Tv λr z=>B ⟨r,z⟩]at h;cases h;refine⟨by show 4;nofun,!2,Zu _,?_⟩;simp only[AN,Cr]
   nofun
noncomputable def dw(c:Nat):Nat:=if 48<=c/\c<=57 then c-48 else if 65<=c/\c<=70 then c-55 else if 97<=c/\c<=102 then c-87 else 16
def LC(b:Nat):Text->Bool->Option (List Nat)
 |[],after=>if after=AF then U []else AB
 |c::r,after=>if c=95/\after=AF then LC b r AJ else if b<=dw c then AB else(LC b r AF).map λl=>dw c::l
def pb(b:Nat)(c:Nat):Bool:=decide (dw c<b)
def YS(h:dw c<16):dw c=digit c:=by
 dsimp only[dw]at h⊢;dsimp only[digit];split
 .rw[AI (!5)]
 rw[AD (!5)]at h;split
 .rw[AD (!5),AI (!5)]
 rename_i E B;rw[AD B]at h;split
 .rw[AD (!5),AD (!5)]
 rename_i D;rw[AD D]at h
 nofun
set_option tactic.hygienic false
def uU:dw 95=16:=rfl
def aN:pb 10=isDigit:=by
 funext c
 unfold pb isDigit dw
 congr 1
 apply propext;constructor
 .intro h;split at h
  .assumption
  repeat' (split at h)
  all_goals omega
 intro h;rw[AI h];omega
def ma:pb 16=isHex:=by
 funext c
 unfold isHex isDigit;rw[<-He,<-He];unfold pb dw
 congr 1
 apply propext;constructor
 .intro h;repeat' (split at h)
  all_goals lia
 intro h;repeat' split
 all_goals lia
def xR:pb 8=λc=>decide (48<=c/\c<=55):=by
 funext c
 unfold pb dw
 congr 1
 apply propext;constructor
 .intro h;repeat' (split at h)
  all_goals lia
 intro h;repeat' split
 all_goals lia
def xS:pb 2=λc=>decide (48<=c/\c<=49):=by
 funext c
 unfold pb dw
 congr 1
 apply propext;constructor
 .intro h;repeat' (split at h)
  all_goals lia
 intro h;repeat' split
 all_goals lia
theorem Lf(E:b<=16): ∀(t:Text)(a:Bool),LC b t a=(digits (pb b) t a).map (Gj digit)
 |[],a=>by
  show(if a=AF then U []else AB)=(if a=AF then U []else AB:Option Text).map (Gj digit);split<;>rfl
 |c::r,a=>by
  show(if c=95/\a=AF then LC b r AJ else if b<=dw c then AB else(LC b r AF).map λl=>dw c::l)=(if pb b c=AF then(digits (pb b) r AF).map λl=>c::l else if c=95/\a=AF then digits (pb b) r AJ else AB:Option Text).map (Gj digit);by_cases D:dw c<b
  .have B: ¬(c=95/\a=AF):=by
    rintro⟨rfl,_⟩;rw[uU]at D
    nofun
   rw[AD B,AD (!5),AI (by dsimp only[pb];exact Af D),Lf E r AF,C9,C9,YS (!5)];rfl
  have F: ¬pb b c=AF:=by
   dsimp only[pb];simpa using D
  rw[AD F];by_cases B:c=95/\a=AF
  .rw[AI B,AI B];exact Lf E r AJ
  rw[AD B,AD B,AI (!5)];rfl
theorem Mz: ∀{t:Text}{a:Bool}{ws:List Nat},LC b t a=U ws-> ∀w∈ws,w<b
 |[],a,ws,h=>by
  dsimp only[LC]at h;split at h<;>cases h
  intro w hw;cases hw
 |c::r,a,ws,h=>by
  dsimp only[LC]at h;split at h
  .exact Mz h
  split at h
  .cases h
  cases e:LC b r AF with
  |none=>show 6 e h
  |some l=>
   show 6 e h;intro w hw;obtain rfl|hw:=AO.mp hw
   .nofun
   exact Mz e w hw
theorem Le: ∀{t:Text}{a:Bool}{ws:List Nat},LC b t a=U ws->ws.length<=t.length
 |[],a,ws,h=>by
  dsimp only[LC]at h;split at h<;>cases h
  exact AR _
 |c::r,a,ws,h=>by
  dsimp only[LC]at h;split at h
  .have:=Le h;simp
   nofun
  split at h
  .cases h
  cases e:LC b r AF with
  |none=>show 6 e h
  |some l=>
   show 6 e h;have:=Le e;simp
   nofun
noncomputable def nb(b:Nat)(ws:List Nat):Nat:=ws.foldl (λn w=>b*n+w) 0
def NF(b:Nat)(d:Text):number b d=nb b (d.map digit):=by
 unfold number nb;rw[List.foldl_map]
def Qg(b:Nat)(ws:List Nat)(w:Nat):nb b (ws++[w])=b*nb b ws+w:=by
 dsimp only[nb];rw[DS];rfl
theorem UH(b:Nat): ∀(ws:List Nat)(a:Nat),ws.foldl (λn w=>b*n+w) a=a*b^ws.length+nb b ws
 |[],a=>by simp[nb]
 |w::ws,a=>by
  dsimp only[nb];rw[Dv,Dv,UH b ws,UH b ws (b*0+w),AN,Ey];have:(b*a+w)*b^ws.length=a*(b^ws.length*b)+w*b^ws.length:=by
   rw[Nat.add_mul,FZ b a,AAB,FZ b (b^ws.length)]
  rw[this];simp
  nofun
def PN(b:Nat)(u v:List Nat):nb b (u++v)=nb b u*b^v.length+nb b v:=by
 conv=>lhs;dsimp only[nb]
 rw[DS];exact UH b v _
theorem Qe(b:Nat): ∀k:Nat,nb b (Ad k 0)=0
 |0=>rfl
 |k+1=>by
  rw[List.replicate_succ',Qg,Qe b k];simp
def gK: ∀{ws:List Nat},(∀w∈ws,w<b)->nb b ws<b^ws.length:=by
 intro ws;generalize hn:ws.length=n
 induction n generalizing ws with
 |zero=>
  intro _;have:ws=[]:=FT.mp hn;subst this;simp[nb]
 |succ n D=>
  intro h;have B:ws≠ []:=by intro q;subst q;simp at hn
  obtain⟨u,w,rfl⟩: ∃u w,ws=u++[w]:=⟨ws.dropLast,ws.getLast B,(Bb B).symm⟩;rw[Qg];have E:=D (ws:=u) (!8 hn) (λx hx=>h x (by simp[hx]));have G:=h w (!2);rw[Ey];have F:b*(nb b u+1)<=b^n*b:=by
   rw[FZ];exact Nat.mul_le_mul_right b E
  rw[Nat.mul_add]at F
  lia
def ox(B:0<b)(h:w≠0):0<nb b (w::ws):=by
 have:(w::ws)=[w]++ws:=rfl;rw[this,PN];have D:nb b [w]=w:=by simp[nb]
 rw[D];have E:0<b^ws.length:=AAX B;have:=Nat.mul_le_mul (show 1<=w by lia) (show 1<=b^ws.length from E)
 lia
def jg: ∀{ws:List Nat},(∀w∈ws,w<10)->ws≠ []->(ws.head?≠U 0\/ws.length=1)->text (toString (nb 10 ws))=ws.map (48+ ·):=by
 intro ws;generalize hn:ws.length=n
 induction n generalizing ws with
 |zero=>
  intro _ h;exact absurd (FT.mp hn) h
 |succ n I=>
  intro h B h0;obtain⟨u,w,rfl⟩: ∃u w,ws=u++[w]:=⟨ws.dropLast,ws.getLast B,(Bb B).symm⟩;have D:=h w (!2);have dc: ∀d:Nat,d<10->(Nat.digitChar d).toNat=48+d:=!1
  have F: ∀m:Nat,text (toString m)=(AAJ 10 m).map Char.toNat:=by
   intro m;dsimp only[text];show(m.repr).toList.map _=_;rw[HC]
  rw[Qg,F];cases u with
  |nil=>
   have:10*nb 10 []+w=w:=by simp[nb]
   rw[this,Cb D];simp[dc w D]
  |cons v u=>
   have G:v≠0:=by
    obtain h0|h0:=h0
    .intro q;subst q;simp at h0
    simp at hn;lia
   have E:0<nb 10 (v::u):=ox (!1) G;rw[<-En (!1) E D,A8,<-F,Cb D];rw[I (ws:=v::u) (!8 hn) (λx hx=>h x (by simp at hx⊢;obtain hx|hx:=hx<;>simp[hx])) (!2) (.inl (!8 G))];simp[dc w D]
theorem Qd: ∀(k f m:Nat)(e:Int),m%10≠0->k<f->noZeros f (m*10^k) e=(m,e+k)
 |0,f+1,m,e,hm,_=>by
  dsimp only[noZeros];have B:m*10^0≠0:=by
   intro q;simp at q;subst q;simp at hm
  rw[AD B,AD (!8 hm)];simp
 |k+1,f+1,m,e,hm,h=>by
  dsimp only[noZeros];have E:m*10^(k+1)=(m*10^k)*10:=by rw[Ey,AAB]
  have D:m≠0:=by
   intro q;subst q;simp at hm
  have B:m*10^(k+1)≠0:=Nat.mul_ne_zero D (Nat.pos_iff_ne_zero.mp (AAX (!1)));rw[AD B,AI (by rw[E];exact Nat.mul_mod_left _ _),E,Nat.mul_div_cancel _ (!1),Qd k f m (e+1) hm (!5)]
  congr 1
  push_cast
  nofun
def Wj(f:Nat)(e:Int):noZeros (f+1) 0 e=(0,0):=by
 rw[noZeros,AI rfl]
theorem Nq: ∀ws:List Nat,(∀w∈ws,w=0)\/ ∃(i k:Nat)(c:List Nat),ws=Ad i 0++(c++Ad k 0)/\c≠ []/\c.head?≠U 0/\c.getLast?≠U 0
 |[]=>.inl (λw h=>nomatch h)
 |w::ws=>by
  obtain h|⟨i,k,c,rfl,E,F,D⟩:=Nq ws
  .by_cases B:w=0
   .refine .inl λx hx=>?_;obtain rfl|hx:=AO.mp hx
    .exact B
    exact h x hx
   refine .inr ⟨0,ws.length,[w],?_,!2,by simpa using B,by simpa using B⟩;have:ws=Ad ws.length 0:=DO.mpr ⟨rfl,h⟩
   conv=>lhs;rw[this]
   simp
  by_cases B:w=0
  .subst B;exact .inr ⟨i+1,k,c,by rw[B4];rfl,E,F,D⟩
  refine .inr ⟨0,k,w::(Ad i 0++c),!2,!2,by simpa using B,?_⟩;rw[List.getLast?_cons,List.getLast?_append];cases e:c.getLast? with
  |none=>exact absurd (List.getLast?_eq_none_iff.mp e) E
  |some z=>
   rw[e]at D;simpa using D
def UO(h: ∀w∈ws,w=0)(e:Int):noZeros (ws.length+1) (nb 10 ws) e=(0,0):=by
 have:ws=Ad ws.length 0:=DO.mpr ⟨rfl,h⟩;have B:nb 10 ws=0:=by rw[this,Qe]
 rw[B,Wj]
def UP(B:c≠ [])(D:c.head?≠U 0)(E:c.getLast?≠U 0)(hd: ∀w∈c,w<10)(e:Int):
  noZeros ((Ad i 0++(c++Ad k 0)).length+1) (nb 10 (Ad i 0++(c++Ad k 0))) e=(nb 10 c,e+k)/\text (toString (nb 10 c))=c.map (48+ ·):=by
 refine⟨?_,jg hd B (.inl D)⟩;rw[PN,Qe,PN,Qe,B6];have hm:nb 10 c%10≠0:=by
  obtain⟨u,w,rfl⟩: ∃u w,c=u++[w]:=⟨c.dropLast,c.getLast B,(Bb B).symm⟩;rw[Qg,Nat.mul_add_mod];have:=hd w (!2);rw[Nat.mod_eq_of_lt this];simpa using E
 rw[Nat.zero_mul,Dd,E1];exact Qd k _ _ _ hm (by simp;lia)
def ZM(t:Text):shape "00:00:00" t=AF↔ ∃a b c d e f,t=[a,b,58,c,d,58,e,f]/\isDigit a=AF/\isDigit b=AF/\isDigit c=AF/\isDigit d=AF/\isDigit e=AF/\isDigit f=AF:=by
 constructor
 .intro h;unfold shape at h;rw[AX]at h;obtain⟨E,B⟩:=h;have D:"00:00:00".length=8:=!1
  rw[D]at E;have F:t.length=8:=by simpa using E
  obtain⟨a,b,x,c,d,y,e,f,rfl⟩: ∃a b x c d y e f,t=[a,b,x,c,d,y,e,f]:=⟨_,_,_,_,_,_,_,_,aS 0 _ _ F⟩;have hs:"00:00:00".toList=['0','0',':','0','0',':','0','0']:=!1
  rw[hs]at B;simp[E6,Cg]at B;obtain⟨G,I,J,L,M,O,S,Y⟩:=B;have e3:(58:Nat)=x:=J;have e6:(58:Nat)=y:=O;subst e3 e6;exact⟨a,b,c,d,e,f,rfl,G,I,L,M,S,Y⟩
 rintro⟨a,b,c,d,e,f,rfl,E,B,Z,h4,h5,h6⟩;unfold shape;have hs:"00:00:00".toList=['0','0',':','0','0',':','0','0']:=!1
 have F:"00:00:00".length=8:=!1
 rw[hs,F];simp[E6,Cg,E,B,Z,h4,h5,h6]
def Mt(t:Text):shape "00:00" t=AF↔ ∃a b c d,t=[a,b,58,c,d]/\isDigit a=AF/\isDigit b=AF/\isDigit c=AF/\isDigit d=AF:=by
 constructor
 .intro h;unfold shape at h;rw[AX]at h;obtain⟨E,B⟩:=h;have D:"00:00".length=5:=!1
  rw[D]at E;have F:t.length=5:=by simpa using E
  obtain⟨a,b,x,c,d,rfl⟩: ∃a b x c d,t=[a,b,x,c,d]:=⟨_,_,_,_,_,aS 0 _ _ F⟩;have hs:"00:00".toList=['0','0',':','0','0']:=!1
  rw[hs]at B;simp[E6,Cg]at B;obtain⟨G,I,J,L,M⟩:=B;have e3:(58:Nat)=x:=J;subst e3;exact⟨a,b,c,d,rfl,G,I,L,M⟩
 rintro⟨a,b,c,d,rfl,E,B,O,S⟩;unfold shape;have hs:"00:00".toList=['0','0',':','0','0']:=!1
 have F:"00:00".length=5:=!1
 rw[hs,F];simp[E6,Cg,E,B,O,S]
def WR(t:Text):shape "0000-00-00" t=AF↔ ∃a b c d e f g h,t=[a,b,c,d,45,e,f,45,g,h]/\isDigit a=AF/\isDigit b=AF/\isDigit c=AF/\isDigit d=AF/\isDigit e=AF/\isDigit f=AF/\isDigit g=AF/\isDigit h=AF:=by
 constructor
 .intro h;unfold shape at h;rw[AX]at h;obtain⟨E,B⟩:=h;have D:"0000-00-00".length=10:=!1
  rw[D]at E;have F:t.length=10:=by simpa using E
  obtain⟨a,b,c,d,x,e,f,y,g,h,rfl⟩: ∃a b c d x e f y g h,t=[a,b,c,d,x,e,f,y,g,h]:=⟨_,_,_,_,_,_,_,_,_,_,aS 0 _ _ F⟩;have hs:"0000-00-00".toList=['0','0','0','0','-','0','0','-','0','0']:=!1
  rw[hs]at B;simp[E6,Cg]at B;obtain⟨I,J,L,M,O,S,Y,Z,g9,G⟩:=B;have e3:(45:Nat)=x:=O;have e6:(45:Nat)=y:=Z;subst e3 e6;exact⟨a,b,c,d,e,f,g,h,rfl,I,J,L,M,S,Y,g9,G⟩
 rintro⟨a,b,c,d,e,f,g,h,rfl,E,B,h3,h4,h5,h6,h7,h8⟩;unfold shape;have hs:"0000-00-00".toList=['0','0','0','0','-','0','0','-','0','0']:=!1
 have F:"0000-00-00".length=10:=!1
 rw[hs,F];simp[E6,Cg,E,B,h3,h4,h5,h6,h7,h8]
def OR(p:String)(s:Char)(E:p.toList=[s,'0','0',':','0','0'])(hs:s≠'0')(t:Text):shape p t=AF↔ ∃r,t=s.toNat::r/\shape "00:00" r=AF:=by
 have B:p.length=6:=by
  have:=congrArg A5 E;rw[String.length_toList]at this;exact this
 constructor
 .intro h;unfold shape at h;rw[AX,B,E]at h;obtain⟨F,D⟩:=h;have B:t.length=6:=by simpa using F
  obtain⟨z,a,b,x,c,d,rfl⟩: ∃z a b x c d,t=[z,a,b,x,c,d]:=⟨_,_,_,_,_,_,aS 0 _ _ B⟩;simp[E6,Cg,hs]at D;obtain⟨G,I,J,L,M,O⟩:=D;have e3:(58:Nat)=x:=L;subst e3 G;exact⟨_,rfl,(Mt _).mpr ⟨a,b,c,d,rfl,I,J,M,O⟩⟩
 rintro⟨r,rfl,h⟩;obtain⟨a,b,c,d,rfl,F,D,S,Y⟩:=(Mt _).mp h;unfold shape;rw[B,E];simp[E6,Cg,hs,F,D,S,Y]
noncomputable def hs(c:Nat):Bool:=isDigit c||(c==58||c==46)
def Qm(e:isHour h=AF): ∀c∈h,hs c=AF:=by
 unfold isHour at e;rw[AX,AX]at e;obtain⟨⟨e1,_⟩,e2⟩:=e;obtain⟨a,b,c,d,x,f,L,M,O,S,Y,Z,h6⟩:=(ZM _).mp e1;have D: ∀{c:Nat},isDigit c=AF->hs c=AF:=λq=>by unfold hs;rw[q];rfl
 have E:hs 58=AF:=!1
 have F:hs 46=AF:=!1
 have h8: ∀c∈h.take 8,hs c=AF:=by
  rw[L];intro z B;simp at B;obtain rfl|rfl|rfl|rfl|rfl|rfl|rfl|rfl:=B
  .exact D M
  .exact D O
  .exact E
  .exact D S
  .exact D Y
  .exact E
  .exact D Z
  exact D h6
 have h9: ∀c∈h.drop 8,hs c=AF:=by
  rw[BE]at e2;obtain q|q:=e2
  .rw[BL]at q;rw[q];intro z B;cases B
  rw[AX,AX]at q;obtain⟨G,_,I⟩:=q;rw[BL]at G;cases hd:h.drop 8 with
  |nil=>intro z B;cases B
  |cons y ys=>
   rw[hd]at G;have:y=46:=by simpa using G
   subst this;have e9:h.drop 9=ys:=by
    have:h.drop 9=(h.drop 8).drop 1:=by rw[BR]
    rw[this,hd];rfl
   rw[e9]at I;intro z B;obtain rfl|B:=AO.mp B
   .exact F
   exact D (A7.mp I z B)
 intro c J;rw[<-As 8 h]at J;obtain q|q:=AQ.mp J
 .exact h8 c q
 exact h9 c q
theorem take_takeWhile{α:Type}(p:α->Bool): ∀l:List α,l.take (l.takeWhile p).length=l.takeWhile p
 |[]=>rfl
 |a::l=>by
  rw[Aw];split
  .show a::l.take (l.takeWhile p).length=_;rw[take_takeWhile p l]
  rfl
def takeWhile_all{α:Type}(p:α->Bool): ∀{a b:List α},(∀x∈a,p x=AF)->(a++b).takeWhile p=a++b.takeWhile p:=λh=>BD h
noncomputable def ag(t:Text):Bool:=(shape "+00:00" t||shape "-00:00" t)&&decide (two t 1<24/\two t 4<60)
def zl(r:Text):Nat:=if r.getLast?=U 90\/r.getLast?=U 122 then 1 else if ag (r.drop (r.length-6))=AF then 6 else 0
def Zm(t:Text):Option Text:=
 if isDay (t.take 10)=AJ\/ ¬((t.drop 10).take 1=[84]\/(t.drop 10).take 1=[116]\/(t.drop 10).take 1=[32])then AB
 else
  let r:=t.drop 11;let k:=r.length-zl r
  if isHour (r.take k)=AJ then AB else U (t.take 10++([84]++(r.take k++(if r.drop k=[122]then [90]else r.drop k))))
def Vm(h:z.length=6):isZone z=ag z:=by
 unfold isZone ag;have B:(z== [90])=AJ:=by
  cases e:z== [90]with
  |false=>rfl
  |true=>
   rw[BL]at e;rw[e]at h;simp at h
 rw[B,CH];cases z with
 |nil=>simp at h
 |cons s r=>
  have e1:shape "+00:00" (s::r)=(decide (s=43)&&shape "00:00" r):=by
   apply A9.mpr;rw[OR "+00:00" '+' (!1) (!1)];rw[AX,Ak];constructor
   .rintro⟨D,e,q⟩;cases e;exact⟨rfl,q⟩
   rintro⟨rfl,q⟩;exact⟨r,rfl,q⟩
  have e2:shape "-00:00" (s::r)=(decide (s=45)&&shape "00:00" r):=by
   apply A9.mpr;rw[OR "-00:00" '-' (!1) (!1)];rw[AX,Ak];constructor
   .rintro⟨D,e,q⟩;cases e;exact⟨rfl,q⟩
   rintro⟨rfl,q⟩;exact⟨r,rfl,q⟩
  rw[e1,e2];show((U s==U 43||U s==U 45)&&(shape "00:00" r&&_))=_;have e3:(U s==U 43)=decide (s=43):=by
   by_cases q:s=43
   .subst q;rfl
   rw[AM q];simpa using q
  have e4:(U s==U 45)=decide (s=45):=by
   by_cases q:s=45
   .subst q;rfl
   rw[AM q];simpa using q
  rw[e3,e4];cases decide (s=43)<;>cases decide (s=45)<;>cases shape "00:00" r<;>rfl
def Nm(h:ag z=AF):z.length=6:=by
 unfold ag at h;rw[AX,BE]at h;obtain q|q:=h.1
 .obtain⟨r,rfl,B⟩:=(OR "+00:00" '+' (!1) (!1) _).mp q;obtain⟨a,b,c,d,rfl,_⟩:=(Mt _).mp B;rfl
 obtain⟨r,rfl,B⟩:=(OR "-00:00" '-' (!1) (!1) _).mp q;obtain⟨a,b,c,d,rfl,_⟩:=(Mt _).mp B;rfl
def NJ(h:ag z=AF): ∃s a b c d,z=[s,a,b,58,c,d]/\(s=43\/s=45)/\isDigit a=AF/\isDigit b=AF/\isDigit c=AF/\isDigit d=AF:=by
 unfold ag at h;rw[AX,BE]at h;obtain q|q:=h.1
 .obtain⟨r,rfl,B⟩:=(OR "+00:00" '+' (!1) (!1) _).mp q;obtain⟨a,b,c,d,rfl,D,E,F,G⟩:=(Mt _).mp B;exact⟨_,a,b,c,d,rfl,.inl rfl,D,E,F,G⟩
 obtain⟨r,rfl,B⟩:=(OR "-00:00" '-' (!1) (!1) _).mp q;obtain⟨a,b,c,d,rfl,D,E,F,G⟩:=(Mt _).mp B;exact⟨_,a,b,c,d,rfl,.inr rfl,D,E,F,G⟩
def digit_range(h:isDigit c=AF):48<=c/\c<=57:=by
 unfold isDigit at h;simpa using h
def gu(h:hs c=AF):c≠90/\c≠122/\c≠43/\c≠45:=by
 unfold hs at h;rw[BE,BE]at h;obtain h|h|h:=h
 .have:=digit_range h
  lia
 .rw[BL]at h
  lia
 rw[BL]at h
 lia
def eQ{z:Text}(D: ∀c∈h,hs c=AF)(B:z=[]\/z=[90]\/z=[122]\/ag z=AF):zl (h++z)=z.length:=by
 unfold zl;obtain rfl|rfl|rfl|B:=B
 .rw[An];have F: ¬(h.getLast?=U 90\/h.getLast?=U 122):=by
   rintro(q|q)
   .exact(gu (D _ (Ei q))).1 rfl
   exact(gu (D _ (Ei q))).2.1 rfl
  rw[AD F,AD]
  .rfl
  intro q;obtain⟨s,a,b,c,d,e,E,_⟩:=NJ q;have:s∈h:=CD (by rw[e];simp);have:=gu (D s this)
  nofun
 .rw[AI (!2)];rfl
 .rw[AI (!2)];rfl
 obtain⟨s,a,b,c,d,e,E,F,J,L,I⟩:=NJ B;have G:=Nm B;have hd:=digit_range I;have e1:(h++z).getLast?=U d:=by
  rw[e];simp
 rw[e1,AD (by simp;nofun)];have e2:(h++z).drop ((h++z).length-6)=z:=by
  rw[AG,G,Nat.add_sub_cancel];simp
 rw[e2,AI B,G]
set_option tactic.hygienic true
def sR{z:Text}:z.map (λc=>if c=122 then 90 else c)=[90]↔z=[90]\/z=[122]:=by
 constructor
 .intro h;cases z with
  |nil=>simp at h
  |cons a r=>
   cases r with
   |cons b r=>simp at h
   |nil=>
    have:(if a=122 then 90 else a)=90:=by simpa using h
    split at this
    .rename_i q;subst q;exact .inr rfl
    subst this;exact .inl rfl
 rintro(rfl|rfl)<;>rfl
def kf{z:Text}(h:isZone (z.map λc=>if c=122 then 90 else c)=AF):(z=[90]\/z=[122])\/(ag z=AF/\(z.map λc=>if c=122 then 90 else c)=z):=by
 have D:=h;unfold isZone at h;rw[BE,BL,sR]at h;obtain h|h:=h
 .exact .inl h
 refine .inr ?_
 have G:(z.map λc=>if c=122 then 90 else c).length=6:=by
  rw[AX,AX]at h;obtain⟨_,E,_⟩:=h;obtain⟨a,b,c,d,e,_⟩:=(Mt _).mp E;have:=congrArg A5 e;rw[AS]at this;simp at this;simp
  nofun
 rw[Vm G]at D;have e:(z.map λc=>if c=122 then 90 else c)=z:=by
  obtain⟨s,a,b,c,d,e,I,J,E,L,M⟩:=NJ D;have B: ∀y∈z.map (λc=>if c=122 then 90 else c),y≠90:=by
   rw[e];intro y F;simp at F;have:=digit_range J;have:=digit_range E;have:=digit_range L;have:=digit_range M
   nofun
  have:z.map (λc=>if c=122 then 90 else c)=z.map id:=Dh λy F=>by
   have:=B _ (Fh.mpr ⟨y,F,rfl⟩);by_cases q:y=122
   .rw[AI q]at this;exact absurd rfl this
   rw[AD q];rfl
  rw[this,AAZ]
 rw[e]at D;exact⟨D,e⟩
def RP{t:Text}(B:c≠0):t.getD 10 0=c↔(t.drop 10).take 1=[c]:=by
 rw[List.getD_eq_getElem?_getD];have:(t.drop 10).head?=t[10]? :=by rw[List.head?_drop]
 cases e:t.drop 10 with
 |nil=>
  rw[e]at this;rw[<-this];simp;exact λq=>B q.symm
 |cons a r=>
  rw[e]at this;rw[<-this];simp
def O7(t:Text):timeOf t=if isDay t=AF\/isHour t=AF then U (.time t)else(Zm t).map .time:=by
 unfold timeOf;split
 .rfl
 unfold Zm;have D:(isDay (t.take 10)=AJ\/ ¬(t.getD 10 0=84\/t.getD 10 0=116\/t.getD 10 0=32))↔(isDay (t.take 10)=AJ\/ ¬((t.drop 10).take 1=[84]\/(t.drop 10).take 1=[116]\/(t.drop 10).take 1=[32])):=by
  rw[RP (!1),RP (!1),RP (!1)]
 by_cases B:isDay (t.take 10)=AJ\/ ¬(t.getD 10 0=84\/t.getD 10 0=116\/t.getD 10 0=32)
 .rw[AI B,AI (D.mp B)];rfl
 rw[AD B,AD (λz=>B (D.mpr z))];show 4;generalize t.drop 11=r;have tw:(r.takeWhile λc=>isDigit c||(c==58||c==46))=r.takeWhile hs:=rfl;rw[tw];have hr:r.takeWhile hs++r.dropWhile hs=r:=A1;have S: ∀c∈r.takeWhile hs,hs c=AF:=λc B=>A7.mp Ck c B;rw[Ir];by_cases E:isHour (r.takeWhile hs)=AF/\((r.dropWhile hs).map (λc=>if c=122 then 90 else c)=[]\/isZone ((r.dropWhile hs).map λc=>if c=122 then 90 else c)=AF)
 .rw[AI E];have M:(r.dropWhile hs=[]\/r.dropWhile hs=[90]\/r.dropWhile hs=[122]\/ag (r.dropWhile hs)=AF)/\(r.dropWhile hs).map (λc=>if c=122 then 90 else c)=if r.dropWhile hs=[122]then [90]else r.dropWhile hs:=by
   obtain q|q:=E.2
   .have q:r.dropWhile hs=[]:=List.map_eq_nil_iff.mp q;rw[q];exact⟨.inl rfl,rfl⟩
   obtain(q|q)|⟨q,e⟩:=kf q
   .rw[q];exact⟨.inr (.inl rfl),rfl⟩
   .rw[q];exact⟨.inr (.inr (.inl rfl)),rfl⟩
   refine⟨.inr (.inr (.inr q)),?_⟩;rw[e,AD];intro z;rw[z]at q;have:=Nm q;simp at this
  have O:r.length-zl r=(r.takeWhile hs).length:=by
   have:=eQ S M.1;rw[hr]at this;rw[this];have:=congrArg A5 hr;rw[AG]at this
   lia
  have e1:r.take (r.length-zl r)=r.takeWhile hs:=by
   rw[O];exact take_takeWhile hs r
  have e2:r.drop (r.length-zl r)=r.dropWhile hs:=by
   rw[O];exact Ir hs r
  rw[e1,e2,AD (by rw[E.1];decide),M.2];rfl
 rw[AD E];split
 .rfl
 rename_i L;exfalso;have L:isHour (r.take (r.length-zl r))=AF:=by simpa using L
 have Y:=Qm L;have Z:r.take (r.length-zl r)++r.drop (r.length-zl r)=r:=As _ _;have F:r.drop (r.length-zl r)=[]\/r.drop (r.length-zl r)=[90]\/r.drop (r.length-zl r)=[122]\/ag (r.drop (r.length-zl r))=AF:=by
  unfold zl;split
  .rename_i q;have G:r≠ []:=by
    intro z;subst z;simp at q
   obtain⟨u,x,rfl⟩: ∃u x,r=u++[x]:=⟨r.dropLast,r.getLast G,(Bb G).symm⟩;have:(u++[x]).drop ((u++[x]).length-1)=[x]:=!2
   rw[this];simp at q;obtain rfl|rfl:=q
   .exact .inr (.inl rfl)
   exact .inr (.inr (.inl rfl))
  split
  .rename_i q;exact .inr (.inr (.inr q))
  left;simp
 have I: ∀c,(r.drop (r.length-zl r)).head?=U c->hs c=AJ:=by
  intro c B;obtain q|q|q|q:=F
  .show 6 q B
  .show 6 q B;decide
  .show 6 q B;decide
  obtain⟨s,a,b,c',d,e,J,_⟩:=NJ q;show 6 e B;obtain rfl|rfl:=J<;>decide
 have e1:r.takeWhile hs=r.take (r.length-zl r):=by
  conv=>lhs;rw[<-Z]
  rw[takeWhile_all hs Y];cases e:r.drop (r.length-zl r)with
  |nil=>simp
  |cons c u=>
   rw[Aw,I c (by rw[e];rfl)];simp
 have e2:r.dropWhile hs=r.drop (r.length-zl r):=by
  rw[<-Ir,e1,AW]
  congr 1
  lia
 refine E ⟨by rw[e1];exact L,?_⟩;rw[e2];obtain q|q|q|q:=F
 .rw[q];exact .inl rfl
 .rw[q];exact .inr (!1)
 .rw[q];exact .inr (!1)
 refine .inr ?_
 obtain⟨s,a,b,c',d,e,J,h1,h2,h3,h4⟩:=NJ q;have em:(r.drop (r.length-zl r)).map (λc=>if c=122 then 90 else c)=r.drop (r.length-zl r):=by
  rw[e];have:=digit_range h1;have:=digit_range h2;have:=digit_range h3;have:=digit_range h4;simp
  lia
 rw[em,Vm (Nm q)];exact q
noncomputable def Iw(w:Text):Bool:=w.head?==U 45
noncomputable def IW(w:Text):Text:=if w.head?=U 45\/w.head?=U 43 then w.drop 1 else w
def lead(t:Text):Option (List Nat):=(LC 10 t AJ).bind λws=>if 1<ws.length/\ws.head?=U 0 then AB else U ws
noncomputable def baseOf(w:Text):Option Nat:=match w with
 |48::120::_=>U 16
 |48::111::_=>U 8
 |48::98::_=>U 2
 |_=>AB
def QX(w:Text):Option Nat:=match baseOf w with
 |some b=>(LC b (w.drop 2) AJ).map (nb b)
 |none=>(lead (IW w)).map (nb 10)
def Jq(w:Text):Option Value:=(QX w).bind λn=>int64 (if Iw w=AF then-(n:Int)else(n:Int))
noncomputable def LO(c:Nat):Bool:=c==69||c==101
noncomputable def Lr(p:Nat->Bool)(t:Text):Nat:=(t.takeWhile λc=>!p c).length
def MW(x:Text):Option Int:=(LC 10 (IW x) AJ).bind λy=>if 9<y.length then AB else U (if Iw x=AF then-(nb 10 y:Int)else(nb 10 y:Int))
def Mu(w:Text):Option (List Nat×Int):=
 let r:=IW w;let pw:=Lr LO r;let pt:=Lr (λc=>c==46) (r.take pw)
 if pt=r.length then AB else
  (lead (r.take pt)).bind λa=>(if pt<pw then LC 10 ((r.take pw).drop (pt+1)) AJ else U []).bind λb=>(if pw<r.length then MW (r.drop (pw+1))else U 0).bind λe=>U (a++b,e-b.length)
def OJ(neg:Bool)(x:List Nat×Int):Value:=let z:=noZeros (x.1.length+1) (nb 10 x.1) x.2;.dec neg z.1 z.2
noncomputable def LK(w:Text):Option Value:=
 if w=text "true" then U (.bool AF)else if w=text "false" then U (.bool AJ)
 else if w=text "inf" then U (.odd 0)else if w=text "+inf" then U (.odd 0)else if w=text "-inf" then U (.odd 1)
 else if w=text "nan"\/w=text "+nan"\/w=text "-nan" then U (.odd 2)else AB
def MP(w:Text):Option Value:=match LK w with
 |some v=>U v
 |none=>match Jq w with
  |some v=>U v
  |none=>match Mu w with
   |some x=>U (OJ (Iw w) x)
   |none=>if isDay w=AF\/isHour w=AF then U (.time w)else(Zm w).map .time
noncomputable def Y1(c:Nat):Bool:=isDigit c||c==95
theorem Ld(B:b<=10): ∀{t:Text}{a:Bool}{ws:List Nat},LC b t a=U ws-> ∀c∈t,Y1 c=AF
 |[],_,_,_=>λc D=>nomatch D
 |c::r,a,ws,h=>by
  intro x hx;dsimp only[LC]at h;split at h
  .rename_i q;obtain rfl|hx:=AO.mp hx
   .rw[q.1];decide
   exact Ld B h x hx
  split at h
  .cases h
  rename_i q;cases e:LC b r AF with
  |none=>show 6 e h
  |some l=>
   obtain rfl|hx:=AO.mp hx
   .have hd:isDigit x=AF:=by
     rw[<-aN];dsimp only[pb];exact Af (!3)
    dsimp only[Y1];rw[hd];rfl
   exact Ld B e x hx
def P2(t:Text):(whole t).map (Gj digit)=lead t:=by
 unfold whole lead;rw[Lf (!1),aN];cases e:digits isDigit t AJ with
 |none=>rfl
 |some x=>
  show(if x.head?=U 48/\1<x.length then AB else U x:Option Text).map _=if 1<(x.map digit).length/\(x.map digit).head?=U 0 then AB else U (x.map digit)
  rw[AY,List.head?_map];have hx: ∀(t:Text)(a:Bool)(x:Text),digits isDigit t a=U x-> ∀c∈x,isDigit c=AF:=by
   intro t
   induction t with
   |nil=>
    intro a x h;dsimp only[digits]at h;split at h<;>cases h
    intro c F;cases F
   |cons c r E=>
    intro a x h;dsimp only[digits]at h;split at h
    .rename_i q;cases e:digits isDigit r AF with
     |none=>show 6 e h
     |some l=>
      show 6 e h;intro y D;obtain rfl|D:=AO.mp D
      .exact q
      exact E _ _ e y D
    split at h
    .exact E _ _ h
    cases h
  have B:(x.head?=U 48/\1<x.length)↔(1<x.length/\x.head?.map digit=U 0):=by
   cases x with
   |nil=>simp
   |cons c r=>
    have hd:=digit_range (hx _ _ _ e c (!2));simp;dsimp only[digit];rw[AI (!4)];omega
  by_cases q:x.head?=U 48/\1<x.length
  .rw[AI q,AI (B.mp q)];rfl
  rw[AD q,AD (λz=>q (B.mpr z))];rfl
set_option tactic.hygienic false
def Se(h:whole t=U x):lead t=U (x.map digit):=by rw[<-P2,h];rfl
def P1:whole t=AB↔lead t=AB:=by
 rw[<-P2];cases whole t<;>simp
def MQ(h:lead t=U ws):LC 10 t AJ=U ws:=by
 dsimp only[lead]at h;cases e:LC 10 t AJ with
 |none=>show 6 e h
 |some l=>
  rw[e]at h;replace h:(if 1<l.length/\l.head?=U 0 then AB else U l)=U ws:=h;split at h<;>cases h
  rfl
def qL(x:Text):((digits isDigit (if x.head?=U 43\/x.head?=U 45 then x.drop 1 else x) AJ).bind λy=>if 9<y.length then AB else U (if x.head?=U 45 then-(number 10 y:Int)else(number 10 y:Int)))=MW x:=by
 dsimp only[MW];have e1:(if x.head?=U 43\/x.head?=U 45 then x.drop 1 else x)=IW x:=by
  dsimp only[IW];by_cases q:x.head?=U 43\/x.head?=U 45
  .rw[AI q,AI q.symm]
  rw[AD q,AD (λz=>q z.symm)]
 rw[e1,Lf (!1),aN];cases e:digits isDigit (IW x) AJ with
 |none=>rfl
 |some y=>
  show(if 9<y.length then AB else U (if x.head?=U 45 then-(number 10 y:Int)else(number 10 y:Int)))=if 9<(y.map digit).length then AB else U (if Iw x=AF then-(nb 10 (y.map digit):Int)else(nb 10 (y.map digit):Int))
  rw[AY,NF];have:(x.head?=U 45)↔(Iw x=AF):=by
   dsimp only[Iw];rw[BL]
  by_cases q:x.head?=U 45
  .rw[AI q,AI (this.mp q)]
  rw[AD q,AD (λz=>q (this.mpr z))]
noncomputable def dM(s:Text):Option Int:=match s with
 |[]=>U 0
 |c::x=>if c≠101/\c≠69 then AB else
  (digits isDigit (if x.head?=U 43\/x.head?=U 45 then x.drop 1 else x) AJ).bind λy=>if 9<y.length then AB else U (if x.head?=U 45 then-(number 10 y:Int)else(number 10 y:Int))
def iP{x:Text}(h:c=101\/c=69):dM (c::x)=MW x:=by
 unfold dM;show 4;rw[AD (!3)];exact qL x
def YR{x:Text}(h:c≠101/\c≠69):dM (c::x)=AB:=by
 unfold dM;show 4;rw[AI h]
def YZ(neg:Bool)(w:Text):decimal neg w=
  (whole (w.takeWhile λc=>isDigit c||c==95)).bind λa=>
   (if(w.drop (w.takeWhile λc=>isDigit c||c==95).length).head?=U 46 then digits isDigit (((w.drop (w.takeWhile λc=>isDigit c||c==95).length).drop 1).takeWhile λc=>isDigit c||c==95) AJ else U []).bind λb=>
   (dM (if(w.drop (w.takeWhile λc=>isDigit c||c==95).length).head?=U 46 then(w.drop (w.takeWhile λc=>isDigit c||c==95).length).drop ((((w.drop (w.takeWhile λc=>isDigit c||c==95).length).drop 1).takeWhile λc=>isDigit c||c==95).length+1)else w.drop (w.takeWhile λc=>isDigit c||c==95).length)).bind λe=>
    U (.dec neg (noZeros (a.length+b.length+1) (number 10 (a++b)) (e-b.length)).1 (noZeros (a.length+b.length+1) (number 10 (a++b)) (e-b.length)).2):=by
 unfold decimal;show 4;by_cases h:(w.drop (w.takeWhile λc=>isDigit c||c==95).length).head?=U 46
 .simp only[AI h];rfl
 simp only[AD h];rfl
def NB(p:Nat->Bool)(t:Text):t.take (Lr p t)=t.takeWhile λc=>!p c:=take_takeWhile _ t
def QY(p:Nat->Bool)(t:Text):t.drop (Lr p t)=t.dropWhile λc=>!p c:=Ir _ t
def OU(p:Nat->Bool)(t:Text):Lr p t<=t.length:=by
 dsimp only[Lr];have:=congrArg A5 (A1 (p:=λc=>!p c) (l:=t));rw[AG]at this
 lia
def Zo(neg:Bool)(r:Text)(pq:r.any (λc=>c==46||(c==101||c==69))=AF):
  decimal neg r=(let pw:=Lr LO r;let pt:=Lr (λc=>c==46) (r.take pw);
   (lead (r.take pt)).bind λa=>(if pt<pw then LC 10 ((r.take pw).drop (pt+1)) AJ else U []).bind λb=>(if pw<r.length then MW (r.drop (pw+1))else U 0).bind λe=>U (OJ neg (a++b,e-b.length))):=by
 show 4;generalize M:Lr LO r=pw;have hm:r.take pw=r.takeWhile λc=>!LO c:=by rw[<-M];exact NB _ _
 have hs:r.drop pw=r.dropWhile λc=>!LO c:=by rw[<-M];exact QY _ _
 have hr:r.take pw++r.drop pw=r:=As _ _;have Wz:pw<=r.length:=by rw[<-M];exact OU _ _
 have hmE: ∀c∈r.take pw,LO c=AJ:=by
  rw[hm];intro c B;have:=A7.mp Ck c B;simpa using this
 have O: ∀c u,r.drop pw=c::u->LO c=AF:=by
  intro c u h;rw[hs]at h;have:=JY _ h;simpa using this
 generalize hmm:r.take pw=m at*;generalize hss:r.drop pw=s at*;have hml:m.length=pw:=by
  rw[<-hmm,AW]
  nofun
 generalize S:Lr (λc=>c==46) m=pt;have ha:m.take pt=m.takeWhile λc=>!(c==46):=by rw[<-S];exact NB _ _
 have hq:m.drop pt=m.dropWhile λc=>!(c==46):=by rw[<-S];exact QY _ _
 have Y:m.take pt++m.drop pt=m:=As _ _;have yL:pt<=m.length:=by rw[<-S];exact OU _ _
 have haP: ∀c∈m.take pt,(c==46)=AJ:=by
  rw[ha];intro c B;have:=A7.mp Ck c B;simpa using this
 have hqP: ∀c u,m.drop pt=c::u->c=46:=by
  intro c u h;rw[hq]at h;have:=JY _ h;simpa using this
 have e1:r.take pt=m.take pt:=by
  rw[<-hmm,EE]
  congr 1
  nofun
 rw[e1];have hsd:r.drop (pw+1)=s.drop 1:=by rw[<-hss,BR]
 rw[hsd];have Z:pw<r.length↔s≠ []:=by
  rw[<-hss];simp
 generalize hA:m.take pt=a at*;generalize hQ:m.drop pt=q at*;have yJ:pt<pw↔q≠ []:=by
  rw[<-hQ,<-hml];simp
 have hd1:m.drop (pt+1)=q.drop 1:=by rw[<-hQ,BR]
 rw[hd1];have tw: ∀(u v:Text),(∀c∈u,Y1 c=AF)->(∀c,v.head?=U c->Y1 c=AJ)->(u++v).takeWhile (λc=>isDigit c||c==95)=u:=by
  intro u v h1 h2;show(u++v).takeWhile Y1=u;rw[BD (λc B=>h1 c B)];cases v with
  |nil=>simp
  |cons c w=>
   rw[Aw,AD]
   .simp
   rw[h2 c rfl];decide
 have G: ∀(u v:Text),(¬ ∀c∈u,Y1 c=AF)-> ∃x c y,u=x++c::y/\Y1 c=AJ/\(∀c∈x,Y1 c=AF):=by
  intro u v h
  induction u with
  |nil=>exact absurd (λc B=>nomatch B) h
  |cons c u ih=>
   by_cases B:Y1 c=AF
   .have: ¬ ∀c∈u,Y1 c=AF:=λz=>h λx hx=>by
     obtain rfl|hx:=AO.mp hx
     .exact B
     exact z x hx
    obtain⟨x,d,y,e,h1,h2⟩:=ih this;exact⟨c::x,d,y,by rw[e];rfl,h1,λz hz=>by
     obtain rfl|hz:=AO.mp hz
     .exact B
     exact h2 z hz⟩
   exact⟨[],c,u,rfl,by simpa using B,λz hz=>nomatch hz⟩
 have hE: ∀c,LO c=AF->Y1 c=AJ/\(c=101\/c=69)/\c≠46:=by
  intro c h;unfold LO at h;have:c=69\/c=101:=by simpa using h
  obtain rfl|rfl:=this<;>decide
 have qz: ∀c,s.head?=U c->LO c=AF:=by
  intro c B;cases e:s with
  |nil=>show 6 e B
  |cons d u=>
   show 6 e B;exact O _ _ e
 have hqh: ∀c,q.head?=U c->c=46:=by
  intro c B;cases e:q with
  |nil=>show 6 e B
  |cons d u=>
   show 6 e B;exact hqP _ _ e
 have E:r=a++(q++s):=by rw[<-Ah,Y,hr]
 have d46:Y1 46=AJ:=!1
 have hqs: ∀c,(q++s).head?=U c->Y1 c=AJ:=by
  intro c B;cases e:q with
  |nil=>
   rw[e]at B;exact(hE c (qz c B)).1
  |cons d u=>
   show 6 e B;rw[hqh c (by rw[e];rfl)];exact d46
 rw[YZ];by_cases L: ∀c∈a,Y1 c=AF
 .
  have t1:r.takeWhile (λc=>isDigit c||c==95)=a:=by rw[E];exact tw a _ L hqs
  rw[t1];have t2:r.drop a.length=q++s:=by rw[E];simp
  rw[t2];cases I:q with
  |nil=>
   rw[I]at yJ;have h46: ¬s.head?=U 46:=λz=>(hE 46 (qz 46 z)).2.2 rfl;rw[A6];simp only[AD h46];rw[AD (λz=>yJ.mp z rfl)];cases F:s with
   |nil=>
    exfalso;rw[I,F]at E;simp at E;obtain⟨c,B,pf⟩:=G2.mp pq;rw[E]at B;have h1:=L c B;have:c=46\/c=101\/c=69:=by simpa using pf
    obtain rfl|rfl|rfl:=this<;>(revert h1;decide)
   |cons c x=>
    have B:=(hE c (O c x F)).2.1;rw[iP B,AI (Z.mpr (by rw[F];simp))];cases hw:whole a with
    |none=>
     rw[P1.mp hw];rfl
    |some d=>
     rw[Se hw];have dx:(c::x).drop 1=x:=rfl;rw[dx];show 3;cases MW x with
     |none=>rfl
     |some e=>
      show U _=U _;unfold OJ;show 4;rw[An,An,NF,AY];rfl
  |cons c D=>
   have zA:c=46:=hqP c D I;subst zA;have hh:(46::D++s).head?=U 46:=rfl;simp only[AI hh];rw[AI (yJ.mpr (by rw[I];simp))];have dr:(46::D++s).drop 1=D++s:=rfl;rw[dr];have dr2:(46::D).drop 1=D:=rfl;rw[dr2];by_cases vf: ∀c∈D,Y1 c=AF
   .have t3:(D++s).takeWhile (λc=>isDigit c||c==95)=D:=tw D s vf (λc B=>(hE c (qz c B)).1);rw[t3];have t4:(46::D++s).drop (D.length+1)=s:=by
     show(46::(D++s)).drop (D.length+1)=s;simp
    rw[t4];have fr:(digits isDigit D AJ).map (Gj digit)=LC 10 D AJ:=by rw[Lf (!1),aN]
    have yr:dM s=(if pw<r.length then MW (s.drop 1)else U 0):=by
     cases F:s with
     |nil=>
      rw[AD (λz=>Z.mp z F)];rfl
     |cons c x=>
      have B:=(hE c (O c x F)).2.1;rw[iP B,AI (Z.mpr (by rw[F];simp))];rfl
    rw[yr];cases hw:whole a with
    |none=>
     rw[P1.mp hw];rfl
    |some d=>
     rw[Se hw];show(digits isDigit D AJ).bind _=(LC 10 D AJ).bind _;rw[<-fr];cases hf:digits isDigit D AJ with
     |none=>rfl
     |some g=>
      show AAW _ _=AAW _ _;cases(if pw<r.length then MW (s.drop 1)else U 0)with
      |none=>rfl
      |some e=>
       show U _=U _;unfold OJ;show 4;rw[NF,A8,AG,AY,AY]
   .
    obtain⟨x,d,y,ef,J,hx⟩:=G D [] vf;have Vv:d∈m:=by
     rw[<-Y,I,ef];simp
    have yy:LO d=AJ:=hmE d Vv;have t3:(D++s).takeWhile (λc=>isDigit c||c==95)=x:=by
     rw[ef,Ah];exact tw x _ hx (λc B=>by cases B;exact J)
    rw[t3];have t4:(46::D++s).drop (x.length+1)=d::(y++s):=by
     rw[ef];show(46::((x++d::y)++s)).drop (x.length+1)=_;simp
    rw[t4];have yu:d≠101/\d≠69:=by
     constructor<;>(rintro rfl;revert yy;decide)
    rw[YR yu];have hn:LC 10 D AJ=AB:=by
     cases e:LC 10 D AJ with
     |none=>rfl
     |some ws=>exact absurd (Ld (!1) e) vf
    rw[hn];cases whole a with
    |none=>
     cases lead a<;>rfl
    |some d=>
     cases lead a<;>cases digits isDigit x AJ<;>rfl
 .
  obtain⟨x,d,y,ea,J,hx⟩:=G a [] L;have Vv:d∈m:=by
   rw[<-Y,ea];simp
  have yy:LO d=AJ:=hmE d Vv;have hdP:d≠46:=by
   intro z;have:=haP d (by rw[ea];simp);rw[z]at this;revert this;decide
  have hn:lead a=AB:=by
   cases e:lead a with
   |none=>rfl
   |some ws=>exact absurd (Ld (!1) (MQ e)) L
  rw[hn];have t1:r.takeWhile (λc=>isDigit c||c==95)=x:=by
   rw[E,ea,Ah];exact tw x _ hx (λc B=>by cases B;exact J)
  rw[t1];have t2:r.drop x.length=d::(y++(q++s)):=by
   rw[E,ea];simp
  rw[t2];have hh: ¬(d::(y++(q++s))).head?=U 46:=by simpa using hdP
  simp only[AD hh];have yu:d≠101/\d≠69:=by
   constructor<;>(rintro rfl;revert yy;decide)
  rw[YR yu];cases whole x<;>rfl
def bc(w:Text):(if(w.head?==U 43||w.head?==U 45)=AF then w.drop 1 else w)=IW w:=by
 unfold IW;by_cases q:w.head?=U 45\/w.head?=U 43
 .rw[AI q,AI];obtain q|q:=q<;>simp[q]
 rw[AD q,AD];intro z;rw[BE,BL,BL]at z;exact q z.symm
def L5{r:Text}(h:c≠45/\c≠43):IW (c::r)=c::r:=by
 unfold IW;rw[AD];simp
 nofun
def Xr{v:Text}(e:IW w=u++c::v)(D: ∀x∈u,isDigit x=AF)(E:Y1 c=AJ)(B:c≠46)(F:LO c=AJ):Mu w=AB:=by
 unfold Mu;show 4;rw[e];have hn: ∀x∈u,LO x=AJ/\x≠46:=λx hx=>by
  have:=digit_range (D x hx);refine⟨?_,!3⟩;unfold LO;have G:(x==69)=AJ:=by simp;lia
  have I:(x==101)=AJ:=by simp;lia
  rw[G,I];rfl
 have J:(u++c::v).takeWhile (λc=>!LO c)=u++c::v.takeWhile (λc=>!LO c):=by
  rw[BD (λx hx=>by rw[(hn x hx).1];rfl),Aw,AI (by rw[F];rfl)]
 rw[NB,J];have L:(u++c::v.takeWhile (λc=>!LO c)).takeWhile (λc=>!(c==46))=u++c::(v.takeWhile (λc=>!LO c)).takeWhile (λc=>!(c==46)):=by
  rw[BD (λx hx=>by simpa using(hn x hx).2),Aw,AI (!8 B)]
 have M:u.length+1<=Lr (λc=>c==46) (u++c::v.takeWhile λc=>!LO c):=by
  unfold Lr;rw[L,AG,AN]
  lia
 split
 .rfl
 have:lead ((u++c::v).take (Lr (λc=>c==46) (u++c::v.takeWhile λc=>!LO c)))=AB:=by
  cases z:lead ((u++c::v).take (Lr (λc=>c==46) (u++c::v.takeWhile λc=>!LO c)))with
  |none=>rfl
  |some ws=>
   have hm:c∈(u++c::v).take (Lr (λc=>c==46) (u++c::v.takeWhile λc=>!LO c)):=by
    rw[List.take_append];refine Bi _ ?_
    obtain⟨k,O⟩: ∃k,Lr (λc=>c==46) (u++c::v.takeWhile λc=>!LO c)-u.length=k+1:=⟨Lr (λc=>c==46) (u++c::v.takeWhile λc=>!LO c)-u.length-1,!3⟩;rw[O,B3];exact BA
   have:=Ld (!1) (MQ z) c hm;show 6 E this
 rw[this];rfl
def RC(h:isDay w=AF\/isHour w=AF\/isDay (w.take 10)=AF): ∃u c v,w=u++c::v/\(∀x∈u,isDigit x=AF)/\u.length≥2/\(c=45\/c=58):=by
 have day: ∀t:Text,isDay t=AF-> ∃u v,t=u++45::v/\(∀x∈u,isDigit x=AF)/\u.length≥2:=by
  intro t E;unfold isDay at E;rw[AX]at E;obtain⟨a,b,c,d,e,f,g,h,rfl,B,D,G,I,_⟩:=(WR _).mp E.1;refine⟨[a,b,c,d],[e,f,45,g,h],rfl,?_,!2⟩;intro x hx;simp at hx;obtain rfl|rfl|rfl|rfl:=hx<;>assumption
 obtain h|h|h:=h
 .obtain⟨u,v,e,B,D⟩:=day w h;exact⟨u,45,v,e,B,D,.inl rfl⟩
 .unfold isHour at h;rw[AX,AX]at h;obtain⟨a,b,c,d,x,f,F,B,D,_⟩:=(ZM _).mp h.1.1;refine⟨[a,b],58,[c,d,58,x,f]++w.drop 8,?_,?_,!2,.inr rfl⟩
  .conv=>lhs;rw[<-As 8 w,F]
   rfl
  intro x hx;simp at hx;obtain rfl|rfl:=hx<;>assumption
 obtain⟨u,v,e,B,D⟩:=day _ h;refine⟨u,45,v++w.drop 10,?_,B,D,.inl rfl⟩
 conv=>lhs;rw[<-As 10 w,e]
 simp
set_option tactic.hygienic true
def OP(h:timeOf w≠AB):isDay w=AF\/isHour w=AF\/isDay (w.take 10)=AF:=by
 rw[O7]at h;by_cases q:isDay w=AF\/isHour w=AF
 .obtain q|q:=q
  .exact .inl q
  exact .inr (.inl q)
 rw[AD q]at h;unfold Zm at h;split at h
 .exact absurd rfl h
 rename_i z;refine .inr (.inr ?_);cases e:isDay (w.take 10)with
 |true=>rfl
 |false=>exact absurd (.inl e) z
def Rg{u v:Text}(e:w=u++c::v)(B: ∀x∈u,isDigit x=AF)(D:u.length≥2):IW w=w:=by
 cases u with
 |nil=>simp at D
 |cons a u=>
  have:=digit_range (B a (!2));rw[e];exact L5 (!5)
def cH(h:timeOf w≠AB):Mu w=AB:=by
 obtain⟨u,c,v,e,B,E,D⟩:=RC (OP h);refine Xr (u:=u) (v:=v) (c:=c) ((Rg e B E).trans e) B ?_ ?_ ?_
 .obtain rfl|rfl:=D<;>decide
 .lia
 obtain rfl|rfl:=D<;>decide
def cj(h:timeOf w≠AB):lead (IW w)=AB:=by
 obtain⟨u,c,v,e,B,D,E⟩:=RC (OP h);cases z:lead (IW w)with
 |none=>rfl
 |some ws=>
  have:=Ld (!1) (MQ z) c (by rw[Rg e B D,e];simp);obtain rfl|rfl:=E<;>exact absurd this (!1)
def Yj(h:baseOf w=U b):timeOf w=AB:=by
 cases z:timeOf w with
 |none=>rfl
 |some x=>
  exfalso;obtain⟨u,c,v,e,D,B,F⟩:=RC (OP (w:=w) (by rw[z];simp));have two: ∃x y s,w=x::y::s/\isDigit y=AF:=by
   match u,e,D,B with
   |a::b::u,e,D,_=>exact⟨a,b,u++c::v,e,D b (!2)⟩
   |[a],_,_,B=>simp at B
   |[],_,_,B=>simp at B
  obtain⟨x,y,s,rfl,E⟩:=two;have:=digit_range E;unfold baseOf at h;split at h
  .rename_i q;cases q;nofun
  .rename_i q;cases q;nofun
  .rename_i q;cases q;nofun
  cases h
def Lw(h:baseOf w=U b): ∃c r,w=48::c::r/\(c=120/\b=16\/c=111/\b=8\/c=98/\b=2):=by
 unfold baseOf at h;split at h
 .rename_i r;cases h;exact⟨120,r,rfl,.inl ⟨rfl,rfl⟩⟩
 .rename_i r;cases h;exact⟨111,r,rfl,.inr (.inl ⟨rfl,rfl⟩)⟩
 .rename_i r;cases h;exact⟨98,r,rfl,.inr (.inr ⟨rfl,rfl⟩)⟩
 cases h
def cI(h:baseOf w=U b):Mu w=AB:=by
 obtain⟨c,r,rfl,B⟩:=Lw h;refine Xr (u:=[48]) (v:=r) (c:=c) (L5 (!1)) (by simp;decide) ?_ (!5) ?_
 .obtain⟨rfl,_⟩|⟨rfl,_⟩|⟨rfl,_⟩:=B<;>decide
 obtain⟨rfl,_⟩|⟨rfl,_⟩|⟨rfl,_⟩:=B<;>decide
def take2(w:Text)(c:Nat)(s:String)(hs:text s=[48,c]):w.take 2=text s↔ ∃r,w=48::c::r:=by
 rw[hs];constructor
 .intro h;cases w with
  |nil=>simp at h
  |cons a w=>
   cases w with
   |nil=>simp at h
   |cons b r=>
    rw[B3,B3,HY]at h;injection h with D B
    injection B with B _
    exact⟨r,by rw[D,B]⟩
 rintro⟨r,rfl⟩;rw[B3,B3,HY]
def Rf(w:Text)(c:Nat)(s:Text)(B:c≠45/\c≠43):IW w=c::s↔w=c::s\/w=43::c::s\/w=45::c::s:=by
 constructor
 .intro h;unfold IW at h;split at h
  .rename_i q;cases w with
   |nil=>simp at h
   |cons a r=>
    have h:r=c::s:=h;subst h;simp at q;obtain rfl|rfl:=q
    .exact .inr (.inr rfl)
    exact .inr (.inl rfl)
  exact .inl h
 rintro(rfl|rfl|rfl)
 .exact L5 B
 .rfl
 rfl
set_option tactic.hygienic false
def di(p:Nat->Bool)(b:Nat)(d:Text):based p b d=(digits p d AJ).bind λx=>int64 ((number b x:Nat):Int):=by delta based;exact Eq.refl _
def Zn(f:Int->Option Value)(B:p=pb b)(D:b<=16)(d:Text):((digits p d AJ).bind λx=>f ((number b x:Nat):Int))=((LC b d AJ).map (nb b)).bind λn=>f (n:Int):=by
 rw[B,Lf D];cases digits (pb b) d AJ with
 |none=>rfl
 |some x=>
  show f _=f _;rw[NF]
def UX(B:p=pb b)(D:b<=16)(d:Text):based p b d=((LC b d AJ).map (nb b)).bind λn=>int64 (n:Int):=(di p b d).trans (Zn int64 B D d)
def bO(r:Text):(r.any λc=>c==46||(c==101||c==69))=AJ↔Lr (λc=>c==46) (r.take (Lr LO r))=r.length:=by
 constructor
 .intro h;have hn: ∀c∈r,LO c=AJ/\c≠46:=by
   intro c B;have:=FI.mp h c B;simp at this;refine⟨?_,this.1⟩;unfold LO;simp
   lia
  have F:r.takeWhile (λc=>!LO c)=r:=by
   have:=BD (p:=λc=>!LO c) (l₁:=r) (l₂:=[]) (λx hx=>by rw[(hn x hx).1];rfl);simpa using this
  have G:r.takeWhile (λc=>!(c==46))=r:=by
   have:=BD (p:=λc=>!(c==46)) (l₁:=r) (l₂:=[]) (λx hx=>by simpa using(hn x hx).2);simpa using this
  rw[NB,F];unfold Lr;rw[G]
 intro h;have I:=OU (λc=>c==46) (r.take (Lr LO r));have O:=OU LO r;rw[AW]at I;have D:Lr LO r=r.length:=!3
 have J:r.takeWhile (λc=>!LO c)=r:=by
  rw[<-NB,D,BG]
 rw[D,BG]at h;have L:r.takeWhile (λc=>!(c==46))=r:=by
  have:=NB (λc=>c==46) r;rw[h,BG]at this;exact this.symm
 refine FI.mpr λc B=>?_;have E:(!LO c)=AF:=A7.mp (Ck (p:=λc=>!LO c) (l:=r)) c (by rw[J];exact B);have M:(!(c==46))=AF:=A7.mp (Ck (p:=λc=>!(c==46)) (l:=r)) c (by rw[L];exact B);unfold LO at E;simp at E M⊢
 lia
def PX(w:Text):bare w=MP w:=by
 unfold bare;show 4;rw[bc];unfold MP LK;by_cases I:w=text "true"
 .rw[AI I,AI I]
 rw[AD I,AD I];by_cases J:w=text "false"
 .rw[AI J,AI J]
 rw[AD J,AD J];have ti:text "inf"=105::[110,102]:=!1
 have S:text "+inf"=43::105::[110,102]:=!1
 have Y:text "-inf"=45::105::[110,102]:=!1
 have tn:text "nan"=110::[97,110]:=!1
 have Z:text "+nan"=43::110::[97,110]:=!1
 have tmn:text "-nan"=45::110::[97,110]:=!1
 rw[ti,S,Y,tn,Z,tmn];have L:=Rf w 105 [110,102] (!1);have u2:=Rf w 110 [97,110] (!1);by_cases F:IW w=105::[110,102]
 .rw[AI F];obtain rfl|rfl|rfl:=L.mp F
  .rfl
  .rfl
  rfl
 rw[AD F];have n3: ¬w=105::[110,102]/\ ¬w=43::105::[110,102]/\ ¬w=45::105::[110,102]:=⟨λz=>F (L.mpr (.inl z)),λz=>F (L.mpr (.inr (.inl z))),λz=>F (L.mpr (.inr (.inr z)))⟩;rw[AD n3.1,AD n3.2.1,AD n3.2.2];by_cases M:IW w=110::[97,110]
 .rw[AI M,AI (u2.mp M)]
 rw[AD M,AD (λz=>M (u2.mpr z))];have neg:(w.head?==U 45)=Iw w:=rfl;rw[neg];have O:=take2 w 120 "0x" (!1);have bo:=take2 w 111 "0o" (!1);have bb:=take2 w 98 "0b" (!1);cases B:baseOf w with
 |some b=>
  have D:Jq w=((LC b (w.drop 2) AJ).map (nb b)).bind λn=>int64 (n:Int):=by
   unfold Jq QX;rw[B];obtain⟨c,r,rfl,_⟩:=Lw B;rfl
  have E:(match Mu w with
    |some x=>U (OJ (Iw w) x)
    |none=>if isDay w=AF\/isHour w=AF then U (.time w)else(Zm w).map .time)=AB:=by
   rw[cI B];show 4;rw[<-O7,Yj B]
  have key:(match Jq w with
    |some v=>U v
    |none=>(match Mu w with
     |some x=>U (OJ (Iw w) x)
     |none=>if isDay w=AF\/isHour w=AF then U (.time w)else(Zm w).map .time))=Jq w:=by
   cases e:Jq w with
   |some v=>rfl
   |none=>exact E
  refine Eq.trans ?_ (D.symm.trans key.symm)
  obtain⟨c,r,rfl,hc⟩:=Lw B;obtain⟨rfl,rfl⟩|⟨rfl,rfl⟩|⟨rfl,rfl⟩:=hc
  .rw[AI (O.mpr ⟨r,rfl⟩)];exact UX ma.symm (!1) _
  .rw[AD (λz=>by obtain⟨s,z⟩:=O.mp z;cases z),AI (bo.mpr ⟨r,rfl⟩)];exact UX xR.symm (!1) _
  rw[AD (λz=>by obtain⟨s,z⟩:=O.mp z;cases z),AD (λz=>by obtain⟨s,z⟩:=bo.mp z;cases z),AI (bb.mpr ⟨r,rfl⟩)];exact UX xS.symm (!1) _
 |none=>
  have nx: ¬w.take 2=text "0x":=λz=>by obtain⟨s,z⟩:=O.mp z;show 6 z B
  have no: ¬w.take 2=text "0o":=λz=>by obtain⟨s,z⟩:=bo.mp z;show 6 z B
  have nbb: ¬w.take 2=text "0b":=λz=>by obtain⟨s,z⟩:=bb.mp z;show 6 z B
  rw[AD nx,AD no,AD nbb];have D:Jq w=(whole (IW w)).bind λd=>int64 (if Iw w=AF then-(number 10 d:Int)else(number 10 d:Int)):=by
   unfold Jq QX;rw[B];show 4;rw[<-P2];cases whole (IW w)with
   |none=>simp only[HB,Option.bind_none]
   |some d=>
    simp only[Bq,AE,NF]
  show 4;cases G:timeOf w with
  |some v=>
   have hl:lead (IW w)=AB:=cj (by rw[G];simp);have hp:Jq w=AB:=by
    unfold Jq QX;rw[B];show 4;rw[hl];rfl
   rw[hp,cH (by rw[G];simp)];show 4;rw[<-O7,G]
  |none=>
   rw[O7]at G;show 4;rw[<-D,G];by_cases ha:((IW w).any λc=>c==46||(c==101||c==69))=AF
   .rw[AI ha,Zo _ _ ha];have vT: ¬Lr (λc=>c==46) ((IW w).take (Lr LO (IW w)))=(IW w).length:=by
     intro z;rw[(bO _).mpr z]at ha;cases ha
    have hw:Jq w=AB:=by
     rw[D];have:lead (IW w)=AB:=by
      cases e:lead (IW w)with
      |none=>rfl
      |some ws=>
       obtain⟨c,hc,pf⟩:=G2.mp ha;have hz:=Ld (!1) (MQ e) c hc;have:c=46\/c=101\/c=69:=by simpa using pf
       obtain rfl|rfl|rfl:=this<;>exact absurd hz (!1)
     rw[P1.mpr this];rfl
    rw[hw];show 4;unfold Mu;show 4;rw[AD vT];cases lead ((IW w).take (Lr (λc=>c==46) ((IW w).take (Lr LO (IW w)))))with
    |none=>rfl
    |some a=>
     show 3;cases(if Lr (λc=>c==46) ((IW w).take (Lr LO (IW w)))<Lr LO (IW w)then LC 10 (((IW w).take (Lr LO (IW w))).drop (Lr (λc=>c==46) ((IW w).take (Lr LO (IW w)))+1)) AJ else U [])with
     |none=>rfl
     |some b=>
      show 3;cases(if Lr LO (IW w)<(IW w).length then MW ((IW w).drop (Lr LO (IW w)+1))else U 0)<;>rfl
   rw[AD ha];have ha':((IW w).any λc=>c==46||(c==101||c==69))=AJ:=by simpa using ha
   have hd:Mu w=AB:=by
    unfold Mu;show 4;rw[AI ((bO _).mp ha')]
   rw[hd];cases Jq w<;>rfl
def we(t:Text):Bool:=match t with
 |[]=>AF
 |c::r=>Of c||decide (0<le (c::r))||c==44||c==93||c==125||c==35
def wd:Text->Text×Text
 |[]=>([],[])
 |c::r=>if we (c::r)=AF then([],c::r)else(c::(wd r).1,(wd r).2)
theorem MB: ∀t:Text,(wd t).1++(wd t).2=t
 |[]=>rfl
 |c::r=>by
  unfold wd;split
  .rfl
  show c::((wd r).1++(wd r).2)=_;rw[MB r]
def jW(t:Text):t.drop (wd t).1.length=(wd t).2:=by
 have e:=MB t;generalize(wd t).1=a at*;generalize(wd t).2=b at*;rw[<-e];simp
def M8(c:Nat):stops c=AF↔c=32\/c=9\/c=10\/c=13\/c=44\/c=93\/c=125\/c=35:=by
 unfold stops;simp
set_option tactic.hygienic true
def XT{r:Text}(h:we (c::r)=AF):stops c=AF:=by
 rw[M8];unfold we at h;simp only[BE,BL,Ak]at h;obtain((((h|h)|h)|h)|h)|h:=h
 .have:c=32\/c=9:=by simpa[Of]using h
  nofun
 .unfold le at h;split at h
  .rename_i q;cases q;nofun
  .rename_i q;cases q;nofun
  nofun
 .nofun
 .nofun
 .nofun
 nofun
def fA{r:Text}(h:stops c=AF)(B:c≠13):we (c::r)=AF:=by
 rw[M8]at h;unfold we;simp only[BE,BL,Ak];obtain rfl|rfl|rfl|rfl|rfl|rfl|rfl|rfl:=h
 .exact .inl (.inl (.inl (.inl (.inl rfl))))
 .exact .inl (.inl (.inl (.inl (.inl rfl))))
 .exact .inl (.inl (.inl (.inl (.inr (show 0<le (10::r)from Nat.zero_lt_one)))))
 .exact absurd rfl B
 .exact .inl (.inl (.inl (.inr rfl)))
 .exact .inl (.inl (.inr rfl))
 .exact .inl (.inr rfl)
 exact .inr rfl
def cQ{r:Text}(h:we (13::r)=AJ):eol (13::r)=AB:=by
 rw[Ly];split
 .rfl
 rename_i q;exfalso;have:we (13::r)=AF:=by
  unfold we;simp only[BE,Ak];exact .inl (.inl (.inl (.inl (.inr (!3)))))
 show 6 h this
theorem Sg: ∀t:Text,(13∉(wd t).1/\t.takeWhile (λc=>!stops c)=(wd t).1/\t.dropWhile (λc=>!stops c)=(wd t).2)∨
  (∃y,(wd t).1=t.takeWhile (λc=>!stops c)++13::y)/\Dc (t.dropWhile λc=>!stops c)/\(t.dropWhile λc=>!stops c).head?=U 13
 |[]=>.inl ⟨by simp[wd],rfl,rfl⟩
 |c::r=>by
  unfold wd;by_cases D:we (c::r)=AF
  .rw[AI D];have:=XT D;refine .inl ⟨!2,?_,?_⟩
   .rw[Aw,AD (by rw[this];decide)]
   rw[Bj,AD (by rw[this];decide)]
  rw[AD D];by_cases B:c=13
  .subst B;right;have e:stops 13=AF:=!1
   rw[Aw,AD (by rw[e];decide),Bj,AD (by rw[e];decide)];exact⟨⟨_,rfl⟩,⟨13,r,rfl,!1,cQ (!8 D)⟩,rfl⟩
  have hs:stops c=AJ:=by
   cases e:stops c with
   |false=>rfl
   |true=>exact absurd (fA e B) D
  rw[Aw,AI (by rw[hs];rfl),Bj,AI (by rw[hs];rfl)];obtain⟨E,F,G⟩|⟨⟨y,E⟩,F,G⟩:=Sg r
  .refine .inl ⟨?_,by rw[F],G⟩;simp only[AO,not_or];exact⟨λz=>B z.symm,E⟩
  exact .inr ⟨⟨y,by show 4;rw[E];rfl⟩,F,G⟩
theorem K9(B:b<=16): ∀{t:Text}{a:Bool}{ws:List Nat},LC b t a=U ws-> ∀c∈t,c≠13
 |[],_,_,_=>λc D=>nomatch D
 |c::r,a,ws,h=>by
  intro x hx;unfold LC at h;split at h
  .rename_i q;obtain rfl|hx:=AO.mp hx
   .rw[q.1];decide
   exact K9 B h x hx
  split at h
  .cases h
  rename_i q;cases e:LC b r AF with
  |none=>show 6 e h
  |some l=>
   obtain rfl|hx:=AO.mp hx
   .rintro rfl;have:dw 13=16:=rfl
    lia
   exact K9 B e x hx
def Te(h:c∈w)(B:c≠45/\c≠43):c∈IW w:=by
 unfold IW;split
 .rename_i q;cases w with
  |nil=>cases h
  |cons a r=>
   obtain rfl|h:=AO.mp h
   .simp at q
    lia
   exact h
 exact h
def Zp(h:isDay t=AF):13∉t:=by
 unfold isDay at h;rw[AX]at h;obtain⟨a,b,c,d,e,f,g,i,rfl,B,D,E,F,G,I,J,L⟩:=(WR _).mp h.1;have:=digit_range B;have:=digit_range D;have:=digit_range E;have:=digit_range F;have:=digit_range G;have:=digit_range I;have:=digit_range J;have:=digit_range L;simp
 lia
def aw(h:isHour t=AF):13∉t:=λz=>by
 have:=Qm h 13 z;revert this;decide
def jV(r:Text):13∉r.drop (r.length-zl r):=by
 unfold zl;split
 .rename_i q;have B:r≠ []:=by
   intro z;subst z;simp at q
  obtain⟨u,x,rfl⟩: ∃u x,r=u++[x]:=⟨r.dropLast,r.getLast B,(Bb B).symm⟩;have:(u++[x]).drop ((u++[x]).length-1)=[x]:=!2
  rw[this];simp at q⊢
  lia
 split
 .rename_i q;obtain⟨s,a,b,J,d,e,D,E,F,G,I⟩:=NJ q;rw[e];have:=digit_range E;have:=digit_range F;have:=digit_range G;have:=digit_range I;simp
  lia
 simp
def X8(h:13∈w):MP w=AB:=by
 have Z:LK w=AB:=by
  unfold LK;repeat' split
  all_goals first
   |rfl
   |(rename_i q;subst q;revert h;decide)
   |(rename_i q;obtain q|q|q:=q<;>(subst q;revert h;decide))
 have I:13∈IW w:=Te h (!1);have O: ∀t:Text,13∈t->lead t=AB:=by
  intro t M;cases e:lead t with
  |none=>rfl
  |some ws=>exact absurd rfl (K9 (!1) (MQ e) 13 M)
 have hw:Jq w=AB:=by
  have:QX w=AB:=by
   unfold QX;cases hb:baseOf w with
   |none=>
    show 4;rw[O _ I];rfl
   |some b=>
    show 4;obtain⟨c,r,rfl,hc⟩:=Lw hb;have hr:13∈r:=by
     simp at h;obtain h|h:=h
     .lia
     exact h
    have:LC b r AJ=AB:=by
     cases e:LC b r AJ with
     |none=>rfl
     |some ws=>exact absurd rfl (K9 (!3) e 13 hr)
    show(LC b r AJ).map (nb b)=AB;rw[this];rfl
  unfold Jq;rw[this];rfl
 have hd:Mu w=AB:=by
  unfold Mu;show 4;generalize IW w=r at I;split
  .rfl
  .
   generalize B:Lr (λc=>c==46) (r.take (Lr LO r))=pt;generalize D:Lr LO r=pw;rw[D]at B;have Wz:pw<=r.length:=by rw[<-D];exact OU _ _
   have S:pt<=pw:=by
    have:=OU (λc=>c==46) (r.take pw);rw[B,AW]at this
    lia
   by_cases J:13∈r.take pt
   .rw[O _ J];rfl
   by_cases G:13∈(r.take pw).drop (pt+1)
   .have:LC 10 ((r.take pw).drop (pt+1)) AJ=AB:=by
     cases e:LC 10 ((r.take pw).drop (pt+1)) AJ with
     |none=>rfl
     |some ws=>exact absurd rfl (K9 (!1) e 13 G)
    have E:pt<pw:=by
     have:=Fi G;rw[AS,AW]at this
     lia
    rw[AI E,this];cases lead (r.take pt)<;>rfl
   have L:13∈r.drop (pw+1):=by
    have e:r=r.take pt++((r.take pw).drop pt++r.drop pw):=by
     rw[<-Ah];have:r.take pt++(r.take pw).drop pt=r.take pw:=by
      have e2:r.take pt=(r.take pw).take pt:=by rw[EE];congr 1;lia
      rw[e2,As]
     rw[this,As]
    rw[e]at I;obtain z|z:=AQ.mp I
    .exact absurd z J
    obtain z|z:=AQ.mp z
    .
     exfalso;cases e2:(r.take pw).drop pt with
     |nil=>show 6 e2 z
     |cons a u=>
      have ha:a=46:=by
       have:=QY (λc=>c==46) (r.take pw);rw[B,e2]at this;have:=JY _ this.symm;simpa using this
      have F:(r.take pw).drop (pt+1)=u:=by
       have:(r.take pw).drop (pt+1)=((r.take pw).drop pt).drop 1:=by rw[BR]
       rw[this,e2];rfl
      rw[e2]at z;obtain z|z:=AO.mp z
      .lia
      exact G (by rw[F];exact z)
    cases e2:r.drop pw with
    |nil=>show 6 e2 z
    |cons a u=>
     have ha:LO a=AF:=by
      have:=QY LO r;rw[D,e2]at this;have:=JY _ this.symm;simpa using this
     have F:r.drop (pw+1)=u:=by
      have:r.drop (pw+1)=(r.drop pw).drop 1:=by rw[BR]
      rw[this,e2];rfl
     rw[F];rw[e2]at z;obtain z|z:=AO.mp z
     .subst z;exact absurd ha (!1)
     exact z
   have E:pw<r.length:=by
    have:=Fi L;rw[AS]at this
    lia
   have hp:MW (r.drop (pw+1))=AB:=by
    unfold MW;have:LC 10 (IW (r.drop (pw+1))) AJ=AB:=by
     cases e:LC 10 (IW (r.drop (pw+1))) AJ with
     |none=>rfl
     |some ws=>exact absurd rfl (K9 (!1) e 13 (Te L (!1)))
    rw[this];rfl
   rw[AI E,hp];cases lead (r.take pt)with
   |none=>rfl
   |some a=>cases(if pt<pw then LC 10 ((r.take pw).drop (pt+1)) AJ else U [])<;>rfl
 have M:Zm w=AB:=by
  unfold Zm;split
  .rfl
  rename_i Y;show 4;split
  .rfl
  rename_i hh;exfalso;have J:isDay (w.take 10)=AF:=by
   cases e:isDay (w.take 10)with
   |true=>rfl
   |false=>exact absurd (.inl e) Y
  have G:(w.drop 10).take 1=[84]\/(w.drop 10).take 1=[116]\/(w.drop 10).take 1=[32]:=by
   by_cases z:(w.drop 10).take 1=[84]\/(w.drop 10).take 1=[116]\/(w.drop 10).take 1=[32]
   .exact z
   exact absurd (.inr z) Y
  have L:isHour ((w.drop 11).take ((w.drop 11).length-zl (w.drop 11)))=AF:=by simpa using hh
  have e:w=w.take 10++((w.drop 10).take 1++w.drop 11):=by
   have:w.drop 11=(w.drop 10).drop 1:=by rw[BR]
   rw[this,As,As]
  rw[e]at h;obtain z|z:=AQ.mp h
  .exact Zp J z
  obtain z|z:=AQ.mp z
  .obtain q|q|q:=G<;>(rw[q]at z;revert z;decide)
  rw[<-As ((w.drop 11).length-zl (w.drop 11)) (w.drop 11)]at z;obtain z|z:=AQ.mp z
  .exact aw L z
  exact jV _ z
 unfold MP;rw[Z];show 4;rw[hw];show 4;rw[hd];show 4;rw[AD,M]
 .rfl
 rintro(q|q)
 .exact Zp q h
 exact aw q h
def jK(t:Text):Option (Value×Text):=
 if isDay (wd t).1=AF/\(wd t).2.head?=U 32/\((wd t).2.drop 1).head?.any isDigit=AF then
  (MP ((wd t).1++32::(wd ((wd t).2.drop 1)).1)).map λv=>(v,(wd ((wd t).2.drop 1)).2)
 else(MP (wd t).1).map λv=>(v,(wd t).2)
def Vh:MP []=AB:=!1
def fX(t:Text):jK t=bareNext t\/(jK t=AB/\ ∀y,bareNext t=U y->Dc y.2):=by
 unfold bareNext;show 4;rw[Ir];obtain⟨L,G,I⟩|⟨⟨y,L⟩,G,I⟩:=Sg t
 .rw[G,I];unfold jK;obtain⟨M,J,O⟩|⟨⟨z,M⟩,J,O⟩:=Sg ((wd t).2.drop 1)
  .left;rw[J];have D:((wd ((wd t).2.drop 1)).1.head?.any isDigit=AF)↔(((wd t).2.drop 1).head?.any isDigit=AF):=by
    cases e:(wd t).2.drop 1 with
    |nil=>simp[wd]
    |cons c r=>
     unfold wd;split
     .rename_i q;have:=XT q;rw[M8]at this;simp[isDigit];omega
     simp
   by_cases q:isDay (wd t).1=AF/\(wd t).2.head?=U 32/\((wd t).2.drop 1).head?.any isDigit=AF
   .rw[AI q,AI ⟨q.1,q.2.1,D.mpr q.2.2⟩,PX];have:(wd t).2.drop ((wd ((wd t).2.drop 1)).1.length+1)=(wd ((wd t).2.drop 1)).2:=by
     rw[Ff,<-BR];exact jW _
    rw[this]
   rw[AD q,AD (λw=>q ⟨w.1,w.2.1,D.mp w.2.2⟩)];by_cases B:(wd t).1.isEmpty=AF
   .rw[AI B];have:(wd t).1=[]:=FU.mp B;rw[this,Vh];rfl
   rw[AD B,PX]
  .
   have D:(((wd t).2.drop 1).takeWhile (λc=>!stops c)).head?.any isDigit=AF↔(((wd t).2.drop 1).head?.any isDigit=AF):=by
    cases e:(wd t).2.drop 1 with
    |nil=>simp
    |cons c r=>
     rw[Aw];by_cases hs:stops c=AF
     .rw[AD (by rw[hs];decide)];rw[M8]at hs;simp[isDigit];omega
     rw[AI (!8 hs)];simp
   by_cases q:isDay (wd t).1=AF/\(wd t).2.head?=U 32/\((wd t).2.drop 1).head?.any isDigit=AF
   .rw[AI q,AI ⟨q.1,q.2.1,D.mpr q.2.2⟩,X8 (by rw[M];simp)];refine .inr ⟨rfl,?_⟩;intro y F;cases e:bare ((wd t).1++32::((wd t).2.drop 1).takeWhile λc=>!stops c)with
    |none=>show 6 e F
    |some v=>
     show 6 e F;have:(wd t).2.drop ((((wd t).2.drop 1).takeWhile λc=>!stops c).length+1)=((wd t).2.drop 1).dropWhile λc=>!stops c:=by
      rw[Ff,<-BR,Ir]
     show 4;rw[this];exact J
   left;rw[AD q,AD (λw=>q ⟨w.1,w.2.1,D.mp w.2.2⟩)];by_cases B:(wd t).1.isEmpty=AF
   .rw[AI B];have:(wd t).1=[]:=FU.mp B;rw[this,Vh];rfl
   rw[AD B,PX]
 .
  right;have E:13∈(wd t).1:=by rw[L];simp
  constructor
  .unfold jK;rw[AD (λq=>Zp q.1 E),X8 E];rfl
  intro x hx;rw[AD]at hx
  .by_cases B:(t.takeWhile λc=>!stops c).isEmpty=AF
   .rw[AI B]at hx;cases hx
   rw[AD B]at hx;cases e:bare (t.takeWhile λc=>!stops c)with
   |none=>show 6 e hx
   |some v=>
    show 6 e hx;exact G
  rintro⟨_,q,_⟩;show 6 I q
def iL(k:Text):find [] k=AB:=rfl
def J4(p:Text×Value)(r:Rows)(k:Text):find (p::r) k=if p.1=k then U p.2 else find r k:=by
 unfold find;rw[List.find?_cons];by_cases h:p.1=k
 .rw[AI h,show(p.1==k)=AF by simp[h]];rfl
 rw[AD h,show(p.1==k)=AJ by simp[h]]
def YO(r s:Rows)(k:Text):find (r++s) k=match find r k with
  |some v=>U v
  |none=>find s k:=by
 induction r with
 |nil=>rfl
 |cons p r B=>
  rw[Az,J4,J4];split
  .rfl
  exact B
def Kn(h:find r k=AB):find (r++[(k,v)]) k=U v:=by
 rw[YO,h];show 4;rw[J4,AI rfl]
def JA(p:Text×Value)(r:Rows)(k:Text)(v:Value):replace (p::r) k v=(if p.1=k then(k,v)else p)::replace r k v:=rfl
theorem L6: ∀{r:Rows}{k:Text}{v:Value},find r k=AB->replace r k v=r
 |[],_,_,_=>rfl
 |p::r,k,v,h=>by
  rw[J4]at h;split at h
  .cases h
  rename_i q;rw[JA,AD q,L6 h]
def replace_append(r s:Rows)(k:Text)(v:Value):replace (r++s) k v=replace r k v++replace s k v:=by
 unfold replace;exact A8
def Kh(h:find r k=AB):replace (r++[(k,u)]) k v=r++[(k,v)]:=by
 rw[replace_append,L6 h,JA,AI rfl];rfl
theorem Jk(k:Text)(u v:Value): ∀r:Rows,replace (replace r k u) k v=replace r k v
 |[]=>rfl
 |p::r=>by
  rw[JA,JA,JA,Jk k u v r];by_cases h:p.1=k
  .rw[AI h,AI h];simp
  rw[AD h,AD h]
theorem JD(k:Text)(v:Value): ∀{r:Rows},find r k≠AB->find (replace r k v) k=U v
 |[],h=>absurd rfl h
 |p::r,h=>by
  rw[JA,J4];by_cases q:p.1=k
  .rw[AI q];simp
  rw[AD q,AD q];rw[J4,AD q]at h;exact JD k v h
noncomputable def Lj(r:Rows)(k:Text):Option ((Value->Rows)×Nat×Rows):=match find r k with
 |none=>U (λv=>r++[(k,v)],0,[])
 |some (.table kd x)=>if kd=3 then AB else U (λv=>replace r k v,kd,x)
 |some (.array AF l)=>(match l.getLast? with
  |some (.table kd x)=>U (λv=>replace r k (.array AF (l.dropLast++[v])),kd,x)
  |_=>AB)
 |_=>AB
def bT(act:Text->Rows->Option Rows)(k j:Text)(B:List Text)(r:Rows):
  walk act (k::j::B) r=(Lj r k).bind λs=>(walk act (j::B) s.2.2).map λy=>s.1 (.table s.2.1 y):=by
 rw[walk]
 .unfold Lj;cases e:find r k with
  |none=>rfl
  |some v=>
   cases v with
   |table kd x=>
    show 4;split
    .rfl
    rfl
   |array b l=>
    cases b with
    |false=>rfl
    |true=>
     show 4;cases e2:l.getLast? with
     |none=>rfl
     |some v=>cases v<;>rfl
   |_=>rfl
 exact λz=>nomatch z
def SX(kd:Nat):List Text->Rows->Option ((Rows->Rows)×Nat×Rows)
 |[],r=>U (id,kd,r)
 |k::B,r=>(Lj r k).bind λs=>(SX s.2.1 B s.2.2).map λz=>(λy=>s.1 (.table s.2.1 (z.1 y)),z.2)
theorem Md(act:Text->Rows->Option Rows)(l:Text): ∀(B:List Text)(kd:Nat)(r:Rows),
  walk act (B++[l]) r=(SX kd B r).bind λz=>(act l z.2.2).map z.1
 |[],kd,r=>by
  show act l r=(act l r).map λy=>y;cases act l r<;>rfl
 |k::B,kd,r=>by
  have h: ∃j D,B++[l]=j::D:=by
   cases B with
   |nil=>exact⟨_,_,rfl⟩
   |cons j D=>exact⟨_,_,rfl⟩
  obtain⟨j,D,E⟩:=h;rw[Az,E,bT,SX,<-E];cases Lj r k with
  |none=>rfl
  |some s=>
   show 3;rw[Md act l B s.2.1 s.2.2];cases SX s.2.1 B s.2.2 with
   |none=>rfl
   |some z=>
    simp only[AE,Bq];cases act l z.2.2<;>rfl
def RE(h:Lj r k=U (g,kd,x))(y:Rows):
  ∃B,Lj (g (.table kd y)) k=U (B,kd,y)/\ ∀v,B v=g v:=by
 unfold Lj at h;split at h
 .rename_i e;cases h;refine⟨λv=>replace (r++[(k,.table 0 y)]) k v,?_,λv=>Kh e⟩;unfold Lj;rw[Kn e];rfl
 .rename_i kd' D e;split at h
  .cases h
  rename_i q;cases h;refine⟨λv=>replace (replace r k (.table kd y)) k v,?_,λv=>Jk _ _ _ _⟩;unfold Lj;rw[JD _ _ (by rw[e];simp)];show 4;rw[AD q]
 .rename_i l e;split at h
  .rename_i kd' D e2;cases h;refine⟨λv=>replace (replace r k (.array AF (l.dropLast++[Ed kd y]))) k (.array AF ((l.dropLast++[Ed kd y]).dropLast++[v])),?_,λv=>?_⟩
   .unfold Lj;rw[JD _ _ (by rw[e];simp)];show 4;rw[List.getLast?_append];rfl
   show 4;rw[Jk];simp
  cases h
 cases h
set_option tactic.hygienic false
theorem MF: ∀{B:List Text}{kd:Nat}{r:Rows}{C:Rows->Rows}{kd':Nat}{x:Rows},SX kd B r=U (C,kd',x)-> ∀y,∃D,SX kd B (C y)=U (D,kd',y)/\ ∀z,D z=C z
 |[],kd,r,C,kd',x,h,y=>by
  cases h;exact⟨id,rfl,λw=>rfl⟩
 |k::B,kd,r,C,kd',x,h,y=>by
  rw[SX]at h;cases e:Lj r k with
  |none=>show 6 e h
  |some s=>
   show 5 e h;cases e2:SX s.2.1 B s.2.2 with
   |none=>show 6 e2 h
   |some z=>
    obtain⟨E,O,S⟩:=z;show 6 e2 h;obtain⟨g,F,Y⟩:=s;obtain⟨D,G,I⟩:=MF e2 y;obtain⟨J,L,M⟩:=RE e (E y);refine⟨λv=>J (.table F (D v)),?_,λv=>?_⟩
    .rw[SX];show 4;rw[L];show 3;rw[G];rfl
    show 4;rw[M,I]
noncomputable def Qu(r:Rows)(k:Text):Option ((Value->Rows)×Rows):=match find r k with
 |none=>U (λv=>r++[(k,v)],[])
 |some (.table kd x)=>if kd=2 then U (λv=>replace r k v,x)else AB
 |_=>AB
def UN(v:Value)(k:Text)(r:Rows):dotted v [k] r=if find r k=AB then U (r++[(k,v)])else AB:=by
 show(if(find r k).isNone=AF then U (r++[(k,v)])else AB)=_;cases find r k<;>simp
def YV(v:Value)(k j:Text)(B:List Text)(r:Rows):dotted v (k::j::B) r=(Qu r k).bind λs=>(dotted v (j::B) s.2).map λy=>s.1 (.table 2 y):=by
 rw[dotted]
 .unfold Qu;cases e:find r k with
  |none=>rfl
  |some u=>
   cases u with
   |table kd x=>
    show 4;by_cases q:kd=2
    .subst q;rw[AI rfl,AI rfl];rfl
    rw[AD q,AD q];rfl
   |_=>rfl
 exact λz=>nomatch z
def eK:List Text->Rows->Option ((Rows->Rows)×Rows)
 |[],r=>U (id,r)
 |k::B,r=>(Qu r k).bind λs=>(eK B s.2).map λz=>(λy=>s.1 (.table 2 (z.1 y)),z.2)
theorem PQ(v:Value)(l:Text): ∀(B:List Text)(r:Rows),
  dotted v (B++[l]) r=(eK B r).bind λz=>(dotted v [l] z.2).map z.1
 |[],r=>by
  show dotted v [l] r=(dotted v [l] r).map λy=>y;cases dotted v [l] r<;>rfl
 |k::B,r=>by
  have h: ∃j D,B++[l]=j::D:=by
   cases B with
   |nil=>exact⟨_,_,rfl⟩
   |cons j D=>exact⟨_,_,rfl⟩
  obtain⟨j,D,E⟩:=h;rw[Az,E,YV,eK,<-E];cases Qu r k with
  |none=>rfl
  |some s=>
   show 3;rw[PQ v l B s.2];cases eK B s.2 with
   |none=>rfl
   |some z=>
    simp only[AE,Bq];cases dotted v [l] z.2<;>rfl
noncomputable def bS(at_:List Text)(C:Rows->Rows):Prop:= ∀(B:List Text)(v:Value)(x:Rows),putAt at_ B v (C x)=(dotted v B x).map C
def YN:bS [] id:=by
 intro B v x;show dotted v B x=(dotted v B x).map λy=>y;cases dotted v B x<;>rfl
set_option tactic.hygienic true
def UI(h:SX 1 E r=U (C,kd,x))(B:Lj x l=U (g,kd',J))(D:find x l≠AB):
  bS (E++[l]) (λy=>C (g (.table kd' y))):=by
 intro F v y;unfold putAt;rw[AD (!2)];obtain⟨L,e1,e2⟩:=MF h (g (.table kd' y));rw[Md _ l E 1,e1];show 3;obtain⟨M,e3,e4⟩:=RE B y;have G:find (g (.table kd' y)) l≠AB:=by
  unfold Lj at B;split at B
  .rename_i e;exact absurd e D
  .split at B
   .cases B
   cases B;rw[JD _ _ D];simp
  .split at B
   .cases B;rw[JD _ _ D];simp
   cases B
  cases B
 generalize O:g (.table kd' y)=R at*;unfold Lj at e3;cases e:find R l with
 |none=>exact absurd e G
 |some u=>
  rw[e]at e3;cases u with
  |table k1 I=>
   dsimp only at e3⊢;split at e3
   .cases e3
   cases e3;cases dotted v F y with
   |none=>rfl
   |some z=>
    simp only[Bq];rw[e2];have:=e4 (.table kd' z);dsimp only at this;rw[this]
  |array b m=>
   cases b with
   |false=>cases e3
   |true=>
    dsimp only at e3⊢;cases e5:m.getLast? with
    |none=>show 6 e5 e3
    |some w=>
     rw[e5]at e3;cases w with
     |table k1 I=>
      dsimp only at e3⊢;cases e3;cases dotted v F y with
      |none=>rfl
      |some z=>
       simp only[Bq];rw[e2];have:=e4 (.table kd' z);dsimp only at this;rw[this]
     |_=>cases e3
  |_=>cases e3
def cU: ∀{t:Text}{x:Text×Text},ml q t=U x->x.2.length<t.length:=by
 intro t;generalize hn:t.length=n
 induction n using BV generalizing t with
 |_ n B=>
  subst hn;intro x h;cases t with
  |nil=>show 6 gO h
  |cons c r=>
   rw[Qi]at h;split at h
   .split at h
    .cases h;rw[AS,AN]
     nofun
    cases h
   split at h
   .have:=Km r;have:=B (gp r).length (by simp;nofun) rfl h;simp
    nofun
   cases e:eol (c::r)with
   |some s=>
    rw[e]at h;dsimp only at h;have D:=KC e;cases e2:ml q s with
    |none=>show 6 e2 h
    |some y=>
     show 6 e2 h;have:=B s.length D rfl e2;show 4
     nofun
   |none=>
    rw[e]at h;dsimp only at h;cases e2:wi q (c::r)with
    |none=>show 6 e2 h
    |some y=>
     have D:=J3 e2;rw[e2]at h;replace h:(ml q y.2).map (λz=>(y.1++z.1,z.2))=U x:=h;cases e3:ml q y.2 with
     |none=>show 6 e3 h
     |some z=>
      show 6 e3 h;have:=B y.2.length D rfl e3;show 4
      nofun
def Lk(h:quoted t=U x):x.2.length<t.length:=by
 cases t with
 |nil=>cases h
 |cons c r=>
  by_cases B:c=34\/c=39
  .rw[RG c r B]at h;split at h
   .have:=cU h;rw[AS,AS]at this;simp
    lia
   have:=Ve h;simp
   lia
  unfold quoted at h;dsimp only at h;rw[AI (!3)]at h;cases h
def K1(h:bareNext t=U x):x.2.length<t.length:=by
 unfold bareNext at h;dsimp only at h;rw[Ir]at h;have D:=congrArg A5 (A1 (p:=λc=>!stops c) (l:=t));rw[AG]at D;by_cases q:isDay (t.takeWhile λc=>!stops c)=AF/\(t.dropWhile λc=>!stops c).head?=U 32/\(((t.dropWhile λc=>!stops c).drop 1).takeWhile λc=>!stops c).head?.any isDigit=AF
 .rw[AI q]at h;cases e:bare (t.takeWhile (λc=>!stops c)++32::((t.dropWhile λc=>!stops c).drop 1).takeWhile λc=>!stops c)with
  |none=>show 6 e h
  |some v=>
   show 6 e h;show 4;rw[AS];have:0<(t.dropWhile λc=>!stops c).length:=by
    cases e2:t.dropWhile λc=>!stops c with
    |nil=>rw[e2]at q;simp at q
    |cons a b=>simp
   omega
 rw[AD q]at h;split at h
 .cases h
 rename_i B;cases e:bare (t.takeWhile λc=>!stops c)with
 |none=>show 6 e h
 |some v=>
  show 6 e h;show 4;have:0<(t.takeWhile λc=>!stops c).length:=by
   cases e2:t.takeWhile λc=>!stops c with
   |nil=>rw[e2]at B;simp at B
   |cons a b=>simp
  omega
def JG(f d:Nat)(c:Nat)(r:Text):value (f+1) d (c::r)=
 if c=34\/c=39 then(quoted (c::r)).map λx=>(.str x.1,x.2)
 else if c=91 then(if d=0 then AB else(elements f (d-1) r).map λx=>(.array AJ x.1,x.2))
 else if c=123 then(if d=0 then AB else match blank r with
  |125::s=>U (.table 3 [],s)
  |s=>(pairs f (d-1) [] s).map λx=>(.table 3 x.1,x.2))
 else bareNext (c::r):=by dsimp only[value];rfl
def Q9(f d:Nat):value f d []=AB:=by cases f<;>dsimp only[value]
def nH(f d:Nat)(s:Text):Option (List Value×Text):=match s with
 |93::r=>U ([],r)
 |_=>(value f d s).bind λx=>(sp x.2).bind λu=>match u with
  |44::r=>(elements f d r).map λy=>(x.1::y.1,y.2)
  |93::r=>U ([x.1],r)
  |_=>AB
def W8(f d:Nat)(r:Text):nH f d (93::r)=U ([],r):=rfl
def NM{f d:Nat}{s:Text}(h: ∀r,s≠93::r):nH f d s=(value f d s).bind λx=>(sp x.2).bind λu=>match u with
  |44::r=>(elements f d r).map λy=>(x.1::y.1,y.2)
  |93::r=>U ([x.1],r)
  |_=>AB:=by
 unfold nH;split
 .rename_i r;exact absurd rfl (h r)
 rfl
def pr(f d:Nat)(rows:Rows)(t:Text):Option (Rows×Text):=(ky t).bind λk=>match k.2 with
 |61::r=>(value f d (blank r)).bind λx=>(dotted x.1 k.1 rows).map λrows=>(rows,x.2)
 |_=>AB
noncomputable def mX(f d:Nat)(rows:Rows)(t:Text):Option (Rows×Text):=match t with
 |44::s=>pairs f d rows (blank s)
 |125::s=>U (rows,s)
 |_=>AB
noncomputable def PVF(F:Nat):Prop:= ∀d t y,value F d t=U y->y.2.length<t.length/\ ∀f,t.length-y.2.length<=f->value f d t=U y
noncomputable def PEF(F:Nat):Prop:= ∀d t y,elements F d t=U y->y.2.length<t.length/\ ∀f,t.length-y.2.length<=f->elements f d t=U y
noncomputable def PPF(F:Nat):Prop:= ∀d rows t y,pairs F d rows t=U y->y.2.length<t.length/\ ∀f,t.length-y.2.length<=f->pairs f d rows t=U y
def Ll(d:Nat)(t:Text):elements 0 d t=AB:=by dsimp only[elements]
def MS(f d:Nat)(t:Text):elements (f+1) d t=(space (t.length+1) t).bind λs=>match s with
 |93::r=>U ([],r)
 |_=>(value f d s).bind λx=>(space (t.length+1) x.2).bind λu=>match u with
  |44::r=>(elements f d r).map λy=>(x.1::y.1,y.2)
  |93::r=>U ([x.1],r)
  |_=>AB:=by dsimp only[elements];rfl
def QA(d:Nat)(rows:Rows)(t:Text):pairs 0 d rows t=AB:=by dsimp only[pairs]
def MK(f d:Nat)(rows:Rows)(t:Text):pairs (f+1) d rows t=(pr f d rows t).bind λx=>mX f d x.1 (blank x.2):=by
 dsimp only[pairs];unfold pr;show(ky t).bind _=_;cases ky t with
 |none=>rfl
 |some k=>
  show 3;by_cases B: ∃r,k.2=61::r
  .obtain⟨r,hr⟩:=B;rw[hr];simp only;cases value f d (blank r)with
   |none=>rfl
   |some x=>
    show 3;cases dotted x.1 k.1 rows with
    |none=>rfl
    |some D=>rfl
  split
  .rename_i r q;exact absurd ⟨r,q⟩ B
  split
  .rename_i r q;exact absurd ⟨r,q⟩ B
  rfl
def U2(e:sp t=AB):elements (f+1) d t=AB:=by
 rw[MS];show(sp t).bind _=_;rw[e];rfl
def Rv(e:sp t=U s)(hx: ∀x,value f d s=U x->x.2.length<=t.length):elements (f+1) d t=nH f d s:=by
 rw[MS];show(sp t).bind _=_;rw[e];show 3;unfold nH;split
 .rfl
 cases e2:value f d s with
 |none=>rfl
 |some x=>
  show 3;have B:=hx x e2;rw[fD (!5)]
def Ru(f d:Nat)(t:Text)(B:PVF f):elements (f+1) d t=(sp t).bind (nH f d):=by
 cases e:sp t with
 |none=>exact U2 e
 |some s=>
  refine Rv e λx hx=>?_;have D:=(B d s x hx).1;have E:=LR e
  lia
theorem fuel: ∀F,PVF F/\PEF F/\PPF F
 |0=>⟨λd t y h=>by(dsimp only[value]at h;cases h),λd t y h=>by(show 6 Ll h),λd rows t y h=>by(show 6 QA h)⟩
 |F+1=>by
  obtain⟨Z,hE,hP⟩:=fuel F;refine⟨λd t y h=>?_,λd t y h=>?_,λd rows t y h=>?_⟩
  .cases t with
   |nil=>show 6 Q9 h
   |cons c r=>
    rw[JG]at h;have S:(c::r).length=r.length+1:=rfl;by_cases D:c=34\/c=39
    .rw[AI D]at h;cases e:quoted (c::r)with
     |none=>show 6 e h
     |some x=>
      have hq:=Lk e;show 6 e h;refine⟨hq,λf B=>?_⟩;dsimp only at B;obtain⟨g,rfl⟩: ∃g,f=g+1:=⟨f-1,!4⟩;rw[JG,AI D,e];rfl
    rw[AD D]at h;by_cases I:c=91
    .rw[AI I]at h;by_cases hd:d=0
     .rw[AI hd]at h;cases h
     rw[AD hd]at h;cases e:elements F (d-1) r with
     |none=>show 6 e h
     |some x=>
      show 6 e h;obtain⟨k1,k2⟩:=hE _ _ _ e;refine⟨by show 4;omega,λf B=>?_⟩;dsimp only at B;obtain⟨g,rfl⟩: ∃g,f=g+1:=⟨f-1,!4⟩;rw[JG,AD D,AI I,AD hd,k2 g (!4)];rfl
    rw[AD I]at h;by_cases J:c=123
    .rw[AI J]at h;by_cases hd:d=0
     .rw[AI hd]at h;cases h
     rw[AD hd]at h;have hb:=IE r;by_cases h4: ∃s,blank r=125::s
     .obtain⟨s,hs⟩:=h4;show 6 hs h;have:(blank r).length=s.length+1:=by rw[hs];rfl
      refine⟨by show 4;omega,λf B=>?_⟩;dsimp only at B;obtain⟨g,rfl⟩: ∃g,f=g+1:=⟨f-1,!4⟩;rw[JG,AD D,AD I,AI J,AD hd,hs];rfl
     have hm: ∀G,(match blank r with
       |125::s=>U (Ed 3 [],s)
       |s=>(pairs G (d-1) [] s).map λx=>(Ed 3 x.1,x.2))=(pairs G (d-1) [] (blank r)).map λx=>(Ed 3 x.1,x.2):=by
      intro G;split
      .rename_i s e;exact absurd ⟨s,e⟩ h4
      rfl
     rw[hm]at h;cases e:pairs F (d-1) [] (blank r)with
     |none=>show 6 e h
     |some x=>
      show 6 e h;obtain⟨k1,k2⟩:=hP _ _ _ _ e;refine⟨by show 4;omega,λf B=>?_⟩;dsimp only at B;obtain⟨g,rfl⟩: ∃g,f=g+1:=⟨f-1,!4⟩;rw[JG,AD D,AD I,AI J,AD hd,hm,k2 g (!4)];rfl
    rw[AD J]at h;have hb:=K1 h;refine⟨hb,λf B=>?_⟩;obtain⟨g,rfl⟩: ∃g,f=g+1:=⟨f-1,!4⟩;rw[JG,AD D,AD I,AD J];exact h
  .rw[Ru F d t Z]at h;cases e:sp t with
   |none=>show 6 e h
   |some s=>
    have hs:=LR e;show 5 e h;by_cases D: ∃r,s=93::r
    .obtain⟨r,rfl⟩:=D;show 6 W8 h;have S:(93::r).length=r.length+1:=rfl;refine⟨by show 4;omega,λf B=>?_⟩;dsimp only at B;obtain⟨g,rfl⟩: ∃g,f=g+1:=⟨f-1,!4⟩;rw[MS];show(sp t).bind _=_;rw[e];rfl
    have L: ∀r,s≠93::r:=λr z=>D ⟨r,z⟩;rw[NM L]at h;cases e2:value F d s with
    |none=>show 6 e2 h
    |some x=>
     obtain⟨v1,M⟩:=Z _ _ _ e2;show 5 e2 h;cases e3:sp x.2 with
     |none=>show 6 e3 h
     |some u=>
      have hu:=LR e3;show 5 e3 h;have fin: ∀f,(∃g,f=g+1/\value g d s=U x/\(match u with
        |44::r=>(elements g d r).map λy=>(x.1::y.1,y.2)
        |93::r=>U ([x.1],r)
        |_=>AB)=U y)->elements f d t=U y:=by
       rintro f ⟨g,rfl,Y,w2⟩;rw[Rv e (λx' O=>by show 6 Y O;omega),NM L,Y];show 3;rw[e3];show 3;exact w2
      split at h
      .rename_i r;have S:(44::r).length=r.length+1:=rfl;cases e4:elements F d r with
       |none=>show 6 e4 h
       |some z=>
        obtain⟨z1,z2⟩:=hE _ _ _ e4;show 6 e4 h;refine⟨by show 4;omega,λf B=>fin f ⟨f-1,by dsimp only at B;omega,M _ (by dsimp only at B;omega),?_⟩⟩;dsimp only at B;show(elements (f-1) d r).map _=_;rw[z2 (f-1) (!4)];rfl
      .rename_i r;have S:(93::r).length=r.length+1:=rfl;cases h;refine⟨by show 4;omega,λf B=>fin f ⟨f-1,by dsimp only at B;omega,M _ (by dsimp only at B;omega),rfl⟩⟩
      cases h
  rw[MK]at h;unfold pr at h;cases e:ky t with
  |none=>show 6 e h
  |some k=>
   have hk:=LJ e;show 5 e h;by_cases D: ∃r,k.2=61::r
   .obtain⟨r,hr⟩:=D;have S:k.2.length=r.length+1:=by rw[hr];rfl
    have hb:=IE r;rw[hr]at h;simp only at h;cases e2:value F d (blank r)with
    |none=>show 6 e2 h
    |some x=>
     obtain⟨v1,M⟩:=Z _ _ _ e2;have hbx:=IE x.2;show 5 e2 h;cases e3:dotted x.1 k.1 rows with
     |none=>show 6 e3 h
     |some E=>
      rw[e3]at h;simp only[Bq,AE]at h;have fin: ∀f,(∃g,f=g+1/\value g d (blank r)=U x/\mX g d E (blank x.2)=U y)->pairs f d rows t=U y:=by
       rintro f ⟨g,rfl,Y,w2⟩;rw[MK];unfold pr;rw[e];show 3;rw[hr];simp only;rw[Y];show 3;rw[e3];simp only[Bq,AE];exact w2
      unfold mX at h;split at h
      .rename_i s hs;have tR:(blank x.2).length=s.length+1:=by rw[hs];rfl
       have hbs:=IE s;obtain⟨z1,z2⟩:=hP _ _ _ _ h;refine⟨!4,λf B=>fin f ⟨f-1,!4,M _ (!4),?_⟩⟩;rw[hs];unfold mX;exact z2 _ (!4)
      .rename_i s hs;have tR:(blank x.2).length=s.length+1:=by rw[hs];rfl
       cases h;refine⟨by show 4;omega,λf B=>fin f ⟨f-1,by dsimp only at B;omega,M _ (by dsimp only at B;omega),?_⟩⟩;rw[hs];rfl
      cases h
   split at h
   .rename_i r q;exact absurd ⟨r,q⟩ D
   cases h
set_option tactic.hygienic false
def RA(h:value F d t=U y):y.2.length<t.length:=((fuel F).1 d t y h).1
def OO(h:value F d t=U y)(B:t.length<=f):value f d t=U y:=((fuel F).1 d t y h).2 f (!4)
def bV(h:value F d t=U y)(B:value G d t=U z):y=z:=by
 have a:=OO h (AR _);have b:=OO B (AR _);rw[a]at b;exact BU b
def Lv(f d:Nat)(t:Text):elements (f+1) d t=(sp t).bind (nH f d):=Ru f d t (fuel f).1
structure Wt where
 lf:Value->Nat
 kw:Text->Nat
 c0:Nat
 c1:Nat
mutual
noncomputable def wV(P:Wt):Value->Nat
 |.array _ l=>P.c0+wL P l
 |.table _ r=>P.c0+wR P r
 |.str t=>P.lf (.str t)
 |.int z=>P.lf (.int z)
 |.dec b m e=>P.lf (.dec b m e)
 |.odd k=>P.lf (.odd k)
 |.bool b=>P.lf (.bool b)
 |.time t=>P.lf (.time t)
noncomputable def wL(P:Wt):List Value->Nat
 |[]=>0
 |v::l=>wV P v+P.c1+wL P l
noncomputable def wR(P:Wt):List (Text×Value)->Nat
 |[]=>0
 |x::r=>wX P x+wR P r
noncomputable def wX(P:Wt):Text×Value->Nat
 |(k,v)=>P.kw k+wV P v+P.c1
end
mutual
noncomputable def PM(p:Text->Prop):Value->Prop
 |.array _ l=>Us p l
 |.table _ r=>(r.map (·.1)).Nodup/\Ur p r
 |.str _=>True
 |.int _=>True
 |.dec _ _ _=>True
 |.odd _=>True
 |.bool _=>True
 |.time _=>True
noncomputable def Us(p:Text->Prop):List Value->Prop
 |[]=>True
 |v::l=>PM p v/\Us p l
noncomputable def Ur(p:Text->Prop):List (Text×Value)->Prop
 |[]=>True
 |x::r=>sI p x/\Ur p r
noncomputable def sI(p:Text->Prop):Text×Value->Prop
 |(k,v)=>p k/\PM p v
end
variable{P:Wt}{p:Text->Prop}
theorem M4: ∀(r s:Rows),wR P (r++s)=wR P r+wR P s
 |[],s=>by rw[A6,wR,Dd]
 |x::r,s=>by rw[Az,wR,wR,M4 r s,AAC]
theorem M5: ∀(r s:List Value),wL P (r++s)=wL P r+wL P s
 |[],s=>by rw[A6,wL,Dd]
 |x::r,s=>by rw[Az,wL,wL,M5 r s];lia
theorem Tb: ∀{r s:Rows},Ur p (r++s)↔Ur p r/\Ur p s
 |[],s=>by rw[A6];simp[Ur]
 |x::r,s=>by rw[Az,Ur,Ur,Tb,and_assoc]
theorem Nh: ∀{r s:List Value},Us p (r++s)↔Us p r/\Us p s
 |[],s=>by rw[A6];simp[Us]
 |x::r,s=>by rw[Az,Us,Us,Nh,and_assoc]
def WD(k:Text)(v:Value):wR P [(k,v)]=P.kw k+wV P v+P.c1:=by rw[wR,wX,wR,E1]
def Q8(v:Value):wL P [v]=wV P v+P.c1:=by rw[wL,wL,E1]
def kT(k:Text)(v:Value):Ur p [(k,v)]↔p k/\PM p v:=by rw[Ur,sI,Ur];simp
def Qb(v:Value):Us p [v]↔PM p v:=by rw[Us,Us];simp
noncomputable def OK(p:Text->Prop)(r:Rows):Prop:=(r.map (·.1)).Nodup/\Ur p r
def JI(k:Nat)(r:Rows):PM p (.table k r)↔OK p r:=by dsimp only[PM];rfl
def LX(b:Bool)(l:List Value):PM p (.array b l)↔Us p l:=by rw[PM]
def Io(k:Nat)(r:Rows):wV P (.table k r)=P.c0+wR P r:=by dsimp only[wV]
def J5(b:Bool)(l:List Value):wV P (.array b l)=P.c0+wL P l:=by dsimp only[wV]
def OK.nil:OK p []:=⟨HZ,by rw[Ur];trivial⟩
theorem Ky: ∀{r:Rows}{k:Text},find r k=AB↔k∉r.map (·.1)
 |[],k=>by simp[iL]
 |x::r,k=>by
  rw[J4];by_cases h:x.1=k
  .rw[AI h];simp[h]
  rw[AD h,Ky];simp;intro _ e;exact h e.symm
def OK.snoc(h:OK p r)(D:find r k=AB)(E:p k)(F:PM p v):OK p (r++[(k,v)]):=by
 refine⟨?_,Tb.2 ⟨h.2,(kT k v).2 ⟨E,F⟩⟩⟩;rw[A8,A2];refine⟨h.1,!2,?_⟩;intro a ha b B e;simp at B;subst e;subst B;exact Ky.1 D ha
def QV(r:Rows)(k:Text)(v:Value):(replace r k v).map (·.1)=r.map (·.1):=by
 induction r with
 |nil=>rfl
 |cons x r B=>
  rw[JA,Av,Av,B];by_cases h:x.1=k
  .rw[AI h,h]
  rw[AD h]
theorem Ng: ∀{r:Rows}{k:Text}{u:Value},Ur p r->find r k=U u->p k/\PM p u
 |[],k,u,_,h=>by cases h
 |x::r,k,u,B,h=>by
  dsimp only[Ur]at B;rw[J4]at h;by_cases q:x.1=k
  .rw[AI q]at h;cases h;have:=B.1;obtain⟨a,b⟩:=x;rw[sI]at this;rw[<-q];exact this
  rw[AD q]at h;exact Ng B.2 h
theorem Rl: ∀{r:Rows}{k:Text}{v:Value},Ur p r->p k->PM p v->Ur p (replace r k v)
 |[],k,v,h,_,_=>h
 |x::r,k,v,h,B,D=>by
  dsimp only[Ur]at h;rw[JA,Ur];refine⟨?_,Rl h.2 B D⟩;by_cases q:x.1=k
  .rw[AI q,sI];exact⟨B,D⟩
  rw[AD q];exact h.1
def OK.replace(h:OK p r)(B:find r k=U u)(D:PM p v):OK p (replace r k v):=by
 refine⟨by rw[QV];exact h.1,Rl h.2 (Ng h.2 B).1 D⟩
theorem MG: ∀{r:Rows}{k:Text}{u:Value}(v:Value),(r.map (·.1)).Nodup->find r k=U u->wR P (replace r k v)+wV P u=wR P r+wV P v
 |[],k,u,v,_,h=>by cases h
 |x::r,k,u,v,hn,h=>by
  rw[J4]at h;rw[JA,wR,wR];rw[Av,BP]at hn;by_cases q:x.1=k
  .rw[AI q]at h;cases h;rw[AI q,L6 (Ky.2 (q▸hn.1))];obtain⟨a,b⟩:=x;rw[wX,wX];dsimp only at q⊢;rw[q]
   nofun
  rw[AD q]at h;rw[AD q];have:=MG v hn.2 h
  nofun
def O4(h:find r k=U u):wV P u<=wR P r:=by
 induction r with
 |nil=>cases h
 |cons x r B=>
  rw[J4]at h;rw[wR];by_cases q:x.1=k
  .rw[AI q]at h;cases h;obtain⟨a,b⟩:=x;rw[wX];show 4
   lia
  rw[AD q]at h;have:=B h
  lia
def QC{v:Value}(h:l.getLast?=U v):l=l.dropLast++[v]:=by
 have B:l≠ []:=by rintro rfl;cases h
 rw[List.getLast?_eq_some_getLast B]at h;cases h;exact(Bb B).symm
noncomputable def co(P:Wt)(B:List Text):Nat:=(B.map λk=>P.kw k+P.c0+P.c1).sum
def Mn(k:Text)(B:List Text):co P (k::B)=P.kw k+P.c0+P.c1+co P B:=by unfold co;rw[Av,EZ]
def NO(a b:List Text):co P (a++b)=co P a+co P b:=by unfold co;rw[A8,HE]
noncomputable def Lin(P:Wt)(g:Value->Rows)(n:Nat):Prop:= ∀v,wR P (g v)=n+wV P v
set_option tactic.hygienic true
def Xf(G:p k)(B:OK p r)(h:Lj r k=U (g,kd,x)):
  OK p x/\(∀v,PM p v->OK p (g v))/\ ∃n,Lin P g n/\n+wR P x<=wR P r+P.kw k+P.c1/\(find r k≠AB->n+wV P (.table kd x)<=wR P r):=by
 unfold Lj at h;split at h
 .rename_i e;cases h;refine⟨OK.nil,λv E=>B.snoc e G E,wR P r+P.kw k+P.c1,λv=>?_,by dsimp only[wR];nofun,λz=>absurd e z⟩;rw[M4,WD]
  nofun
 .rename_i kd' I e;split at h
  .cases h
  cases h;have D:=(Ng B.2 e).2;rw[JI]at D;have F:=O4 (P:=P) e;rw[Io]at F;refine⟨D,λv E=>B.replace e E,wR P r-wV P (.table kd x),λv=>?_,?_,λy=>?_⟩
  .have:=MG (P:=P) v B.1 e;have:=Io (P:=P) kd x;show 4
   nofun
  .rw[Io];nofun
  have:=Io (P:=P) kd x
  nofun
 .rename_i l e;split at h
  .rename_i kd' I e2;cases h;have D:=(Ng B.2 e).2;rw[LX,QC e2,Nh,Qb]at D;have F:=O4 (P:=P) e;have J:=J5 (P:=P) AF l;rw[QC e2,M5,Q8,<-QC e2]at J;have M:=Io (P:=P) kd x;refine⟨(JI _ _).1 D.2,λv E=>B.replace e ?_,wR P r-wV P (.table kd x),λv=>?_,!5,λy=>by nofun⟩
   .rw[LX,Nh,Qb];exact⟨D.1,E⟩
   have O:=MG (P:=P) (.array AF (l.dropLast++[v])) B.1 e;have L:=J5 (P:=P) AF (l.dropLast++[v]);rw[M5,Q8]at L;show 4
   nofun
  cases h
 cases h
theorem Rr: ∀{B:List Text}{kd:Nat}{r:Rows}{C:Rows->Rows}{kd':Nat}{x:Rows},(∀k∈B,p k)->OK p r->SX kd B r=U (C,kd',x)→
  OK p x/\(∀y,OK p y->OK p (C y))/\ ∃n,(∀y,wR P (C y)=n+wR P y)/\n+wR P x<=wR P r+co P B
 |[],kd,r,C,kd',x,_,D,h=>by
  cases h;refine⟨D,λy E=>E,0,λy=>(Dd _).symm,?_⟩
  lia
 |k::B,kd,r,C,kd',x,F,D,h=>by
  dsimp only[SX]at h;cases e:Lj r k with
  |none=>show 6 e h
  |some s=>
   show 5 e h;cases e2:SX s.2.1 B s.2.2 with
   |none=>show 6 e2 h
   |some z=>
    obtain⟨zC,zk,zx⟩:=z;show 6 e2 h;obtain⟨g,sk,sx⟩:=s;obtain⟨G,I,J,L,a4,a5⟩:=Xf (P:=P) (F k (BA ..)) D e;obtain⟨M,O,S,Y,b4⟩:=Rr (λj Z=>F j (Au _ Z)) G e2;refine⟨M,λy E=>I _ ((JI _ _).2 (O y E)),J+P.c0+S,λy=>?_,?_⟩
    .rw[L,Io,Y]
     lia
    rw[Mn]
    lia
theorem m6: ∀{B:List Text}{r:Rows}{C:Rows->Rows}{x:Rows},(∀k∈B,p k)->OK p r->eK B r=U (C,x)→
  OK p x/\(∀y,OK p y->OK p (C y))/\ ∃n,(∀y,wR P (C y)=n+wR P y)/\n+wR P x<=wR P r+co P B
 |[],r,C,x,_,D,h=>by
  cases h;exact⟨D,λy E=>E,0,λy=>(Dd _).symm,!3⟩
 |k::B,r,C,x,F,D,h=>by
  dsimp only[eK]at h;cases e:Qu r k with
  |none=>show 6 e h
  |some s=>
   show 5 e h;cases e2:eK B s.2 with
   |none=>show 6 e2 h
   |some z=>
    obtain⟨zC,zx⟩:=z;show 6 e2 h;obtain⟨g,G⟩:=s;have I:Lj r k=U (g,(if find r k=AB then 0 else 2),G):=by
     unfold Qu at e;unfold Lj;split at e
     .rename_i q;rw[q];cases e;rfl
     .rename_i kd x q;rw[q];split at e
      .rename_i J;cases e;subst J;rfl
      cases e
     cases e
    obtain⟨L,M,O,S,a4,a5⟩:=Xf (P:=P) (F k (BA ..)) D I;obtain⟨Y,Z,n2,b3,b4⟩:=m6 (λj hj=>F j (Au _ hj)) L e2;refine⟨Y,λy E=>M _ ((JI _ _).2 (Z y E)),O+P.c0+n2,λy=>?_,?_⟩
    .rw[S,Io,b3]
     lia
    rw[Mn];show 4
    lia
def K8{α:Type}: ∀{l:List α},l≠ []-> ∃i z,l=i++[z]:=λ{l} h=>⟨l.dropLast,l.getLast h,(Bb h).symm⟩
def YU(E: ∀k∈B,p k)(G:OK p r)(I:PM p v)(h:dotted v B r=U F):OK p F/\wR P F+P.c0<=wR P r+wV P v+co P B:=by
 have D:B≠ []:=by rintro rfl;cases h
 obtain⟨i,z,rfl⟩:=K8 D;rw[PQ]at h;cases e:eK i r with
 |none=>show 6 e h
 |some y=>
  obtain⟨C,x⟩:=y;show 5 e h;obtain⟨J,L,n,M,S⟩:=m6 (P:=P) (λj O=>E j (Bl _ O)) G e;rw[UN]at h;split at h
  .rename_i q;cases h;refine⟨L _ (J.snoc q (E z (!2)) I),?_⟩;rw[M,M4,WD,NO,Mn]
   lia
  cases h
def ZX(F: ∀k∈D,p k)(M:OK p r)(h:walk newTable D r=U G):OK p G/\wR P G<=wR P r+co P D:=by
 have E:D≠ []:=by rintro rfl;cases h
 obtain⟨i,z,rfl⟩:=K8 E;rw[Md _ _ _ 1]at h;cases e:SX 1 i r with
 |none=>show 6 e h
 |some y=>
  obtain⟨C,kd,x⟩:=y;show 5 e h;obtain⟨B,I,n,J,Z⟩:=Rr (P:=P) (λj O=>F j (Bl _ O)) M e;have S:=F z (!2);unfold newTable at h;split at h
  .rename_i q;cases h;refine⟨I _ (B.snoc q S ((JI _ _).2 OK.nil)),?_⟩;rw[J,M4,WD,NO,Mn,Io,wR]
   lia
  .rename_i k2 Y q;split at h
   .cases h;have L:=(Ng B.2 q).2;rw[JI]at L;refine⟨I _ (B.replace q ((JI _ _).2 L)),?_⟩;have:=MG (P:=P) (.table 1 Y) B.1 q;rw[Io,Io]at this;rw[J,NO]
    lia
   cases h
  cases h
def Wk(F: ∀k∈D,p k)(O:OK p r)(h:walk newElement D r=U G):OK p G/\wR P G<=wR P r+co P D+(P.c0+P.c1):=by
 have E:D≠ []:=by rintro rfl;cases h
 obtain⟨i,z,rfl⟩:=K8 E;rw[Md _ _ _ 1]at h;cases e:SX 1 i r with
 |none=>show 6 e h
 |some y=>
  obtain⟨C,kd,x⟩:=y;show 5 e h;obtain⟨B,I,n,J,Z⟩:=Rr (P:=P) (λj S=>F j (Bl _ S)) O e;have Y:=F z (!2);have L:PM p (.table 1 []):=(JI _ _).2 OK.nil;unfold newElement at h;split at h
  .rename_i q;cases h;refine⟨I _ (B.snoc q Y ((LX _ _).2 ((Qb _).2 L))),?_⟩;rw[J,M4,WD,NO,Mn,J5,Q8,Io,wR]
   lia
  .rename_i l q;cases h;have M:=(Ng B.2 q).2;rw[LX]at M;refine⟨I _ (B.replace q ((LX _ _).2 (Nh.2 ⟨M,(Qb _).2 L⟩))),?_⟩;have:=MG (P:=P) (.array AF (l++[.table 1 []])) B.1 q;rw[J5,J5,M5,Q8,Io,wR]at this;rw[J,NO,Mn]
   lia
  cases h
inductive Gd:Text->Prop
 |nil:Gd []
 |cons (n:Nat)(t:Text):isScalar n=AF->Gd t->Gd (utf8 n++t)
def K7(h:isScalar n=AF):n<1114112:=by
 unfold isScalar at h;have:=D6 h;omega
def VP(h:n<1114112):(n<128/\utf8 n=[n])\/(128<=n/\ ∃c l,utf8 n=c::l/\194<=c/\c<245/\l≠ []/\ ∀x∈l,128<=x/\x<192):=by
 unfold utf8;by_cases B:n<128
 .rw[AI B];exact .inl ⟨B,rfl⟩
 rw[AD B];refine .inr ⟨!3,?_⟩;by_cases D:n<2048
 .rw[AI D];refine⟨_,_,rfl,!3,!3,!2,?_⟩;intro x hx;simp at hx
  lia
 rw[AD D];by_cases E:n<65536
 .rw[AI E];refine⟨_,_,rfl,!3,!3,!2,?_⟩;intro x hx;simp at hx
  lia
 rw[AD E];refine⟨_,_,rfl,!3,!3,!2,?_⟩;intro x hx;simp at hx
 lia
def QN(n:Nat):utf8 n≠ []:=by unfold utf8;split;simp;split;simp;split<;>simp
def utf8_ascii(h:n<128):utf8 n=[n]:=by unfold utf8;rw[AI h]
def Nb(h:n<128):isScalar n=AF:=by unfold isScalar;exact Af (!4)
def NK(B:c<128)(h:Gd t):Gd (c::t):=by
 have:=Gd.cons c t (Nb B) h;rw[utf8_ascii B]at this;exact this
def lE(h:isScalar n=AF):Gd (utf8 n):=by
 have:=Gd.cons n [] h .nil;rw[An]at this;exact this
def Gd.append(ha:Gd a)(B:Gd b):Gd (a++b):=by
 induction ha with
 |nil=>exact B
 |cons n t h _ D=>rw[Ah];exact Gd.cons n _ h D
def XY(hn:n<1114112)(hm:m<1114112)(h:utf8 n++a=utf8 m++b):n=m/\a=b:=by
 unfold utf8 at h;by_cases E:n<128
 .rw[AI E]at h;by_cases m1:m<128
  .rw[AI m1]at h;simp at h;exact h
  rw[AD m1]at h;exfalso;split at h
  .simp at h;nofun
  split at h
  .simp at h;nofun
  simp at h;nofun
 rw[AD E]at h;by_cases m1:m<128
 .rw[AI m1]at h;exfalso;split at h
  .simp at h;nofun
  split at h
  .simp at h;nofun
  simp at h;nofun
 rw[AD m1]at h;by_cases F:n<2048
 .rw[AI F]at h;by_cases B:m<2048
  .rw[AI B]at h;simp at h;exact⟨!5,h.2.2⟩
  rw[AD B]at h;exfalso;split at h
  .simp at h;nofun
  simp at h;nofun
 rw[AD F]at h;by_cases B:m<2048
 .rw[AI B]at h;exfalso;split at h
  .simp at h;nofun
  simp at h;nofun
 rw[AD B]at h;by_cases G:n<65536
 .rw[AI G]at h;by_cases D:m<65536
  .rw[AI D]at h;simp at h;exact⟨!5,h.2.2.2⟩
  rw[AD D]at h;exfalso;simp at h;nofun
 rw[AD G]at h;by_cases D:m<65536
 .rw[AI D]at h;exfalso;simp at h;nofun
 rw[AD D]at h;simp at h;exact⟨!5,h.2.2.2.2⟩
def dE(hn:isScalar n=AF)(h:Gd (utf8 n++t)):Gd t:=by
 generalize e:utf8 n++t=x at h;cases h with
 |nil=>exact absurd (EI.1 e).1 (QN n)
 |cons m s hm hs=>
  have:=(XY (K7 hn) (K7 hm) e).2;rw[this];exact hs
def iH(hn:isScalar n=AF): ∀{x:Text},Gd x-> ∀{a:Text},x=a++(utf8 n++b)->Gd a/\Gd b:=by
 intro x hx
 induction hx with
 |nil=>
  intro a e;have:=(EI.1 e.symm).2;exact absurd (EI.1 this).1 (QN n)
 |cons m s hm hs I=>
  intro a e;cases a with
  |nil=>
   rw[A6]at e;obtain⟨_,e2⟩:=XY (K7 hm) (K7 hn) e;exact⟨.nil,e2▸hs⟩
  |cons O S=>
   obtain⟨J,D⟩|⟨J,c,l,D,Y,Z,h5,L⟩:=VP (K7 hm)
   .rw[D]at e;rw[Az,Az,A6]at e;injection e with e1 e2
    obtain⟨G,E⟩:=I e2;subst e1;exact⟨NK J G,E⟩
   rw[D,Az,Az]at e;injection e with e1 e2
   obtain⟨z,F,B⟩|⟨z,F,B⟩:=List.append_eq_append_iff.1 e2
   .
    obtain⟨G,E⟩:=I B;refine⟨?_,E⟩;rw[F,<-e1,<-Az,<-D];exact Gd.cons m z hm G
   .
    cases z with
    |nil=>
     rw[An]at F;rw[A6]at B;obtain⟨G,E⟩:=I (a:=[]) B.symm;refine⟨?_,E⟩;rw[<-F,<-e1,<-D];exact lE hm
    |cons M z'=>
     exfalso;have hz:=L M (by rw[F];simp);obtain⟨k1,k2⟩|⟨k1,d,l',k2,k3,k4,k5,k6⟩:=VP (K7 hn)
     .rw[k2]at B;simp at B
      lia
     rw[k2]at B;simp at B
     lia
def Qs{b:Text}(B:c<128)(h:Gd (a++c::b)):Gd a/\Gd b:=by
 refine iH (n:=c) (Nb B) h ?_
 rw[utf8_ascii B];rfl
def lD{r:Text}(B:c<128)(h:Gd (c::r)):Gd r:=(Qs (a:=[]) B h).2
theorem RQ: ∀{t:Text},(∀x∈t,x<128)->Gd t
 |[],_=>.nil
 |c::r,h=>NK (h c (!2)) (RQ λx hx=>h x (by simp[hx]))
theorem a8: ∀{a b:Text},(∀x∈a,x<128)->Gd (a++b)->Gd b
 |[],b,_,h=>h
 |c::r,b,hx,h=>a8 (λx h'=>hx x (by simp[h'])) (lD (hx c (!2)) h)
def dD(f c:Nat)(r:Text):good (f+1) (c::r)=AF↔ ∃n t,isScalar n=AF∧c::r=utf8 n++t∧good f t=AF:=by
 dsimp only[good]
 constructor
 .intro h
  simp only[AX,Cs,BL]at h
  obtain⟨⟨⟨⟨_,_⟩,F⟩,B⟩,G⟩:=h
  refine⟨_,_,F,?_,G⟩
  rw[B,Az,As]
 rintro⟨n,t,F,B,G⟩
 have hn:=K7 F
 have key: ∀(k m:Nat)(l:Text),r=l++t→l.length=k→k<9→(if c<128 then 0 else if 194≤c∧c<224 then 1 else if 224≤c∧c<240 then 2 else if 240≤c∧c<245 then 3 else 9)=k→utf8 n=c::l→
   (∀x∈l,128≤x∧x<192)→l.foldl (fun n x=>64*n+x%64) (if k=1 then c-192 else if k=2 then c-224 else if k=3 then c-240 else c)=n→
   (let k:=if c<128 then 0 else if 194≤c∧c<224 then 1 else if 224≤c∧c<240 then 2 else if 240≤c∧c<245 then 3 else 9
    let n:=(r.take k).foldl (fun n x=>64*n+x%64) (if k=1 then c-192 else if k=2 then c-224 else if k=3 then c-240 else c)
    decide (k≤r.length∧k<9)&&((r.take k).all fun x=>decide (128≤x∧x<192))&&isScalar n&&utf8 n==c::r.take k&&good f (r.drop k))=AF:=by
  intro k m l e1 e2 e3 e4 e5 e6 e7
  show 4
  rw[e4]
  have M:r.take k=l:=by rw[e1,←e2,F1]
  have hd:r.drop k=t:=by rw[e1,←e2,F4]
  rw[M,hd,e7,F,G,e5]
  have O:k≤r.length:=by rw[e1,AG];nofun
  simp only[Bz,AX,Cs,A7,BL]
  exact⟨⟨⟨O,e3⟩,e6⟩,trivial⟩
 unfold utf8 at B
 have D:utf8 n=utf8 n:=rfl
 conv at D=>rhs;unfold utf8
 by_cases I:n<128
 .rw[AI I]at B D
  injection B with c1 E
  subst c1
  exact key 0 0 [] E rfl (!1) (by rw[AI I]) D (!2) (!2)
 rw[AD I]at B D
 by_cases J:n<2048
 .rw[AI J]at B D
  injection B with c1 E
  subst c1
  exact key 1 0 _ E rfl (!1) (by rw[AD (!5),AI (!5)]) D (by simp;nofun) (by simp;nofun)
 rw[AD J]at B D
 by_cases L:n<65536
 .rw[AI L]at B D
  injection B with c1 E
  subst c1
  exact key 2 0 _ E rfl (!1) (by rw[AD (!5),AD (!5),AI (!5)]) D (by simp;nofun) (by simp;nofun)
 rw[AD L]at B D
 injection B with c1 E
 subst c1
 exact key 3 0 _ E rfl (!1) (by rw[AD (!5),AD (!5),AD (!5),AI (!5)]) D (by simp;nofun) (by simp;nofun)
theorem UA: ∀(f:Nat)(t:Text),t.length<f->(good f t=AF↔Gd t)
 |0,t,h=>absurd h (Eo _)
 |f+1,[],_=>by dsimp only[good];simp;exact .nil
 |f+1,c::r,h=>by
  rw[dD];constructor
  .rintro⟨n,t,D,B,F⟩;rw[B];refine Gd.cons n t D ((UA f t ?_).1 F);have:=congrArg A5 B;rw[AG]at this;have G:0<(utf8 n).length:=CJ.2 (QN n);simp at this h
   lia
  intro E;generalize e:c::r=x at E;cases E with
  |nil=>cases e
  |cons n t D B=>
   refine⟨n,t,D,rfl,(UA f t ?_).2 B⟩;have:=congrArg A5 e;rw[AG]at this;have G:0<(utf8 n).length:=CJ.2 (QN n);simp at this h
   lia
def Qr(t:Text):good (t.length+1) t=AF↔Gd t:=UA _ _ (B1 _)
def dB(h:isHex c=AF):c<128:=by
 unfold isHex isDigit at h;simp at h
 lia
def dN(h:escape t=U x): ∃n e,isScalar n=AF/\x.1=utf8 n/\t=e++x.2/\ ∀y∈e,y<128:=by
 unfold escape at h;cases t with
 |nil=>cases h
 |cons c r=>
  dsimp only at h;have one: ∀m,m<128->c<128-> ∃n e,isScalar n=AF/\ [m]=utf8 n/\c::r=e++r/\ ∀y∈e,y<128:=λm hm E=>
   ⟨m,[c],Nb hm,(utf8_ascii hm).symm,rfl,by simpa using E⟩
  split at h
  .rename_i q;cases h;exact one c (!3) (!3)
  split at h
  .cases h;exact one 8 (!1) (!3)
  split at h
  .cases h;exact one 9 (!1) (!3)
  split at h
  .cases h;exact one 10 (!1) (!3)
  split at h
  .cases h;exact one 12 (!1) (!3)
  split at h
  .cases h;exact one 13 (!1) (!3)
  split at h
  .rename_i q;generalize(if c=117 then 4 else 8)=k at h;split at h
   .rename_i D;cases h;refine⟨_,c::r.take k,D.2.2,rfl,?_,?_⟩
    .rw[Az,As]
    intro y B;obtain rfl|B:=AO.1 B
    .lia
    exact dB (A7.1 D.2.1 y B)
   cases h
  cases h
def eS(h:wi q t=U x):(∃c,t=c::x.2/\x.1=[c])\/ ∃n e,isScalar n=AF/\x.1=utf8 n/\t=92::(e++x.2)/\ ∀y∈e,y<128:=by
 unfold wi at h;cases t with
 |nil=>cases h
 |cons c r=>
  dsimp only at h;split at h
  .rename_i B;obtain⟨n,e,D,E,F,G⟩:=dN h;exact .inr ⟨n,e,D,E,by rw[B.1,F],G⟩
  split at h
  .cases h
  cases h;exact .inl ⟨c,rfl,rfl⟩
def me(G:q<128): ∀{t:Text}{x:Text×Text},ol q t=U x->(∀a,Gd (a++t)->Gd (a++x.1)/\Gd x.2)/\(∀a,Gd (a++x.1)->Gd x.2->Gd (a++t))/\x.2<:+t:=by
 intro t;generalize hn:t.length=n
 induction n using BV generalizing t with
 |_ n O=>
  subst hn;intro x h;cases t with
  |nil=>show 6 Wh h
  |cons c r=>
   rw[PL]at h;split at h
   .rename_i e;cases h;subst e;refine⟨λa g=>?_,λa B D=>?_,Al ..⟩
    .obtain⟨B,D⟩:=Qs G g;rw[An];exact⟨B,D⟩
    rw[An]at B;exact B.append (NK G D)
   cases e2:wi q (c::r)with
   |none=>show 6 e2 h
   |some y=>
    have S:=J3 e2;rw[e2]at h;replace h:(ol q y.2).map (λz=>(y.1++z.1,z.2))=U x:=h;cases e3:ol q y.2 with
    |none=>show 6 e3 h
    |some z=>
     show 6 e3 h;obtain⟨I,J,L⟩:=O y.2.length S rfl e3;obtain⟨d,k1,k2⟩|⟨m,e,k1,k2,k3,M⟩:=eS e2
     .rw[k1,k2];refine⟨λa g=>?_,λa B D=>?_,L.trans (Al ..)⟩
      .have:=I (a++[d]) (by rw[Ah];exact g);rw[Ah]at this;exact this
      have:=J (a++[d]) (by rw[Ah];exact B) D;rw[Ah]at this;exact this
     rw[k3,k2];refine⟨λa g=>?_,λa B D=>?_,L.trans ((GV e y.2).trans (Al ..))⟩
     .obtain⟨B,D⟩:=Qs (!1) g;obtain⟨E,F⟩:=I [] (a8 M D);exact⟨B.append (Gd.cons m _ k1 E),F⟩
     dsimp only at B;obtain⟨E,F⟩:=iH k1 B rfl;exact E.append (NK (!1) ((RQ M).append (J [] F D)))
def Y2(h:isWord c=AF):c<128:=by
 unfold isWord isDigit at h;simp at h
 lia
theorem Mw{α:Type}{q:α->Bool}{x:α}: ∀{l:List α},x∈l.takeWhile q->q x=AF
 |[],h=>by cases h
 |a::l,h=>by
  rw[Aw]at h;split at h
  .rename_i e;obtain rfl|h:=AO.1 h
   .exact e
   exact Mw h
  cases h
def kQ(h:part t=U x):(∀a,Gd (a++t)->Gd x.1)/\(Gd x.1->Gd x.2->Gd t)/\x.2<:+t:=by
 unfold part at h;cases t with
 |nil=>cases h
 |cons c r=>
  dsimp only at h;split at h
  .rename_i q;have B:c<128:=!3
   obtain⟨F,G,I⟩:=me B (show ol c r=U x from h);refine⟨λa g=>(F [] (Qs B g).2).1,λE D=>NK B (G [] E D),I.trans (Al ..)⟩
  split at h
  .cases h
  cases h;have ha: ∀y∈(c::r).takeWhile isWord,y<128:=λy J=>Y2 (Mw J);refine⟨λa g=>RQ ha,λE D=>?_,CO ..⟩;have:=(RQ ha).append D;dsimp only at this;rw[Ir,A1]at this;exact this
def Jo(t:Text):blank t<:+t:=EN _
def UW(h:Gd (blank t)):Gd t:=by
 have e:t=t.takeWhile Of++blank t:=by rw[Ra,A1]
 rw[e];refine(RQ λy B=>?_).append h;have:=Mw B;unfold Of at this;simp at this
 lia
def YD(t:Text):(∃r,t=46::r/\kc t=ky (blank r))\/kc t=U ([],t):=by
 by_cases h: ∃r,t=46::r
 .obtain⟨r,rfl⟩:=h;exact .inl ⟨r,rfl,Tu r⟩
 exact .inr (Tv λr e=>h ⟨r,e⟩)
def YC: ∀{t:Text}{x:List Text×Text},ky t=U x->(∀a,Gd (a++t)-> ∀k∈x.1,Gd k)/\((∀k∈x.1,Gd k)->Gd x.2->Gd t)/\x.2<:+t:=by
 intro t;generalize hn:t.length=n
 induction n using BV generalizing t with
 |_ n J=>
  subst hn;intro x h;rw[Tr]at h;cases e:part t with
  |none=>show 6 e h
  |some y=>
   show 5 e h;obtain⟨G,I,E⟩:=kQ e;have pl:=Js e;have bl:=IE y.2;have bs:=Jo y.2;obtain⟨r,e2,e3⟩|e3:=YD (blank y.2)
   .rw[e3]at h;have hr:(blank r).length<t.length:=by
     have:=IE r;have:=congrArg A5 e2;simp at this
     lia
    cases e4:ky (blank r)with
    |none=>show 6 e4 h
    |some z=>
     show 6 e4 h;obtain⟨L,M,O⟩:=J _ hr rfl e4;have S:z.2<:+blank y.2:=by rw[e2];exact(O.trans (Jo r)).trans (Al ..)
     refine⟨λa g k B=>?_,λD F=>?_,(S.trans bs).trans E⟩
     .dsimp only at B;obtain rfl|B:=AO.1 B
      .exact G a g
      obtain⟨u,Y⟩:=((Jo r).trans (Al 46 r)).trans (e2▸bs.trans E);refine L (a++u) ?_ k B
      rw[Ah,Y];exact g
     refine I (D y.1 (!2)) (UW ?_);rw[e2];refine NK (!1) (UW (M (λk B=>D k (by simp[B])) F))
   show 6 e3 h;refine⟨λa g k B=>?_,λD F=>?_,bs.trans E⟩
   .simp at B;subst B;exact G a g
   exact I (D y.1 (!2)) (UW F)
theorem YX: ∀(k n:Nat),n<10^(k+1)->(AAJ 10 n).length<=k+1
 |0,n,h=>by rw[Cb (!8 h)];simp
 |k+1,n,h=>by
  by_cases B:n<10
  .rw[Cb B];simp
  have e:n=10*(n/10)+n%10:=(Nat.div_add_mod n 10).symm;rw[e,<-En (!1) (!4) (AAq _ (!1)),AG,Cb (AAq _ (!1))];have:=YX k (n/10) (by rw[Ey]at h;omega);simp;exact this
def aQ(h:n<10^(k+1)):(text (toString n)).length<=k+1:=by
 unfold text;show(n.repr.toList.map _).length<=_;rw[AY,HC];exact YX k n h
def ak{z:Int}(h:z.natAbs<10^(k+1)):(text (toString z)).length<=k+2:=by
 cases z with
 |ofNat m=>exact Gg (aQ h)
 |negSucc m=>
  have e:text (toString (Int.negSucc m))=45::text (toString (m+1)):=by
   unfold text;show(("-"++(m+1).repr).toList).map _=_;rw[String.toList_append];rfl
  rw[e,AN];exact Nat.succ_le_succ (aQ h)
def o9(L:Nat):L<10^L:=by
 induction L with
 |zero=>decide
 |succ n B=>rw[Ey];lia
def qW(L:Nat)(h:n<=1000000000+8*L):n<10^(10+L+1):=by
 have B:=o9 L;have D:(10:Nat)^(10+L+1)=100000000000*10^L:=by rw[show 10+L+1=11+L by lia,Nat.pow_add]
 lia
def lP(neg:Bool)(L:Nat)(B: ∀x∈ws,x<10)(D:ws.length<=2*L)(O:e.natAbs<=1000000000+4*L):(shown 1 (OJ neg (ws,e))).length<=3*L+30:=by
 have hn:(if neg=AF then [45]else([]:Text)).length<=1:=by split<;>simp
 obtain h|⟨i,k,c,rfl,E,F,G⟩:=Nq ws
 .unfold OJ;show 4;rw[UO h e];show((if neg=AF then [45]else([]:Text))++[48,101,48]).length<=_;rw[AG];simp
  lia
 have I: ∀w∈c,w<10:=λx hx=>B x (by simp[hx]);obtain⟨J,M⟩:=UP (i:=i) (k:=k) E F G I e;unfold OJ;show 4;rw[J];show((if neg=AF then [45]else([]:Text))++(text (toString (nb 10 c))++(101::text (toString (e+(k:Int)))))).length<=_;rw[M,AG,AG,AY,AN];simp only[AG,B6]at D;have:=ak (z:=e+(k:Int)) (qW L (n:=(e+(k:Int)).natAbs) (!3))
 lia
def kK{x:List Nat}(h:MW x=U i):i.natAbs<=1000000000:=by
 unfold MW at h;cases e:LC 10 (IW x) AJ with
 |none=>show 6 e h
 |some y=>
  rw[e]at h;replace h:(if 9<y.length then AB else U (if Iw x=AF then-(nb 10 y:Int)else(nb 10 y:Int)))=U i:=h;split at h
  .cases h
  rename_i B;have D:=gK (Mz e);have E:10^y.length<=10^9:=Eg (!1) (!4);have F:(10:Nat)^9=1000000000:=!1
  injection h with h
  split at h<;>omega
def ba(t:Text):(IW t).length<=t.length:=by
 unfold IW;split
 .rw[AS];omega
 exact AR _
def kP(h:Mu w=U x):(∀y∈x.1,y<10)/\x.1.length<=2*w.length/\x.2.natAbs<=1000000000+4*w.length:=by
 unfold Mu at h;dsimp only at h;have E:=ba w;generalize IW w=r at h E;split at h
 .cases h
 generalize Lr (λc=>c==46) (r.take (Lr LO r))=pt at h;generalize Lr LO r=pw at h;cases e1:lead (r.take pt)with
 |none=>show 6 e1 h
 |some a=>
  show 5 e1 h;have D:=MQ e1;have F:=Le D;have G:=Mz D;rw[AW]at F;cases e2:(if pt<pw then LC 10 ((r.take pw).drop (pt+1)) AJ else U [])with
  |none=>show 6 e2 h
  |some b=>
   show 5 e2 h;have I:b.length<=r.length/\ ∀y∈b,y<10:=by
    split at e2
    .have J:=Le e2;rw[AS,AW]at J;exact⟨!4,Mz e2⟩
    cases e2;exact⟨!2,!2⟩
   cases e3:(if pw<r.length then MW (r.drop (pw+1))else U 0)with
   |none=>show 6 e3 h
   |some i=>
    show 6 e3 h;have L:i.natAbs<=1000000000:=by
     split at e3
     .exact kK e3
     cases e3;decide
    refine⟨λy B=>?_,?_,?_⟩
    .obtain B|B:=AQ.1 B
     .exact G y B
     exact I.2 y B
    .show 4;rw[AG];omega
    show 4;omega
noncomputable def MV(v:Value):Prop:=match v with
 |.array _ _=>False
 |.table _ _=>False
 |_=>True
def X7(h:MP w=U v):MV v/\(shown 1 v).length<=4*w.length+30:=by
 unfold MP at h;cases e1:LK w with
 |some u=>
  show 6 e1 h;unfold LK at e1;have fin: ∀u:Value,MV u->(shown 1 u).length<=30->U u=U v->MV v/\(shown 1 v).length<=4*w.length+30:=by
   intro u a b c;cases c;exact⟨a,!4⟩
  split at e1
  ·(cases e1;exact⟨trivial,Aa (!1) (DK 30 _)⟩)
  split at e1
  ·(cases e1;exact⟨trivial,Aa (!1) (DK 30 _)⟩)
  split at e1
  ·(cases e1;exact⟨trivial,Aa (!1) (DK 30 _)⟩)
  split at e1
  ·(cases e1;exact⟨trivial,Aa (!1) (DK 30 _)⟩)
  split at e1
  ·(cases e1;exact⟨trivial,Aa (!1) (DK 30 _)⟩)
  split at e1
  ·(cases e1;exact⟨trivial,Aa (!1) (DK 30 _)⟩)
  cases e1
 |none=>
  rw[e1]at h;dsimp only at h;cases e2:Jq w with
  |some u=>
   show 6 e2 h;unfold Jq at e2;cases e3:QX w with
   |none=>show 6 e3 e2
   |some n=>
    show 5 e3 e2;generalize(if Iw w=AF then-(n:Int)else(n:Int))=z at e2;unfold int64 at e2;split at e2
    ·rename_i B;cases e2;refine⟨trivial,?_⟩;show(text (toString z)).length<=_;have:z.natAbs<10^(19+1):=by
      have D:(2:Int)^63=9223372036854775808:=!1
      have E:(10:Nat)^20=100000000000000000000:=!1
      rw[D]at B;show _<10^20;rw[E];omega
     have:=ak this;omega
    cases e2
  |none=>
   rw[e2]at h;dsimp only at h;cases e3:Mu w with
   |some x=>
    show 6 e3 h;obtain⟨F,G,I⟩:=kP e3;refine⟨trivial,?_⟩;obtain⟨J,L⟩:=x;have:=lP (Iw w) w.length F G I;dsimp only at this;omega
   |none=>
    rw[e3]at h;dsimp only at h;split at h
    ·cases h;refine⟨trivial,?_⟩;show w.length<=_;omega
    cases e4:Zm w with
    |none=>show 6 e4 h
    |some t=>
     show 6 e4 h;refine⟨trivial,?_⟩;show t.length<=_;unfold Zm at e4;split at e4
     ·cases e4
     dsimp only at e4;split at e4
     ·cases e4
     cases e4;simp only[AG,AW,AS,AN,Cr];split
     ·simp;omega
     simp;omega
def Ov(h:bareNext t=U x):MV x.1/\x.2<:+t/\(shown 1 x.1).length+4*x.2.length<=4*t.length+30:=by
 unfold bareNext at h;dsimp only at h;rw[Ir]at h;have E:=congrArg A5 (A1 (p:=λc=>!stops c) (l:=t));rw[AG]at E;have sf:(t.dropWhile λc=>!stops c)<:+t:=EN _;by_cases q:isDay (t.takeWhile λc=>!stops c)=AF/\(t.dropWhile λc=>!stops c).head?=U 32/\(((t.dropWhile λc=>!stops c).drop 1).takeWhile λc=>!stops c).head?.any isDigit=AF
 .rw[AI q]at h;cases e:bare (t.takeWhile (λc=>!stops c)++32::((t.dropWhile λc=>!stops c).drop 1).takeWhile λc=>!stops c)with
  |none=>show 6 e h
  |some v=>
   show 6 e h;rw[PX]at e;obtain⟨B,D⟩:=X7 e;refine⟨B,(CO ..).trans sf,?_⟩;show 4;rw[AS];rw[AG,AN]at D;have:0<(t.dropWhile λc=>!stops c).length:=by
    cases e2:t.dropWhile λc=>!stops c with
    |nil=>rw[e2]at q;simp at q
    |cons a b=>simp
   have F:(((t.dropWhile λc=>!stops c).drop 1).takeWhile λc=>!stops c).length<=((t.dropWhile λc=>!stops c).drop 1).length:=by
    have:=congrArg A5 (A1 (p:=λc=>!stops c) (l:=(t.dropWhile λc=>!stops c).drop 1));rw[AG]at this
    lia
   rw[AS]at F
   lia
 rw[AD q]at h;split at h
 .cases h
 cases e:bare (t.takeWhile λc=>!stops c)with
 |none=>show 6 e h
 |some v=>
  show 6 e h;rw[PX]at e;obtain⟨B,D⟩:=X7 e;refine⟨B,sf,?_⟩;show 4
  lia
def iS(h:eol t=U r):r<:+t:=by
 rw[Ly]at h;split at h
 .cases h
 cases h;exact CO ..
def my(t:Text):gp t<:+t:=by
 generalize hn:t.length=n
 induction n using BV generalizing t with
 |_ n B=>
  subst hn;rw[T9];cases e:eol (blank t)with
  |none=>exact Jo t
  |some r=>
   show 4;have D:=KC e;have E:=IE t;exact((B r.length (!5) r rfl).trans (iS e)).trans (Jo t)
def rN(h:wi q t=U x):x.2<:+t:=by
 obtain⟨c,e,_⟩|⟨n,e,_,_,k,_⟩:=eS h
 .rw[e];exact Al ..
 rw[k];exact(GV e x.2).trans (Al ..)
def eR(h:wi q t=U x):x.1.length+x.2.length<=t.length:=by
 obtain⟨c,e,k⟩|⟨n,e,_,k1,k,_⟩:=eS h
 .rw[e,k];simp;nofun
 unfold wi at h;cases t with
 |nil=>cases h
 |cons c r=>
  dsimp only at h;split at h
  .unfold escape at h;cases r with
   |nil=>cases h
   |cons d s=>
    dsimp only at h;split at h
    .cases h;simp;nofun
    split at h
    .cases h;simp;nofun
    split at h
    .cases h;simp;nofun
    split at h
    .cases h;simp;nofun
    split at h
    .cases h;simp;nofun
    split at h
    .cases h;simp;nofun
    split at h
    .have B:4<=(if d=117 then 4 else 8):=by split<;>nofun
     generalize(if d=117 then 4 else 8)=m at h B;split at h
     .rename_i D;cases h;have:=D.1;rw[AW]at this;have E: ∀n,(utf8 n).length<=4:=by intro n;unfold utf8;split;simp;split;simp;split<;>simp
      have:=E (number 16 (s.take m));simp
      nofun
     cases h
    cases h
  split at h
  .cases h
  cases h;simp
  nofun
def gB: ∀{t:Text}{x:Text×Text},ol q t=U x->x.1.length+x.2.length<=t.length:=by
 intro t;generalize hn:t.length=n
 induction n using BV generalizing t with
 |_ n B=>
  subst hn;intro x h;cases t with
  |nil=>show 6 Wh h
  |cons c r=>
   rw[PL]at h;split at h
   .cases h;simp
   cases e2:wi q (c::r)with
   |none=>show 6 e2 h
   |some y=>
    have D:=J3 e2;have E:=eR e2;rw[e2]at h;replace h:(ol q y.2).map (λz=>(y.1++z.1,z.2))=U x:=h;cases e3:ol q y.2 with
    |none=>show 6 e3 h
    |some z=>
     show 6 e3 h;have:=B y.2.length D rfl e3;show 4;rw[AG]
     lia
def sQ: ∀{t:Text}{x:Text×Text},ml q t=U x->x.2<:+t/\x.1.length+x.2.length<=t.length:=by
 intro t;generalize hn:t.length=n
 induction n using BV generalizing t with
 |_ n E=>
  subst hn;intro x h;cases t with
  |nil=>show 6 gO h
  |cons c r=>
   rw[Qi]at h;split at h
   .rename_i G;split at h
    .cases h;refine⟨(CO ..),?_⟩;have:qn q (c::r)<=(c::r).length:=by
      unfold qn;have:=congrArg A5 (A1 (p:=λx=>x==q) (l:=c::r));rw[AG]at this
      nofun
     simp at this⊢
     nofun
    cases h
   split at h
   .have:=Km r;obtain⟨B,F⟩:=E (gp r).length (by simp;nofun) rfl h;refine⟨(B.trans (my r)).trans (Al ..),?_⟩;simp
    nofun
   cases e:eol (c::r)with
   |some s=>
    rw[e]at h;dsimp only at h;have D:=KC e;cases e2:ml q s with
    |none=>show 6 e2 h
    |some y=>
     show 6 e2 h;obtain⟨B,F⟩:=E s.length D rfl e2;refine⟨B.trans (iS e),?_⟩;simp at D⊢
     nofun
   |none=>
    rw[e]at h;dsimp only at h;cases e2:wi q (c::r)with
    |none=>show 6 e2 h
    |some y=>
     have D:=J3 e2;have I:=eR e2;rw[e2]at h;replace h:(ml q y.2).map (λz=>(y.1++z.1,z.2))=U x:=h;cases e3:ml q y.2 with
     |none=>show 6 e3 h
     |some z=>
      show 6 e3 h;obtain⟨B,F⟩:=E y.2.length D rfl e3;refine⟨B.trans (rN e2),?_⟩;show 4;rw[AG]
      nofun
set_option tactic.hygienic false
def Vb(h:quoted t=U x):x.2<:+t/\x.1.length+x.2.length<=t.length:=by
 cases t with
 |nil=>cases h
 |cons c r=>
  by_cases E:c=34\/c=39
  .rw[RG c r E]at h;split at h
   .obtain⟨B,D⟩:=sQ h;refine⟨((B.trans (CO ..)).trans (CO ..)).trans (Al ..),?_⟩;rw[AS,AS]at D;simp;omega
   have B:=(me (!4) h).2.2;have D:=gB h;refine⟨B.trans (Al ..),?_⟩;simp;omega
  unfold quoted at h;dsimp only at h;rw[AI (!4)]at h;cases h
def fy(h:part t=U x):x.1.length+x.2.length<=t.length:=by
 unfold part at h;cases t with
 |nil=>cases h
 |cons c r=>
  dsimp only at h;split at h
  .have:=gB (show ol c r=U x from h);simp
   lia
  split at h
  .cases h
  cases h;have:=congrArg A5 (A1 (p:=isWord) (l:=c::r));rw[AG]at this;show 4;rw[Ir]
  lia
def ZL(t:Text):SJ t<:+t:=by
 by_cases h: ∃r,t=35::r
 .obtain⟨r,rfl⟩:=h;rw[QR];exact(EN _).trans (Al ..)
 rw[O9 λr e=>h ⟨r,e⟩];exact List.suffix_refl _
def mJ(h:sp t=U u):u<:+t:=by
 generalize hn:t.length=n at h
 induction n using BV generalizing t with
 |_ n D=>
  subst hn;rw[VV]at h;have B:=my t;have E:=Km t;by_cases q: ∃r,gp t=35::r
  .obtain⟨r,e⟩:=q;rw[e]at h B E;obtain e2|⟨e2,_⟩:=Sy r
   .rw[e2]at h;have F:=OQ r;exact((D _ (!5) h rfl).trans (ZL _)).trans B
   show 6 e2 h
  rw[MD λr e=>q ⟨r,e⟩]at h;cases h;exact B
structure jR(P:Wt)(A:Nat):Prop where
 str: ∀{t:Text}{x:Text×Text},quoted t=U x->P.lf (.str x.1)+P.c1+A*x.2.length<=A*t.length
 bare: ∀{t:Text}{x:Value×Text},bareNext t=U x->P.lf x.1+P.c1+A*x.2.length<=A*t.length
 part: ∀{t:Text}{x:Text×Text},part t=U x->P.kw x.1+P.c0+P.c1+A*x.2.length<=A*t.length
 two:P.c0+P.c1<=A
variable{P:Wt}{A:Nat}
def jY(h:MV v):wV P v=P.lf v:=by
 cases v<;>first|exact h.elim|dsimp only[wV]
def gD(h:MV v):PM p v:=by
 cases v<;>first|exact h.elim|(rw[PM];trivial)
def Jz(h:a<=b):A*a<=A*b:=Nat.mul_le_mul_left A h
def kh(F:jR P A): ∀{t:Text}{x:List Text×Text},ky t=U x->co P x.1+A*x.2.length<=A*t.length:=by
 intro t;generalize hn:t.length=n
 induction n using BV generalizing t with
 |_ n B=>
  subst hn;intro x h;rw[Tr]at h;cases e:part t with
  |none=>show 6 e h
  |some y=>
   show 5 e h;have E:=F.part e;have pl:=Js e;have bl:=IE y.2;have D:=Jz (A:=A) bl;obtain⟨r,e2,e3⟩|e3:=YD (blank y.2)
   .rw[e3]at h;have hr:(blank r).length<=(blank y.2).length:=by
     have:=IE r;have:=congrArg A5 e2;simp at this
     nofun
    cases e4:ky (blank r)with
    |none=>show 6 e4 h
    |some z=>
     show 6 e4 h;have:=B _ (!5) rfl e4;have:=Jz (A:=A) hr;show 4;rw[Mn]
     nofun
   show 6 e3 h;show 4;rw[Mn];show _+co P []+_<=_;have:co P []=0:=rfl
   nofun
noncomputable def WVF(P:Wt)(A F:Nat):Prop:= ∀d t y,value F d t=U y->y.2<:+t/\ ∀a,Gd (a++t)->PM Gd y.1/\wV P y.1+P.c1+A*y.2.length<=A*t.length
noncomputable def WEF(P:Wt)(A F:Nat):Prop:= ∀d t y,elements F d t=U y->y.2<:+t/\ ∀a,Gd (a++t)->Us Gd y.1/\wL P y.1+A*y.2.length<=A*t.length
noncomputable def WPF(P:Wt)(A F:Nat):Prop:= ∀d rows t y,pairs F d rows t=U y->y.2<:+t/\ ∀a,Gd (a++t)->OK Gd rows->OK Gd y.1/\wR P y.1+A*y.2.length<=wR P rows+A*t.length
def Ny{t r:Text}(h:r<:+t)(g:Gd (a++t)): ∃b,Gd (b++r):=by
 obtain⟨u,B⟩:=h;refine⟨a++u,?_⟩;rw[Ah,B];exact g
set_option tactic.hygienic true
def sA(E:jR P A)(G:WVF P A F)(h:pr F d rows t=U y):
  y.2<:+t/\y.2.length<t.length/\ ∀a,Gd (a++t)->OK Gd rows->OK Gd y.1/\wR P y.1+P.c0+A*y.2.length<=wR P rows+A*t.length:=by
 unfold pr at h;cases e:ky t with
 |none=>show 6 e h
 |some k=>
  obtain⟨Y,_⟩:=LJ e;obtain⟨k1,k2,k3⟩:=YC e;have kw:=kh E e;show 5 e h;split at h
  .rename_i r hr;have Z:k.2.length=r.length+1:=by rw[hr];rfl
   cases e2:value F d (blank r)with
   |none=>show 6 e2 h
   |some x=>
    show 5 e2 h;obtain⟨I,J⟩:=G _ _ _ e2;have vl:=RA e2;have bl:=IE r;cases e3:dotted x.1 k.1 rows with
    |none=>show 6 e3 h
    |some B=>
     show 6 e3 h;have D:blank r<:+t:=((Jo r).trans (hr▸Al ..)).trans k3;refine⟨I.trans D,by show 4;nofun,λa g L=>?_⟩;obtain⟨b,M⟩:=Ny D g;obtain⟨O,w1⟩:=J b M;obtain⟨S,w2⟩:=YU (P:=P) (k1 a g) L O e3;refine⟨S,?_⟩;show 4;have:=Jz (A:=A) bl;have:=Jz (A:=A) (show r.length<=k.2.length by nofun)
     nofun
  cases h
theorem weigh(J:jR P A): ∀F,WVF P A F/\WEF P A F/\WPF P A F
 |0=>⟨λd t y h=>by(show 6 value h),λd t y h=>by(show 6 Ll h),λd rows t y h=>by(show 6 QA h)⟩
 |F+1=>by
  obtain⟨hV,hE,hP⟩:=weigh J F;have h0:=J.two;have B: ∀{c:Nat}{r:Text},A*(c::r).length=A*r.length+A:=λ{c r}=>by rw[AN,AAK]
  refine⟨λd t y h=>?_,λd t y h=>?_,λd rows t y h=>?_⟩
  .cases t with
   |nil=>show 6 Q9 h
   |cons c r=>
    rw[JG]at h;by_cases L:c=34\/c=39
    .rw[AI L]at h;cases e:quoted (c::r)with
     |none=>show 6 e h
     |some x=>
      show 6 e h;refine⟨(Vb e).1,λa g=>⟨by rw[PM];trivial,?_⟩⟩;show 4;rw[wV];exact J.str e
    rw[AD L]at h;by_cases h2:c=91
    .rw[AI h2]at h;by_cases hd:d=0
     .rw[AI hd]at h;cases h
     rw[AD hd]at h;cases e:elements F (d-1) r with
     |none=>show 6 e h
     |some x=>
      show 6 e h;obtain⟨k1,k2⟩:=hE _ _ _ e;refine⟨k1.trans (Al ..),λa g=>?_⟩;obtain⟨b,E⟩:=Ny (Al c r) g;obtain⟨o,w⟩:=k2 b E;refine⟨(LX _ _).2 o,?_⟩;show 4;rw[J5,B]
      nofun
    rw[AD h2]at h;by_cases h3:c=123
    .rw[AI h3]at h;by_cases hd:d=0
     .rw[AI hd]at h;cases h
     rw[AD hd]at h;have hb:=IE r;have iC:=Jz (A:=A) hb;split at h
     .rename_i s hs;cases h;have:(blank r).length=s.length+1:=by rw[hs];rfl
      have:=Jz (A:=A) (show s.length<=r.length by nofun);refine⟨((hs▸Al 125 s:s<:+blank r).trans (Jo r)).trans (Al ..),λa g=>⟨(JI _ _).2 OK.nil,?_⟩⟩;show 4;rw[Io,wR,B]
      nofun
     cases e:pairs F (d-1) [] (blank r)with
     |none=>show 6 e h
     |some x=>
      show 6 e h;obtain⟨k1,k2⟩:=hP _ _ _ _ e;have D:=(Jo r).trans (Al c r);refine⟨k1.trans D,λa g=>?_⟩;obtain⟨b,E⟩:=Ny D g;obtain⟨o,w⟩:=k2 b E OK.nil;refine⟨(JI _ _).2 o,?_⟩;rw[wR]at w;show 4;rw[Io,B]
      nofun
    rw[AD h3]at h;obtain⟨b1,M,_⟩:=Ov h;refine⟨M,λa g=>⟨gD b1,?_⟩⟩;rw[jY b1];exact J.bare h
  .rw[Lv]at h;cases e:sp t with
   |none=>show 6 e h
   |some s=>
    have hs:=LR e;have O:=mJ e;have S:=Jz (A:=A) hs;show 5 e h;by_cases L: ∃r,s=93::r
    .obtain⟨r,rfl⟩:=L;show 6 W8 h;refine⟨(Al ..).trans O,λa g=>⟨by rw[Us];trivial,?_⟩⟩;rw[B]at S;rw[wL];show 4
     nofun
    rw[NM (λr z=>L ⟨r,z⟩)]at h;cases e2:value F d s with
    |none=>show 6 e2 h
    |some x=>
     obtain⟨v1,v2⟩:=hV _ _ _ e2;show 5 e2 h;cases e3:sp x.2 with
     |none=>show 6 e3 h
     |some u=>
      have hu:=Jz (A:=A) (LR e3);have us:=mJ e3;show 5 e3 h;split at h
      .rename_i r;rw[B]at hu;cases e4:elements F d r with
       |none=>show 6 e4 h
       |some z=>
        obtain⟨Y,Z⟩:=hE _ _ _ e4;show 6 e4 h;have D:=(((Al 44 r).trans us).trans v1).trans O;refine⟨Y.trans D,λa g=>?_⟩;obtain⟨b,E⟩:=Ny O g;obtain⟨G,w1⟩:=v2 b E;obtain⟨M,I⟩:=Ny D g;obtain⟨o2,w2⟩:=Z M I;refine⟨by rw[Us];exact⟨G,o2⟩,?_⟩;show 4;rw[wL]
        nofun
      .rename_i r;rw[B]at hu;cases h;refine⟨(((Al 93 r).trans us).trans v1).trans O,λa g=>?_⟩;obtain⟨b,E⟩:=Ny O g;obtain⟨G,w1⟩:=v2 b E;refine⟨(Qb _).2 G,?_⟩;show 4;rw[Q8]
       nofun
      cases h
  rw[MK]at h;cases e:pr F d rows t with
  |none=>show 6 e h
  |some x=>
   show 5 e h;obtain⟨p1,p2,p3⟩:=sA J hV e;have bl:=Jz (A:=A) (IE x.2);unfold mX at h;split at h
   .rename_i s hs;have hl:A*(blank x.2).length=A*s.length+A:=by rw[hs];exact B
    have hbs:=Jz (A:=A) (IE s);obtain⟨Y,Z⟩:=hP _ _ _ _ h;have D:=(((Jo s).trans (hs▸Al 44 s:s<:+blank x.2)).trans (Jo x.2)).trans p1;refine⟨Y.trans D,λa g ho=>?_⟩;obtain⟨G,w1⟩:=p3 a g ho;obtain⟨M,I⟩:=Ny D g;obtain⟨o2,w2⟩:=Z M I G;refine⟨o2,?_⟩
    nofun
   .rename_i s hs;have hl:A*(blank x.2).length=A*s.length+A:=by rw[hs];exact B
    cases h;refine⟨((hs▸Al 125 s:s<:+blank x.2).trans (Jo x.2)).trans p1,λa g ho=>?_⟩;obtain⟨G,w1⟩:=p3 a g ho;refine⟨G,?_⟩;show 4
    nofun
   cases h
structure XR(P:Wt)(s:So):Prop where
 ok:OK Gd s.rows
 hole: ∃(C:Rows->Rows)(x:Rows)(n:Nat),s.rows=C x/\bS s.at_ C/\OK Gd x/\(∀y,OK Gd y->OK Gd (C y))/\ ∀y,wR P (C y)=n+wR P y
theorem XR.nil:XR P {}:=⟨OK.nil,id,[],0,rfl,YN,OK.nil,λz h=>h,λz=>(Dd _).symm⟩
def XR.put(h:XR P s)(J: ∀k∈B,Gd k)(L:PM Gd v)(e:putAt s.at_ B v s.rows=U rows):XR P ⟨rows,s.at_⟩/\wR P rows+P.c0<=wR P s.rows+wV P v+co P B:=by
 obtain⟨C,x,n,E,F,M,G,D⟩:=h.hole;rw[E,F]at e;cases e2:dotted v B x with
 |none=>show 6 e2 e
 |some O=>
  show 6 e2 e;obtain⟨I,S⟩:=YU (P:=P) J M L e2;refine⟨⟨G _ I,C,O,n,rfl,F,I,G,D⟩,?_⟩;rw[E,D,D]
  lia
theorem XR.table(h:XR P s)(I: ∀k∈F,Gd k)(e:walk newTable F s.rows=U rows):XR P ⟨rows,F⟩/\wR P rows<=wR P s.rows+co P F:=by
 obtain⟨o,w⟩:=ZX (P:=P) I h.ok e;refine⟨⟨o,?_⟩,w⟩;have J:F≠ []:=by rintro rfl;cases e
 obtain⟨i,z,rfl⟩:=K8 J;rw[Md _ _ _ 1]at e;cases e1:SX 1 i s.rows with
 |none=>show 6 e1 e
 |some y=>
  obtain⟨C,kd,x⟩:=y;show 5 e1 e;have D: ∀k∈i,Gd k:=λj S=>I j (Bl _ S);obtain⟨b1,Y,n,Z,b4⟩:=Rr (P:=P) D h.ok e1;have hz:=I z (!2);cases e2:newTable z x with
  |none=>show 6 e2 e
  |some E=>
   show 6 e2 e;obtain⟨M,O,L⟩:=MF e1 E;obtain⟨g,G,B,s2⟩: ∃g G,Lj E z=U (g,1,G)/\find E z≠AB:=by
    unfold newTable at e2;split at e2
    .rename_i q;cases e2;unfold Lj;rw[Kn q];exact⟨_,_,rfl,!2⟩
    .rename_i k2 x2 q;split at e2
     .cases e2;unfold Lj;rw[JD _ _ (by rw[q];simp)];exact⟨_,_,rfl,!2⟩
     cases e2
    cases e2
   have o1:OK Gd E:=by
    obtain⟨c1,_⟩:=Rr (P:=P) D o O;exact c1
   obtain⟨t1,t2,m,t3,_,t5⟩:=Xf (P:=P) hz o1 B;refine⟨λy=>M (g (.table 1 y)),G,n+m+P.c0,?_,UI O B s2,t1,λy hy=>?_,λy=>?_⟩
   .show C E=M _;rw[L];obtain⟨gg,u1,u2⟩:=RE B G
    congr 1
    unfold newTable at e2;unfold Lj at B;split at e2
    .rename_i q;cases e2;rw[Kn q]at B;cases B;show 4;rw[Kh q]
    .rename_i k2 x2 q;split at e2
     .cases e2;rw[JD _ _ (by rw[q];simp)]at B;cases B;show 4;rw[Jk]
     cases e2
    cases e2
   .show 4;rw[L];exact Y _ (t2 _ ((JI _ _).2 hy))
   show 4;rw[L,Z,t3,Io]
   lia
def XR.element(h:XR P s)(F: ∀k∈E,Gd k)(e:walk newElement E s.rows=U rows):XR P ⟨rows,E⟩/\wR P rows<=wR P s.rows+co P E+(P.c0+P.c1):=by
 obtain⟨o,w⟩:=Wk (P:=P) F h.ok e;refine⟨⟨o,?_⟩,w⟩;have G:E≠ []:=by rintro rfl;cases e
 obtain⟨i,z,rfl⟩:=K8 G;rw[Md _ _ _ 1]at e;cases e1:SX 1 i s.rows with
 |none=>show 6 e1 e
 |some y=>
  obtain⟨C,kd,x⟩:=y;show 5 e1 e;have D: ∀k∈i,Gd k:=λj O=>F j (Bl _ O);obtain⟨b1,S,n,Y,b4⟩:=Rr (P:=P) D h.ok e1;have Z:=F z (!2);cases e2:newElement z x with
  |none=>show 6 e2 e
  |some B=>
   show 6 e2 e;obtain⟨J,L,I⟩:=MF e1 B;obtain⟨g,M,s2,s3⟩: ∃g,Lj B z=U (g,1,[])/\find B z≠AB/\g (.table 1 [])=B:=by
    unfold newElement at e2;split at e2
    .rename_i q;cases e2;unfold Lj;rw[Kn q];refine⟨_,rfl,!2,?_⟩;rw[Kh q];rfl
    .rename_i l q;cases e2;unfold Lj;rw[JD _ _ (by rw[q];simp)];show 4;rw[List.getLast?_append];refine⟨_,rfl,!2,?_⟩;rw[Jk];simp
    cases e2
   have o1:OK Gd B:=by
    obtain⟨c1,_⟩:=Rr (P:=P) D o L;exact c1
   obtain⟨t1,t2,m,t3,_,t5⟩:=Xf (P:=P) Z o1 M;refine⟨λy=>J (g (.table 1 y)),[],n+m+P.c0,?_,UI L M s2,t1,λy hy=>?_,λy=>?_⟩
   .show C B=J _;rw[I,s3]
   .show 4;rw[I];exact S _ (t2 _ ((JI _ _).2 hy))
   show 4;rw[I,Y,t3,Io]
   nofun
def Om(h:ended t=U u):u<:+t:=by
 rw[Qt]at h;split at h
 .cases h
 cases h;exact((CO ..).trans (ZL _)).trans (Jo t)
def gX(I:jR P A)(h:XR P s)(g:Gd (a++t))(e:lineOf s t=U (s',t')):t'<:+t/\XR P s'/\wR P s'.rows+A*t'.length<=wR P s.rows+A*t.length:=by
 have bs:=Jo t;have bl:=IE t;have bm:=Jz (A:=A) bl;have B: ∀{c:Nat}{r:Text},A*(c::r).length=A*r.length+A:=λ{c r}=>by rw[AN,AAK]
 have h0:=I.two;unfold lineOf at e;split at e
 .rename_i E;cases e;refine⟨List.nil_suffix,h,?_⟩;rw[Cr,Nat.mul_zero]
  lia
 .rename_i r E;cases e1:key (r.length+1) (blank r)with
  |none=>show 6 e1 e
  |some k=>
   show 5 e1 e;rw[Tq (DQ (IE r))]at e1;have F:blank r<:+t:=((Jo r).trans ((Al 91 r).trans (Al 91 _))).trans (E▸bs);have m1:=Jz (A:=A) (IE r);rw[E,B,B]at bm;obtain⟨k1,k2,k3⟩:=YC e1;have kw:=kh I e1;obtain⟨b,J⟩:=Ny F g;split at e
   .rename_i u G;rw[G,B,B]at kw;cases e2:walk newElement k.1 s.rows with
    |none=>show 6 e2 e
    |some rows=>
     show 5 e2 e;cases e3:ended u with
     |none=>show 6 e3 e
     |some v=>
      show 6 e3 e;have D:=Om e3;have M:=Jz (A:=A) D.length_le;obtain⟨L,S⟩:=h.element (k1 b J) e2;refine⟨(D.trans ((Al 93 u).trans (G▸Al 93 _))).trans (k3.trans F),L,?_⟩;show 4
      lia
   cases e
 .rename_i r _ E;cases e1:key (r.length+1) (blank r)with
  |none=>show 6 e1 e
  |some k=>
   show 5 e1 e;rw[Tq (DQ (IE r))]at e1;have F:blank r<:+t:=((Jo r).trans (Al 91 r)).trans (E▸bs);have m1:=Jz (A:=A) (IE r);rw[E,B]at bm;obtain⟨k1,k2,k3⟩:=YC e1;have kw:=kh I e1;obtain⟨b,J⟩:=Ny F g;split at e
   .rename_i u G;rw[G,B]at kw;cases e2:walk newTable k.1 s.rows with
    |none=>show 6 e2 e
    |some rows=>
     show 5 e2 e;cases e3:ended u with
     |none=>show 6 e3 e
     |some v=>
      show 6 e3 e;have D:=Om e3;have M:=Jz (A:=A) D.length_le;obtain⟨L,S⟩:=h.table (k1 b J) e2;refine⟨(D.trans (G▸Al 93 u)).trans (k3.trans F),L,?_⟩;show 4
      lia
   cases e
 rename_i c r _ _ E;rw[E]at bs bm;split at e
 .cases e3:ended (c::r)with
  |none=>show 6 e3 e
  |some v=>
   show 6 e3 e;have D:=Om e3;have M:=Jz (A:=A) D.length_le;exact⟨D.trans bs,h,!3⟩
 cases e1:key (r.length+2) (c::r)with
 |none=>show 6 e1 e
 |some k=>
  show 5 e1 e;rw[Tq (!2)]at e1;obtain⟨k1,k2,k3⟩:=YC e1;have kw:=kh I e1;obtain⟨b,J⟩:=Ny bs g;split at e
  .rename_i u G;rw[G,B]at kw;cases e2:value (u.length+2) DEEP (blank u)with
   |none=>show 6 e2 e
   |some x=>
    show 5 e2 e;have F:blank u<:+t:=(((Jo u).trans (G▸Al 61 u:u<:+k.2)).trans k3).trans bs;have m1:=Jz (A:=A) (IE u);obtain⟨Y,Z⟩:=(weigh I _).1 _ _ _ e2;obtain⟨b2,O⟩:=Ny F g;obtain⟨o1,w1⟩:=Z b2 O;cases e4:putAt s.at_ k.1 x.1 s.rows with
    |none=>show 6 e4 e
    |some rows=>
     show 5 e4 e;cases e3:ended x.2 with
     |none=>show 6 e3 e
     |some v=>
      show 6 e3 e;have D:=Om e3;have M:=Jz (A:=A) D.length_le;obtain⟨L,S⟩:=h.put (k1 b J) o1 e4;refine⟨(D.trans Y).trans F,L,?_⟩;show 4
      lia
  cases e
theorem aV(B:jR P A): ∀(f:Nat){s s':So}{t a:Text},XR P s->Gd (a++t)->lines f s t=U s'->XR P s'/\wR P s'.rows<=wR P s.rows+A*t.length
 |0,s,s',t,a,_,_,e=>by cases e
 |f+1,s,s',t,a,h,g,e=>by
  dsimp only[lines]at e;split at e
  .cases e;exact⟨h,!5⟩
  cases e1:lineOf s t with
  |none=>show 6 e1 e
  |some x=>
   show 5 e1 e;obtain⟨D,E,I⟩:=gX B h g (show lineOf s t=U (x.1,x.2)from e1);obtain⟨b,F⟩:=Ny D g;obtain⟨G,J⟩:=aV B f E F e;exact⟨G,!5⟩
def ZO(B:jR P A)(h:read t=U r):OK Gd r/\wR P r<=A*t.length:=by
 unfold D1 at h;split at h
 .cases h
 rename_i D;have g:Gd t:=(Qr t).1 (!8 D);cases e:lines (t.length+1) {} t with
 |none=>show 6 e h
 |some s=>
  show 6 e h;obtain⟨E,F⟩:=aV B _ (a:=[]) (XR.nil (P:=P)) g e;refine⟨E.ok,?_⟩;have:wR P ({}:So).rows=0:=by show wR P []=0;dsimp only[wR]
  show 4
  lia
set_option tactic.hygienic false
noncomputable def IQ:Wt:=⟨λz=>1,λz=>0,1,0⟩
theorem RK:jR IQ 1 where
 str h:=by have:=Lk h;show 1+0+_<=_;lia
 bare h:=by have:=K1 h;show 1+0+_<=_;lia
 part h:=by have:=Js h;show 0+1+0+_<=_;lia
 two:=!1
noncomputable def Kb:Wt:=⟨λv=>(shown 1 v).length,λk=>(shownText k).length,2,2⟩
def Na(k:Text):(shownText k).length<=6*k.length+2:=by
 have: ∀k:Text,(k.flatMap (λc=>if c=34\/c=92 then [92,c]else if c<32 then [92,117,48,48,hexDigit (c/16),hexDigit (c%16)]else [c])).length<=6*k.length:=by
  intro k
  induction k with
  |nil=>simp
  |cons c r B=>
   rw[BW,AG,AN];have:(if c=34\/c=92 then [92,c]else if c<32 then [92,117,48,48,hexDigit (c/16),hexDigit (c%16)]else [c]).length<=6:=by split;simp;split<;>simp
   omega
 unfold shownText;rw[AN,AG];have:=this k;rw[Am];omega
theorem dI:jR Kb 64 where
 str {t x} h:=by
  have h1:=Lk h;have h2:=(Vb h).2;have h3:=Na x.1;show(shownText x.1).length+2+_<=_
  lia
 bare {t x} h:=by
  have h1:=K1 h;have h2:=(Ov h).2.2;show(shown 1 x.1).length+2+_<=_
  lia
 part {t x} h:=by
  have h1:=Js h;have h2:=fy h;have h3:=Na x.1;show(shownText x.1).length+2+2+_<=_
  lia
 two:=!1
mutual
noncomputable def fm:Value->Text
 |.array _ l=>91::(commas (lH l)++[93])
 |.table _ r=>123::(commas (lG r)++[125])
 |.str t=>shown 1 (.str t)
 |.int z=>shown 1 (.int z)
 |.dec b m e=>shown 1 (.dec b m e)
 |.odd k=>shown 1 (.odd k)
 |.bool b=>shown 1 (.bool b)
 |.time t=>shown 1 (.time t)
noncomputable def lH:List Value->List Text
 |[]=>[]
 |v::l=>fm v::lH l
noncomputable def lG:List (Text×Value)->List Text
 |[]=>[]
 |x::r=>vv x::lG r
noncomputable def vv:Text×Value->Text
 |(k,v)=>shownText k++(58::fm v)
end
def bC(h:MV v):fm v=shown 1 v:=by
 cases v<;>first|exact h.elim|dsimp only[fm]
theorem W4: ∀l,lH l=l.map fm
 |[]=>by rw[lH];rfl
 |v::l=>by rw[lH,W4 l];rfl
theorem W3: ∀r:Rows,lG r=r.map λx=>shownText x.1++(58::fm x.2)
 |[]=>by rw[lG];rfl
 |(k,v)::r=>by rw[lG,vv,W3 r];rfl
theorem Sh{P:Wt}{v:Value}: ∀{l:List Value},v∈l->wV P v<=wL P l
 |u::l,h=>by
  dsimp only[wL];obtain rfl|h:=AO.1 h
  .lia
  have:=Sh (P:=P) h
  lia
theorem WE{P:Wt}{x:Text×Value}: ∀{r:Rows},x∈r->wV P x.2<=wR P r
 |y::r,h=>by
  rw[wR];obtain rfl|h:=AO.1 h
  .obtain⟨a,b⟩:=x;rw[wX];show 4
   lia
  have:=WE (P:=P) h
  lia
theorem TF: ∀(f:Nat)(v:Value),wV IQ v<f->shown f v=fm v
 |0,v,h=>absurd h (Eo _)
 |f+1,v,h=>by
  cases v with
  |array b l=>
   rw[J5]at h;rw[fm,W4];show 91::(commas (l.map λx=>shown f x)++[93])=_
   congr 3
   refine Dh λx hx=>TF f x ?_;have:=Sh (P:=IQ) hx;have:IQ.c0=1:=rfl
   lia
  |table k r=>
   rw[Io]at h;rw[fm,W3];show 123::(commas (r.map λx=>shownText x.1++(58::shown f x.2))++[125])=_
   congr 3
   refine Dh λx hx=>?_;rw[TF f x.2 ?_];have:=WE (P:=IQ) hx;have:IQ.c0=1:=rfl
   lia
  |_=>dsimp only[fm];rfl
theorem RT: ∀l:List Text,(commas l).length<=(l.map λx=>x.length+1).sum
 |[]=>by simp[commas]
 |[x]=>by simp[commas]
 |x::y::l=>by
  have:=RT (y::l);rw[commas,Av,EZ,AG,AN]
  .lia
  exact λz=>nomatch z
mutual
theorem bD: ∀v:Value,(fm v).length<=wV Kb v
 |.array b l=>by
  rw[fm,J5,AN,AG];have:=RT (lH l);have:=iK l;have h:Kb.c0=2:=rfl;rw[Am]
  lia
 |.table k r=>by
  rw[fm,Io,AN,AG];have:=RT (lG r);have:=iJ r;have h:Kb.c0=2:=rfl;rw[Am]
  lia
 |.str t=>by rw[fm,wV];exact AR _
 |.int z=>by rw[fm,wV];exact AR _
 |.dec b m e=>by rw[fm,wV];exact AR _
 |.odd k=>by rw[fm,wV];exact AR _
 |.bool b=>by rw[fm,wV];exact AR _
 |.time t=>by rw[fm,wV];exact AR _
theorem iK: ∀l:List Value,((lH l).map λx=>x.length+1).sum<=wL Kb l
 |[]=>by rw[lH,wL];simp
 |v::l=>by
  rw[lH,wL,Av,EZ];have:=bD v;have:=iK l;have h:Kb.c1=2:=rfl
  lia
theorem iJ: ∀r:List (Text×Value),((lG r).map λx=>x.length+1).sum<=wR Kb r
 |[]=>by rw[lG,wR];simp
 |x::r=>by
  rw[lG,wR,Av,EZ];have:=qF x;have:=iJ r
  lia
theorem qF: ∀x:Text×Value,(vv x).length+1<=wX Kb x
 |(k,v)=>by
  rw[vv,wX,AG,AN];have:=bD v;have h:Kb.c1=2:=rfl;have h2:Kb.kw k=(shownText k).length:=rfl
  lia
end
def SY(x y:Text)(l:List Text):commas (x::y::l)=x++(44::commas (y::l)):=by
 rw[commas];exact λz=>nomatch z
inductive Pc where
 |txt (t:Text)
 |val (v:Value)
def Uq:Pc->Text
 |.txt t=>t
 |.val v=>fm v
noncomputable def Q3:Bool->List Value->List Pc
 |_,[]=>[]
 |b,v::l=>(if b=AF then [.txt [44]]else [])++(.val v::Q3 AF l)
noncomputable def P9:Bool->Rows->List Pc
 |_,[]=>[]
 |b,x::r=>(if b=AF then [.txt [44]]else [])++(.txt (shownText x.1++[58])::.val x.2::P9 AF r)
def R8(v:Value):List Pc:=match v with
 |.array _ l=>.txt [91]::(Q3 AJ l++[.txt [93]])
 |.table _ r=>.txt [123]::(P9 AJ r++[.txt [125]])
 |v=>[.val v]
theorem Xu: ∀l:List Value,(Q3 AF l).flatMap Uq=if l=[]then []else 44::commas (l.map fm)
 |[]=>rfl
 |[v]=>by simp[Q3,Uq,commas]
 |v::u::l=>by
  have:=Xu (u::l);rw[AD (!2)]at this⊢;rw[Q3,AI rfl,Ce,BW (xs:=Q3 AF (u::l)),this];simp only[Av,SY];rfl
def cM(l:List Value):(Q3 AJ l).flatMap Uq=commas (l.map fm):=by
 cases l with
 |nil=>rfl
 |cons v l=>
  rw[Q3,AD (!2),A6,BW,Xu];cases l with
  |nil=>simp[Uq,commas]
  |cons u l=>
   rw[AD (!2)];simp only[Av,SY];rfl
theorem Xs: ∀r:Rows,(P9 AF r).flatMap Uq=if r=[]then []else 44::commas (r.map λx=>shownText x.1++(58::fm x.2))
 |[]=>rfl
 |[x]=>by simp[P9,Uq,commas]
 |x::y::r=>by
  have:=Xs (y::r);rw[AD (!2)]at this⊢;rw[P9,AI rfl,Ce,BW (xs:=Pc.val x.2::P9 AF (y::r)),BW (xs:=P9 AF (y::r)),this];simp only[Av,SY];simp[Uq]
def cJ(r:Rows):(P9 AJ r).flatMap Uq=commas (r.map λx=>shownText x.1++(58::fm x.2)):=by
 cases r with
 |nil=>rfl
 |cons x r=>
  rw[P9,AD (!2),A6,BW,BW,Xs];cases r with
  |nil=>simp[Uq,commas]
  |cons u l=>
   rw[AD (!2)];simp only[Av,SY];simp[Uq]
def cK(v:Value):(R8 v).flatMap Uq=fm v:=by
 cases v with
 |array b l=>
  show(Pc.txt [91]::(Q3 AJ l++[.txt [93]])).flatMap Uq=_;rw[BW,Ce,cM,fm,W4];rfl
 |table k r=>
  show(Pc.txt [123]::(P9 AJ r++[.txt [125]])).flatMap Uq=_;rw[BW,Ce,cJ,fm,W3];rfl
 |_=>simp[R8,Uq]
noncomputable def Kj:Wt:=⟨λz=>1,λz=>0,3,2⟩
theorem fg:jR Kj 5 where
 str h:=by have:=Lk h;show 1+2+_<=_;lia
 bare h:=by have:=K1 h;show 1+2+_<=_;lia
 part h:=by have:=Js h;show 0+3+2+_<=_;lia
 two:=!1
def pw:Pc->Nat
 |.txt _=>1
 |.val v=>wV Kj v
def PF(l:List Pc):Nat:=(l.map pw).sum
def KW(x:Pc)(l:List Pc):PF (x::l)=pw x+PF l:=by unfold PF;rw[Av,EZ]
def K2(a b:List Pc):PF (a++b)=PF a+PF b:=by unfold PF;rw[A8,HE]
def SM:PF []=0:=rfl
theorem mZ: ∀(b:Bool)(l:List Value),PF (Q3 b l)<=wL Kj l
 |b,[]=>by rw[Q3,wL];exact AR _
 |b,v::l=>by
  rw[Q3,wL,K2,KW];have:=mZ AF l;have h:Kj.c1=2:=rfl;have B:PF (if b=AF then [Pc.txt [44]]else [])<=1:=by cases b<;>decide
  have D:pw (.val v)=wV Kj v:=rfl
  lia
theorem mY: ∀(b:Bool)(r:Rows),PF (P9 b r)<=wR Kj r
 |b,[]=>by rw[P9,wR];exact AR _
 |b,(k,v)::r=>by
  rw[P9,wR,wX,K2,KW,KW];have:=mY AF r;have h:Kj.c1=2:=rfl;have D:PF (if b=AF then [Pc.txt [44]]else [])<=1:=by cases b<;>decide
  have E:pw (.val v)=wV Kj v:=rfl;have B: ∀t,pw (.txt t)=1:=λz=>rfl;rw[B];show 4
  lia
def oX(h: ¬MV v):PF (R8 v)<wV Kj v:=by
 have B: ∀t,pw (.txt t)=1:=λz=>rfl;cases v with
 |array b l=>
  show PF (Pc.txt [91]::(Q3 AJ l++[.txt [93]]))<_;rw[KW,K2,KW,SM,B,B,J5];have:=mZ AJ l;have h:Kj.c0=3:=rfl
  lia
 |table k r=>
  show PF (Pc.txt [123]::(P9 AJ r++[.txt [125]]))<_;rw[KW,K2,KW,SM,B,B,Io];have:=mY AJ r;have h:Kj.c0=3:=rfl
  lia
 |_=>exact absurd trivial h
def WV(x:Pc):1<=pw x:=by
 cases x with
 |txt t=>exact AR _
 |val v=>
  show 1<=wV Kj v;cases v<;>first|(dsimp only[wV];exact AR 1)|(dsimp only[wV];have:Kj.c0=3:=rfl;lia)
theorem WU: ∀l:List Pc,l.length<=PF l
 |[]=>AR _
 |x::l=>by
  rw[KW,AN];have:=WU l;have:=WV x
  lia
noncomputable def gf(c:Nat):Option Nat:=if c<128 then U 1 else if 192<=c/\c<224 then U 2 else if 224<=c/\c<240 then U 3 else if 240<=c/\c<248 then U 4 else AB
noncomputable def Nz(n:Nat):Int:=[0,128,32,16,8].getD n 0
def OX(t:Text):Int:=match t with
 |[]=>0
 |c::r=>r.foldl (λ(n:Int)(x:Nat)=>n*64+(x:Int)-128) ((c:Int)%Nz (r.length+1))
def US(t:Text):Option (Nat×Text):=match t with
 |[]=>AB
 |c::r=>(gf c).bind λk=>if(0<=OX (t.take k)/\isScalar (OX (t.take k)).toNat=AF)/\utf8 (OX (t.take k)).toNat=t.take k then U ((OX (t.take k)).toNat,t.drop k)else AB
set_option tactic.hygienic true
def dU(h:US t=U (n,r)):isScalar n=AF/\t=utf8 n++r:=by
 cases t with
 |nil=>cases h
 |cons c s=>
  unfold US at h;dsimp only at h;cases e:gf c with
  |none=>show 6 e h
  |some k=>
   show 5 e h;split at h
   .rename_i q;cases h;refine⟨q.1.2,?_⟩;rw[q.2,As]
   cases h
def dS(hn:isScalar n=AF)(r:Text):US (utf8 n++r)=U (n,r):=by
 have I:=K7 hn;have key: ∀(c:Nat)(l:Text),utf8 n=c::l->gf c=U (l.length+1)->OX (c::l)=(n:Int)->US (utf8 n++r)=U (n,r):=by
  intro c l e1 e2 e3;rw[e1,Az];unfold US;show 4;rw[e2];show 3;have G:(c::(l++r)).take (l.length+1)=c::l:=by rw[B3,F1]
  have hd:(c::(l++r)).drop (l.length+1)=r:=by rw[GC,F4]
  rw[G,hd,e3,Bw,AI ⟨⟨!3,hn⟩,e1⟩]
 have B:utf8 n=utf8 n:=rfl
 conv at B=>rhs;unfold utf8
 by_cases D:n<128
 .rw[AI D]at B;refine key _ _ B (by unfold gf;rw[AI D];rfl) ?_
  show((n:Int)%Nz 1)=n;have:Nz 1=128:=rfl;rw[this]
  lia
 rw[AD D]at B;by_cases E:n<2048
 .rw[AI E]at B;refine key _ _ B (by unfold gf;rw[AD (!3),AI (!3)];rfl) ?_
  show(((192+n/64:Nat):Int)%Nz 2)*64+((128+n%64:Nat):Int)-128=n;have:Nz 2=32:=rfl;rw[this]
  lia
 rw[AD E]at B;by_cases F:n<65536
 .rw[AI F]at B;refine key _ _ B (by unfold gf;rw[AD (!3),AD (!3),AI (!3)];rfl) ?_
  show((((224+n/4096:Nat):Int)%Nz 3)*64+((128+n/64%64:Nat):Int)-128)*64+((128+n%64:Nat):Int)-128=n;have:Nz 3=16:=rfl;rw[this];omega
 rw[AD F]at B;refine key _ _ B (by unfold gf;rw[AD (!3),AD (!3),AD (!3),AI (!3)];rfl) ?_
 show(((((240+n/262144:Nat):Int)%Nz 4)*64+((128+n/4096%64:Nat):Int)-128)*64+((128+n/64%64:Nat):Int)-128)*64+((128+n%64:Nat):Int)-128=n;have:Nz 4=8:=rfl;rw[this];omega
def lT{t:Text}(E:t≠ []):(∀n r,US t=U (n,r)->(Gd t↔Gd r)/\r.length<t.length)/\(US t=AB-> ¬Gd t):=by
 refine⟨λn r h=>?_,λh g=>?_⟩
 .obtain⟨B,D⟩:=dU h;refine⟨⟨λg=>?_,λg=>?_⟩,?_⟩
  .rw[D]at g;exact dE B g
  .rw[D];exact Gd.cons n r B g
  rw[D,AG];have:0<(utf8 n).length:=CJ.2 (QN n)
  lia
 cases g with
 |nil=>exact E rfl
 |cons n r B D=>
  rw[dS B]at h;cases h
def XU(t:Text):wayOf t=if t=[]then U []else(ky t).bind λx=>if x.2=[]then U x.1 else AB:=by
 unfold wayOf;cases t with
 |nil=>rfl
 |cons c r=>
  rw[AD (!2),AD (!2)];show(ky (c::r)).bind _=_
  congr 1
  funext x
  simp
def nW(h:wayOf t=U w)(g: ∀k∈w,Gd k):Gd t:=by
 rw[XU]at h;split at h
 .rename_i e;rw[e];exact .nil
 cases e:ky t with
 |none=>show 6 e h
 |some x=>
  show 5 e h;split at h
  .rename_i e2;cases h;exact(YC e).2.1 g (e2▸ .nil)
  cases h
theorem gC: ∀{l:List Value}{i:Nat}{v:Value},Us p l->l[i]? =U v->PM p v
 |u::l,0,v,h,e=>by dsimp only[Us]at h;cases e;exact h.1
 |u::l,i+1,v,h,e=>by dsimp only[Us]at h;exact gC h.2 e
def iY(h:k.all isDigit=AF):Gd k:=RQ λx hx=>by
 have:=A7.1 h x hx;unfold isDigit at this;have:=D6 this
 lia
theorem Wr: ∀{w:List Text}{v u:Value},PM Gd v->into v w=U u->(∀k∈w,Gd k)/\PM Gd u
 |[],v,u,h,e=>by dsimp only[into]at e;cases e;exact⟨(λk F=>by cases F),h⟩
 |k::w,v,u,h,e=>by
  cases v with
  |table kd r=>
   dsimp only[into]at e;rw[JI]at h;cases e2:find r k with
   |none=>show 6 e2 e
   |some x=>
    show 5 e2 e;obtain⟨G,I⟩:=Ng h.2 e2;obtain⟨D,E⟩:=Wr I e;refine⟨λj B=>?_,E⟩;obtain rfl|B:=AO.1 B
    .exact G
    exact D j B
  |array b l=>
   dsimp only[into]at e;rw[LX]at h;split at e
   .rename_i q;cases e2:l[number 10 k]? with
    |none=>show 6 e2 e
    |some x=>
     show 5 e2 e;obtain⟨D,E⟩:=Wr (gC h e2) e;refine⟨λj B=>?_,E⟩;obtain rfl|B:=AO.1 B
     .exact iY q.2.1
     exact D j B
   cases e
  |_=>dsimp only[into]at e<;>first|cases e|(intros;simp)
set_option tactic.hygienic false
theorem Tz{P:Wt}: ∀{w:List Text}{v u:Value},into v w=U u->wV P u<=wV P v
 |[],v,u,e=>by dsimp only[into]at e;cases e;exact AR _
 |k::w,v,u,e=>by
  cases v with
  |table kd r=>
   dsimp only[into]at e;cases e2:find r k with
   |none=>show 6 e2 e
   |some x=>
    show 5 e2 e;have B:=O4 (P:=P) e2;have D:=Tz (P:=P) e;rw[Io]
    lia
  |array b l=>
   dsimp only[into]at e;split at e
   .cases e2:l[number 10 k]? with
    |none=>show 6 e2 e
    |some x=>
     show 5 e2 e;have B:=Sh (P:=P) (BI e2);have D:=Tz (P:=P) e;rw[J5]
     lia
   cases e
  |_=>dsimp only[into]at e<;>first|cases e|(intros;simp)
def YM(hs:s.root=U r)(ok:OK Gd r)(hn:0<=n/\n<=4096):found s way n=(wayOf way).bind λw=>into (.table 1 r) w:=by
 unfold found;by_cases g:good (way.length+1) way=AF
 .rw[AD (by rw[g];simp;omega),hs];rfl
 rw[AI (by simp at g;simp[g])];cases e:wayOf way with
 |none=>rfl
 |some w=>
  show 3;cases e2:into (.table 1 r) w with
  |none=>rfl
  |some u=>
   exfalso;have:=(Wr ((JI _ _).2 ok) e2).1;exact g ((Qr way).2 (nW e this))
def dO(B:c<32\/c=127):isDigit c=AJ:=by
 unfold isDigit;exact AM (!3)
def VX{w:Text}(B:c<32\/c=127)(hs:s.toList='0'::l):shape s (c::w)=AJ:=by
 unfold shape;rw[hs,GU,CT];show 4;rw[AI rfl,dO B];simp
def XA{w:Text}(B:c<32\/c=127):isDay (c::w)=AJ:=by
 unfold isDay;rw[VX B (s:="0000-00-00") (l:="000-00-00".toList) rfl];rfl
def gz{w:Text}(B:c<32\/c=127):isHour (c::w)=AJ:=by
 unfold isHour;rw[show(c::w).take 8=c::w.take 7 from rfl,VX B (s:="00:00:00") (l:="0:00:00".toList) rfl];rfl
def X9{w:Text}(B:c<32\/c=127):lead (c::w)=AB:=by
 have:LC 10 (c::w) AJ=AB:=by
  unfold LC;rw[AD (!2),AI];unfold dw;rw[AD (!3),AD (!3),AD (!3)];decide
 unfold lead;rw[this];rfl
set_option tactic.hygienic true
def cg{w:Text}(B:c<32\/c=127):MP (c::w)=AB:=by
 have E:IW (c::w)=c::w:=L5 (!3);have F:LK (c::w)=AB:=by
  have ne: ∀(s:String),(text s).all (λx=>decide (32<=x)&&decide (x≠127))=AF->c::w≠text s:=λs hx e=>by
   rw[<-e,CT]at hx;simp at hx
   lia
  unfold LK;rw[AD (ne _ (!1)),AD (ne _ (!1)),AD (ne _ (!1)),AD (ne _ (!1)),AD (ne _ (!1)),AD];rintro(e|e|e)
  .exact ne _ (!1) e
  .exact ne _ (!1) e
  exact ne _ (!1) e
 have G:baseOf (c::w)=AB:=by
  unfold baseOf;split
  .rename_i e;injection e with e1;lia
  .rename_i e;injection e with e1;lia
  .rename_i e;injection e with e1;lia
  rfl
 have I:Jq (c::w)=AB:=by
  unfold Jq QX;rw[G];show 4;rw[E,X9 B];rfl
 have hd:Mu (c::w)=AB:=by
  unfold Mu;show 4;rw[E];split
  .rfl
  generalize D:Lr (λc=>c==46) ((c::w).take (Lr LO (c::w)))=pt;have J:Lr LO (c::w)=Lr LO w+1:=by
   unfold Lr;rw[Aw,AI]
   .rfl
   unfold LO;simp;lia
  have L: ∃k,pt=k+1:=by
   rw[<-D,J,B3];unfold Lr;rw[Aw,AI]
   .exact⟨_,rfl⟩
   simp;lia
  obtain⟨k,rfl⟩:=L;rw[B3,X9 B];rfl
 have M:Zm (c::w)=AB:=by
  unfold Zm;rw[AI];left;rw[show(c::w).take 10=c::w.take 9 from rfl,XA B]
 unfold MP;rw[F];show 4;rw[I];show 4;rw[hd];show 4;rw[AD,M]
 .rfl
 rw[XA B,gz B];simp
def Dc.uX(h:Dc t): ∃c r,t=c::r/\(c<32\/c=127)/\c≠9/\c≠10/\eol t=AB:=by
 obtain⟨c,r,rfl,B,D⟩:=h;refine⟨c,r,rfl,?_,?_,?_,D⟩
 .unfold seen at B;simp at B
  lia
 .rintro rfl;cases B
 rintro rfl;cases D
def Dc.word(h:Dc t):bareNext t=AB:=by
 obtain⟨c,r,rfl,D,F,E,_⟩:=h.uX;unfold bareNext;show 4;by_cases B:c=13
 .subst B;rw[show(13::r).takeWhile (λc=>!stops c)=[]from by rw[Aw];rfl];rfl
 have hs:stops c=AJ:=by
  cases e:stops c with
  |false=>rfl
  |true=>have:=(M8 c).1 e;lia
 have e:(c::r).takeWhile (λc=>!stops c)=c::r.takeWhile (λc=>!stops c):=by
  rw[Aw,hs];rfl
 rw[e,XA D,AD (!2),AD (!2),PX,cg D];rfl
noncomputable def Dm(r:Text):Prop:=Dc r\/ ∃z,r=34::z\/r=39::z
def Dm.sp(h:Dm r):sp r=U r:=by
 rw[VV];obtain h|⟨z,rfl|rfl⟩:=h
 .rw[h.gp];exact MD h.hash
 .rw[SW (!6) (!6)];exact MD λr e=>by cases e
 rw[SW (!6) (!6)];exact MD λr e=>by cases e
theorem Dm.blank(h:Dm r):blank r=r:=by
 obtain h|⟨z,rfl|rfl⟩:=h
 .exact h.blank
 .rfl
 rfl
def Dm.head(h:Dm r): ∃c z,r=c::z/\(c<32\/c=127\/c=34\/c=39):=by
 obtain h|⟨z,rfl|rfl⟩:=h
 .obtain⟨c,r,rfl,B,_⟩:=h.uX;exact⟨c,r,rfl,!3⟩
 .exact⟨_,_,rfl,!3⟩
 exact⟨_,_,rfl,!3⟩
def Dm.ended(h:Dm r):ended r=AB:=by
 rw[Qt,h.blank];have hs:SJ r=r:=by
  obtain⟨c,z,rfl,D⟩:=h.head;exact O9 λr e=>by injection e with e1;lia
 rw[hs];rw[AI];obtain h|⟨z,rfl|rfl⟩:=h
 .obtain⟨c,r,rfl,_,_,_,B⟩:=h.uX;refine⟨!2,?_⟩;rw[Ly]at B;split at B
  .assumption
  cases B
 .exact⟨!2,rfl⟩
 exact⟨!2,rfl⟩
noncomputable def Val(d:Nat)(t:Text)(y:Value×Text):Prop:= ∃F,value F d t=U y
noncomputable def rM(d:Nat)(s:Text)(y:List Value×Text):Prop:= ∃F,nH F d s=U y
noncomputable def Pr(d:Nat)(rows:Rows)(t:Text)(y:Rows×Text):Prop:= ∃F,pr F d rows t=U y
noncomputable def qh(d:Nat)(rows:Rows)(t:Text)(y:Rows×Text):Prop:= ∃F,mX F d rows t=U y
def Val.one(h:Val d t y)(B:Val d t z):y=z:=by
 obtain⟨F,h⟩:=h;obtain⟨G,B⟩:=B;exact bV h B
def W7{r:Text}:rM d (93::r) y↔y=([],r):=by
 constructor
 .rintro⟨F,h⟩;show 6 W8 h;rfl
 rintro rfl;exact⟨0,rfl⟩
def NL{s:Text}(hs: ∀r,s≠93::r):rM d s y↔ ∃x u,Val d s x/\sp x.2=U u∧
  ((∃r s' B,u=44::r/\sp r=U s'/\rM d s' B/\y=(x.1::B.1,B.2))\/ ∃r,u=93::r/\y=([x.1],r)):=by
 constructor
 .rintro⟨F,h⟩;rw[NM hs]at h;cases e:value F d s with
  |none=>show 6 e h
  |some x=>
   show 5 e h;cases e2:sp x.2 with
   |none=>show 6 e2 h
   |some u=>
    show 5 e2 h;refine⟨x,u,⟨F,e⟩,e2,?_⟩;split at h
    .rename_i r;cases e3:elements F d r with
     |none=>show 6 e3 h
     |some z=>
      show 6 e3 h;cases F with
      |zero=>show 6 Ll e3
      |succ G=>
       rw[Lv]at e3;cases e4:sp r with
       |none=>show 6 e4 e3
       |some s'=>
        rw[e4]at e3;exact .inl ⟨r,s',z,rfl,e4,⟨G,e3⟩,rfl⟩
    .rename_i r;cases h;exact .inr ⟨r,rfl,rfl⟩
    cases h
 rintro⟨x,u,⟨F,D⟩,E,⟨r,s',B,rfl,I,⟨G,J⟩,rfl⟩|⟨r,rfl,rfl⟩⟩
 .have e1:elements (G+1) d r=U B:=by rw[Lv,I];exact J
  refine⟨s.length+r.length,?_⟩;rw[NM hs,OO D (!4)];show 3;rw[E];show 3;rw[((fuel (G+1)).2.1 _ _ _ e1).2 _ (!4)];rfl
 refine⟨F,?_⟩;rw[NM hs,D];show 3;rw[E];rfl
def P7:Pr d rows t y↔ ∃k r x B,ky t=U k/\k.2=61::r/\Val d (blank r) x/\dotted x.1 k.1 rows=U B/\y=(B,x.2):=by
 constructor
 .rintro⟨F,h⟩;unfold pr at h;cases e:ky t with
  |none=>show 6 e h
  |some k=>
   show 5 e h;split at h
   .rename_i r hr;cases e2:value F d (blank r)with
    |none=>show 6 e2 h
    |some x=>
     show 5 e2 h;cases e3:dotted x.1 k.1 rows with
     |none=>show 6 e3 h
     |some B=>
      show 6 e3 h;exact⟨k,r,x,B,rfl,hr,⟨F,e2⟩,e3,rfl⟩
   cases h
 rintro⟨k,r,x,B,D,E,⟨F,G⟩,I,rfl⟩;refine⟨F,?_⟩;unfold pr;rw[D];show 3;rw[E];simp only;rw[G];show 3;rw[I];rfl
def sC(h:pr F d rows t=U y)(B:t.length<=f):pr f d rows t=U y:=by
 unfold pr at h⊢;cases e:ky t with
 |none=>show 6 e h
 |some k=>
  obtain⟨D,_⟩:=LJ e;rw[e]at h;simp only[AE]at h⊢;split at h
  .rename_i r hr;have E:k.2.length=r.length+1:=by rw[hr];rfl
   have G:=IE r;cases e2:value F d (blank r)with
   |none=>show 6 e2 h
   |some x=>
    rw[e2]at h;rw[OO e2 (!3)];exact h
  cases h
def PJ:(∃F,pairs F d rows t=U y)↔ ∃x,Pr d rows t x/\qh d x.1 (blank x.2) y:=by
 constructor
 .rintro⟨F,h⟩;cases F with
  |zero=>show 6 QA h
  |succ G=>
   rw[MK]at h;cases e:pr G d rows t with
   |none=>show 6 e h
   |some x=>
    rw[e]at h;exact⟨x,⟨G,e⟩,⟨G,h⟩⟩
 rintro⟨x,⟨F,D⟩,⟨G,B⟩⟩;refine⟨t.length+x.2.length+1,?_⟩;rw[MK,sC D (!5)];show 3;unfold mX at B⊢;split at B
 .rename_i s hs;have I:(blank x.2).length=s.length+1:=by rw[hs];rfl
  have J:=IE x.2;have E:=IE s;exact((fuel G).2.2 _ _ _ _ B).2 _ (!5)
 .exact B
 cases B
def Mh:qh d rows u y↔(∃s,u=44::s/\ ∃x,Pr d rows (blank s) x/\qh d x.1 (blank x.2) y)\/ ∃s,u=125::s/\y=(rows,s):=by
 constructor
 .rintro⟨F,h⟩;unfold mX at h;split at h
  .rename_i s;exact .inl ⟨s,rfl,PJ.1 ⟨F,h⟩⟩
  .rename_i s;cases h;exact .inr ⟨s,rfl,rfl⟩
  cases h
 rintro(⟨s,rfl,h⟩|⟨s,rfl,rfl⟩)
 .obtain⟨F,h⟩:=PJ.2 h;exact⟨F,h⟩
 exact⟨0,rfl⟩
def VJ{r:Text}(B:c=34\/c=39):Val d (c::r) y↔ ∃x,quoted (c::r)=U x/\y=(.str x.1,x.2):=by
 constructor
 .rintro⟨F,h⟩;cases F with
  |zero=>dsimp only[value]at h;cases h
  |succ F=>
   rw[JG,AI B]at h;cases e:quoted (c::r)with
   |none=>show 6 e h
   |some x=>show 6 e h;exact⟨x,rfl,rfl⟩
 rintro⟨x,h,rfl⟩;refine⟨1,?_⟩;rw[JG,AI B,h];rfl
def O5{r:Text}:Val d (91::r) y↔d≠0/\ ∃s B,sp r=U s/\rM (d-1) s B/\y=(.array AJ B.1,B.2):=by
 constructor
 .rintro⟨F,h⟩;cases F with
  |zero=>dsimp only[value]at h;cases h
  |succ F=>
   rw[JG,AD (!1),AI rfl]at h;split at h
   .cases h
   rename_i hd;refine⟨hd,?_⟩;cases e:elements F (d-1) r with
   |none=>show 6 e h
   |some z=>
    show 6 e h;cases F with
    |zero=>show 6 Ll e
    |succ G=>
     rw[Lv]at e;cases e4:sp r with
     |none=>show 6 e4 e
     |some s=>
      rw[e4]at e;exact⟨s,z,rfl,⟨G,e⟩,rfl⟩
 rintro⟨hd,s,B,D,⟨G,E⟩,rfl⟩;refine⟨G+2,?_⟩;rw[JG,AD (!1),AI rfl,AD hd,Lv,D];show 3;rw[E];rfl
def MC{r:Text}:Val d (123::r) y↔d≠0/\((∃s,blank r=125::s/\y=(.table 3 [],s))∨
  ((∀s,blank r≠125::s)/\ ∃x D,Pr (d-1) [] (blank r) x/\qh (d-1) x.1 (blank x.2) D/\y=(.table 3 D.1,D.2))):=by
 constructor
 .rintro⟨F,h⟩;cases F with
  |zero=>dsimp only[value]at h;cases h
  |succ F=>
   rw[JG,AD (!1),AD (!1),AI rfl]at h;split at h
   .cases h
   rename_i hd;refine⟨hd,?_⟩;split at h
   .rename_i s hs;cases h;exact .inl ⟨s,hs,rfl⟩
   rename_i hs;cases e:pairs F (d-1) [] (blank r)with
   |none=>show 6 e h
   |some z=>
    show 6 e h;obtain⟨x,B,E⟩:=PJ.1 ⟨F,e⟩;exact .inr ⟨λs q=>hs s q,x,z,B,E,rfl⟩
 rintro⟨hd,⟨s,B,rfl⟩|⟨G,x,D,B,E,rfl⟩⟩
 .refine⟨1,?_⟩;rw[JG,AD (!1),AD (!1),AI rfl,AD hd,B];rfl
 obtain⟨F,h⟩:=PJ.2 ⟨x,B,E⟩;refine⟨F+1,?_⟩;rw[JG,AD (!1),AD (!1),AI rfl,AD hd];split
 .rename_i s hs;exact absurd hs (G s)
 rw[h];rfl
def Sj{r:Text}(B: ¬(c=34\/c=39))(D:c≠91)(E:c≠123):Val d (c::r) y↔bareNext (c::r)=U y:=by
 constructor
 .rintro⟨F,h⟩;cases F with
  |zero=>dsimp only[value]at h;cases h
  |succ F=>
   rw[JG,AD B,AD D,AD E]at h;exact h
 intro h;refine⟨1,?_⟩;rw[JG,AD B,AD D,AD E];exact h
def jZ: ¬Val d [] y:=by
 rintro⟨F,h⟩;show 6 Q9 h
def Dc.val(h:Dc t)(y:Value×Text): ¬Val d t y:=by
 intro B;have D:=h.word;obtain⟨c,r,rfl,E,_⟩:=h.uX;rw[Sj (!5) (!5) (!5),D]at B;cases B
noncomputable def VD(d:Nat)(t:Text):Prop:= ∀y,Val d t y->Dm y.2
noncomputable def VO(d:Nat)(t:Text)(v:Value)(r:Text):Prop:=Val d t (v,r)\/(Dm r/\VD d t)
noncomputable def PD(d:Nat)(rows:Rows)(t:Text):Prop:= ∀y,Pr d rows t y->Dm y.2
def Val.len(h:Val d t y):y.2.length<t.length:=by
 obtain⟨G,h⟩:=h;exact RA h
def Pr.w(F:jR P A)(h:Pr d rows t y)(g:Gd (a++t))(B:OK Gd rows):y.2<:+t/\y.2.length<t.length/\OK Gd y.1/\wR P y.1+P.c0+A*y.2.length<=wR P rows+A*t.length:=by
 obtain⟨G,h⟩:=h;obtain⟨D,E,I⟩:=sA F (weigh F G).1 h;exact⟨D,E,I a g B⟩
def fR(h:HW r=U (x,s)): ∃n B,r=n::B/\0<=n/\n.toNat<=B.length/\x=B.take n.toNat/\s=B.drop n.toNat:=by
 cases r with
 |nil=>cases h
 |cons n B=>
  unfold HW at h;dsimp only at h;split at h
  .rename_i q;cases h;exact⟨n,B,rfl,q.1,q.2,rfl,rfl⟩
  cases h
def TM(h:D3 1 r=U (xs,s)): ∃n B,r=n::B/\0<=n/\n.toNat<=B.length/\xs=[B.take n.toNat]/\s=B.drop n.toNat:=by
 dsimp only[D3]at h;cases e:HW r with
 |none=>show 6 e h
 |some y=>
  obtain⟨x,J⟩:=y;rw[e]at h;dsimp only[D3]at h;cases h;obtain⟨n,B,D,E,F,G,I⟩:=fR e;exact⟨n,B,D,E,F,by rw[G],I⟩
def Xm(p:Int):(p=0/\Bo p=U (0,0))\/(p=1/\Bo p=U (0,1))\/(p=2/\Bo p=U (1,1))\/(p=3/\Bo p=U (0,1))\/Bo p=AB:=by
 dsimp only[Bo];by_cases B:p=0
 .exact .inl ⟨B,by rw[AI B]⟩
 by_cases D:p=1
 .exact .inr (.inl ⟨D,by rw[AD B,AI D]⟩)
 by_cases E:p=2
 .exact .inr (.inr (.inl ⟨E,by rw[AD B,AD D,AI E]⟩))
 by_cases F:p=3
 .exact .inr (.inr (.inr (.inl ⟨F,by rw[AD B,AD D,AD E,AI F]⟩)))
 exact .inr (.inr (.inr (.inr (by rw[AD B,AD D,AD E,AD F]))))
def QH{p:Int}(h:DY Bo (p::r)=U (c,t)):
  (p=0/\c=[[0]]/\t=r)\/(p=1/\ ∃n B,r=n::B/\0<=n/\n.toNat<=B.length/\c=[[1],B.take n.toNat]/\t=B.drop n.toNat)∨
  (p=2/\ ∃x n B,r=x::n::B/\0<=n/\n.toNat<=B.length/\c=[[2,x],B.take n.toNat]/\t=B.drop n.toNat)∨
  (p=3/\ ∃n B,r=n::B/\0<=n/\n.toNat<=B.length/\c=[[3],B.take n.toNat]/\t=B.drop n.toNat):=by
 unfold DY at h;dsimp only at h;obtain⟨rfl,e⟩|⟨rfl,e⟩|⟨rfl,e⟩|⟨rfl,e⟩|e:=Xm p
 .rw[e]at h;dsimp only at h;rw[AD (!5)]at h;unfold D3 at h;cases h;exact .inl ⟨rfl,rfl,rfl⟩
 .rw[e]at h;dsimp only at h;rw[AD (!5)]at h;cases e2:D3 1 (r.drop 0)with
  |none=>show 6 e2 h
  |some y=>
   obtain⟨xs,s⟩:=y;show 6 e2 h;obtain⟨n,B,D,E,F,G,I⟩:=TM e2;rw[DB]at D;subst D;exact .inr (.inl ⟨rfl,n,B,rfl,E,F,by rw[G];rfl,I⟩)
 .rw[e]at h;dsimp only at h;split at h
  .cases h
  rename_i L;cases r with
  |nil=>simp at L
  |cons x J=>
   cases e2:D3 1 ((x::J).drop 1)with
   |none=>show 6 e2 h
   |some y=>
    obtain⟨xs,s⟩:=y;show 6 e2 h;obtain⟨n,B,D,E,F,G,I⟩:=TM e2;replace D:J=n::B:=D;subst D;exact .inr (.inr (.inl ⟨rfl,x,n,B,rfl,E,F,by rw[G];rfl,I⟩))
 .rw[e]at h;dsimp only at h;rw[AD (!5)]at h;cases e2:D3 1 (r.drop 0)with
  |none=>show 6 e2 h
  |some y=>
   obtain⟨xs,s⟩:=y;show 6 e2 h;obtain⟨n,B,D,E,F,G,I⟩:=TM e2;rw[DB]at D;subst D;exact .inr (.inr (.inr ⟨rfl,n,B,rfl,E,F,by rw[G];rfl,I⟩))
 show 6 e h
noncomputable def Due(l:List Int)(s:Abs)(g rest:List Int):Prop:= ∃f cs,D9 Bo f rest=U cs/\HV Ct cs=AF/\g++FG (GH BN s (cs.map Bu))=C8 l
def Due.start(h:Ef l=AF):Due l {} [] l/\(C8 l).length<=10000000:=by
 dsimp only[Ef]at h;cases e:D9 Bo l.length l with
 |none=>show 6 e h
 |some raw=>
  rw[e]at h;dsimp only at h;simp only[AX]at h;obtain⟨⟨⟨E,B⟩,F⟩,D⟩:=h;refine⟨⟨l.length,raw,e,B,?_⟩,D6 D⟩;rw[A6];unfold C8 PyRc40.calls;rw[e];rfl
def Due.fin(h:Due l s g []):g=C8 l:=by
 obtain⟨f,cs,B,E,D⟩:=h;unfold D9 at B;cases B;rw[<-D];show g=g++[];rw[An]
def Due.next{p:Int}(h:Due l s g (p::r)): ∃c t,DY Bo (p::r)=U (c,t)/\Dl Ct c=AF∧
  Due l (BN s (Bu c)).1 (g++(((BN s (Bu c)).2.length:Int)::(BN s (Bu c)).2)) t∧
  g.length+1+(BN s (Bu c)).2.length<=(C8 l).length:=by
 obtain⟨f,cs,B,E,F⟩:=h;cases f with
 |zero=>dsimp only[D9]at B;cases B
 |succ f=>
  dsimp only[D9]at B;cases e:DY Bo (p::r)with
  |none=>show 6 e B
  |some y=>
   obtain⟨c,t⟩:=y;rw[e]at B;dsimp only at B;cases e2:D9 Bo f t with
   |none=>show 6 e2 B
   |some D=>
    show 6 e2 B;dsimp only[HV]at E;rw[CT,AX]at E;have e3:FG (GH BN s ((c::D).map Bu))=(((BN s (Bu c)).2.length:Int)::(BN s (Bu c)).2)++FG (GH BN (BN s (Bu c)).1 (D.map Bu)):=by
     rw[Av];show FG (_::_)=_;dsimp only[FG];rw[BW]
    rw[e3,<-Ah]at F;refine⟨c,t,rfl,E.1,⟨f,D,e2,E.2,F⟩,?_⟩;rw[<-F,AG,AG,AN]
    lia
def cR(h:l.all (Em 0 255)=AF):l=(A4 l).map (λ(n:Nat)=>(n:Int))/\ ∀x∈A4 l,x<256:=by
 dsimp only[A4];have hx: ∀x∈l,0<=x/\x<=255:=by
  intro x hx;have:=A7.1 h x hx;dsimp only[Em]at this;simp at this;exact this
 constructor
 .rw[Gi]
  conv=>lhs;rw[<-AAZ l]
  refine Dh λx hm=>?_;have:=hx x hm;simp
  lia
 intro x hm;obtain⟨y,B,rfl⟩:=Fh.1 hm;have:=hx y B
 lia
def RO{p:Int}(D:Ct p=([],[(0,255,0,most)])\/Ct p=([(-2147483648,2147483647)],[(0,255,0,most)]))(h:Dl Ct [p::xs,x]=AF):x.length<=most/\x.all (Em 0 255)=AF:=by
 unfold Dl at h;dsimp only at h;rw[AX]at h;have B:=h.2;have e:(Ct p).2=[(0,255,0,most)]:=by obtain e|e:=D<;>rw[e]
 rw[e]at B;unfold PyInside.lists at B;simp only[AX,Cs]at B;exact⟨B.1.1.2,B.1.2⟩
noncomputable def gn(l:List Nat):List Int:=l.map λ(n:Nat)=>(n:Int)
noncomputable def Pa(s:Abs)(t:Text):Abs×List Int:=match D1 t with
 |none=>(s,[-1])
 |some r=>({root:=U r},[0])
def PZ(s:Abs)(w:Text)(room:Int):List Int:=match s.root with
 |none=>[-4]
 |some r=>match(wayOf w).bind λk=>into (.table 1 r) k with
  |none=>[-1]
  |some v=>if room_ room<(fm v).length then [-2]else((fm v).length:Int)::gn (fm v)
noncomputable def Q2(s:Abs)(w:Text):List Int:=match s.root with
 |none=>[-4]
 |some r=>match(wayOf w).bind λk=>into (.table 1 r) k with
  |none=>[-1]
  |some v=>[(kindOf v:Int),(countOf v:Int)]
noncomputable def Pj(s:Abs):Prop:= ∀r,s.root=U r->OK Gd r/\wR IQ r<=16384/\wR Kb r<=1048576/\wR Kj r<=81920
def Pj.nil:Pj {}:=λr h=>by cases h
def bt(s:Abs):BN s (Bu [[0]])=({},[0]):=rfl
def VT(s:Abs)(h:x.length<=16384):BN s (Bu [[1],x])=Pa s (A4 x):=by
 show(let y:=does s (.read (A4 x) (x.length:Int));(y.1,y.2.value::y.2.numbers.map λ(b:Nat)=>(b:Int)))=_;dsimp only[does];rw[AD (by show¬((x.length:Int)<0\/(16384:Int)<(x.length:Int));lia)];dsimp only[Pa];cases D1 (A4 x)<;>rfl
def Pj.read(h:Pj s)(D:t.length<=16384):Pj (Pa s t).1:=by
 dsimp only[Pa];cases e:D1 t with
 |none=>exact h
 |some r=>
  intro E hr;cases hr;have B:=ZO RK e;have F:=ZO dI e;have G:=ZO fg e;exact⟨B.1,!3,!3,!3⟩
def VS(hs:Pj s)(h:x.length<=4096)(room:Int):BN s (Bu [[2,room],x])=(s,PZ s (A4 x) room):=by
 show(let y:=does s (.show_ (A4 x) (x.length:Int) room);(y.1,y.2.value::y.2.numbers.map λ(b:Nat)=>(b:Int)))=_;dsimp only[does];dsimp only[PZ];cases e:s.root with
 |none=>rfl
 |some r=>
  rw[AD (!2)];obtain⟨B,E,F,G⟩:=hs r e;rw[YM e B (!3)];show 4;cases e2:(wayOf (A4 x)).bind λk=>into (.table 1 r) k with
  |none=>rfl
  |some v=>
   show 4;have D:wV IQ v<MOST+2:=by
    cases e3:wayOf (A4 x)with
    |none=>show 6 e3 e2
    |some w=>
     rw[e3]at e2;have:=Tz (P:=IQ) (show into (.table 1 r) w=U v from e2);rw[Io]at this;have I:IQ.c0=1:=rfl;show _<16386
     lia
   rw[TF _ v D];by_cases q:room_ room<(fm v).length
   .rw[AI q,AI q];rfl
   rw[AD q,AD q];rfl
def VU(hs:Pj s)(h:x.length<=4096):BN s (Bu [[3],x])=(s,Q2 s (A4 x)):=by
 show(let y:=does s (.kind (A4 x) (x.length:Int));(y.1,y.2.value::y.2.numbers.map λ(b:Nat)=>(b:Int)))=_;dsimp only[does];dsimp only[Q2];cases e:s.root with
 |none=>rfl
 |some r=>
  rw[AD (!2)];obtain⟨B,_⟩:=hs r e;rw[YM e B (!3)];show 4;cases e2:(wayOf (A4 x)).bind λk=>into (.table 1 r) k with
  |none=>rfl
  |some v=>rfl
def iV(h:ended u=U v)(B:u≠ []):v.length<u.length:=by
 rw[Qt]at h;have D:=(ZL (blank u)).length_le;have E:=IE u;split at h
 .cases h
 rename_i q;cases h;rw[AS];have F:0<u.length:=CJ.2 B;by_cases e:SJ (blank u)=[]
 .rw[e];simp;omega
 have:le (SJ (blank u))≠0:=λz=>q ⟨e,z⟩;have G:0<(SJ (blank u)).length:=CJ.2 e;omega
def UK(h:ended u=U v):v.length<=u.length:=(Om h).length_le
def X4(e:blank t=[]):lineOf s t=U (s,[]):=by
 unfold lineOf;rw[e]
def aY{s:So}{t r:Text}(e:blank t=91::91::r):lineOf s t=(ky (blank r)).bind λk=>(match k.2 with
  |93::93::u=>(walk newElement k.1 s.rows).bind λrows=>(ended u).map λv=>(⟨rows,k.1⟩,v)
  |_=>AB):=by
 rw[<-Tq (DQ (IE r))];unfold lineOf;rw[e];rfl
def gY{s:So}{t r:Text}(e:blank t=91::r)(h: ∀B,r≠91::B):lineOf s t=(ky (blank r)).bind λk=>(match k.2 with
  |93::u=>(walk newTable k.1 s.rows).bind λrows=>(ended u).map λv=>(⟨rows,k.1⟩,v)
  |_=>AB):=by
 rw[<-Tq (DQ (IE r))];unfold lineOf;rw[e];split
 .rename_i q;cases q
 .rename_i B q;cases q;exact absurd rfl (h B)
 .rename_i B _ q;cases q;rfl
 rename_i D q;cases q;exact(D rfl).elim
def Wo{s:So}{t r:Text}{c:Nat}(e:blank t=c::r)(h:c≠91):lineOf s t=if c=35\/c=10\/c=13 then(ended (c::r)).map λv=>(s,v)
  else(ky (c::r)).bind λk=>(match k.2 with
   |61::u=>(value (u.length+2) DEEP (blank u)).bind λx=>(putAt s.at_ k.1 x.1 s.rows).bind λrows=>(ended x.2).map λv=>(⟨rows,s.at_⟩,v)
   |_=>AB):=by
 rw[<-Tq (f:=r.length+2) (!2)];unfold lineOf;rw[e];split
 .rename_i q;cases q
 .rename_i B q;cases q;exact absurd rfl h
 .rename_i B _ q;cases q;exact absurd rfl h
 rename_i D B _ E q;cases q;rfl
def Yh(t:Text):blank t=[]\/(∃r,blank t=91::91::r)\/(∃r,blank t=91::r/\ ∀B,r≠91::B)\/ ∃c r,blank t=c::r/\c≠91:=by
 cases e:blank t with
 |nil=>exact .inl rfl
 |cons c r=>
  by_cases h:c=91
  .subst h;by_cases D: ∃B,r=91::B
   .obtain⟨B,rfl⟩:=D;exact .inr (.inl ⟨B,rfl⟩)
   exact .inr (.inr (.inl ⟨r,rfl,λB z=>D ⟨B,z⟩⟩))
  exact .inr (.inr (.inr ⟨c,r,rfl,h⟩))
def Wn(h:lineOf s t=U (s',t'))(D:t≠ []):t'.length<t.length:=by
 have bl:=IE t;have E:0<t.length:=CJ.2 D;obtain e|⟨r,e⟩|⟨r,e,hr⟩|⟨c,r,e,F⟩:=Yh t
 .rw[X4 e]at h;cases h;exact E
 .rw[aY e]at h;rw[e]at bl;cases e1:ky (blank r)with
  |none=>show 6 e1 h
  |some k=>
   show 5 e1 h;have:=(LJ e1).1;have:=IE r;split at h
   .rename_i u B;cases e2:walk newElement k.1 s.rows with
    |none=>show 6 e2 h
    |some rows=>
     show 5 e2 h;cases e3:ended u with
     |none=>show 6 e3 h
     |some v=>
      show 6 e3 h;have:=UK e3;have:=congrArg A5 B;simp at this bl
      nofun
   cases h
 .rw[gY e hr]at h;rw[e]at bl;cases e1:ky (blank r)with
  |none=>show 6 e1 h
  |some k=>
   show 5 e1 h;have:=(LJ e1).1;have:=IE r;split at h
   .rename_i u B;cases e2:walk newTable k.1 s.rows with
    |none=>show 6 e2 h
    |some rows=>
     show 5 e2 h;cases e3:ended u with
     |none=>show 6 e3 h
     |some v=>
      show 6 e3 h;have:=UK e3;have:=congrArg A5 B;simp at this bl
      nofun
   cases h
 rw[Wo e F]at h;rw[e]at bl;split at h
 .cases e3:ended (c::r)with
  |none=>show 6 e3 h
  |some v=>
   show 6 e3 h;have:=iV e3 (!2)
   nofun
 cases e1:ky (c::r)with
 |none=>show 6 e1 h
 |some k=>
  show 5 e1 h;have:=(LJ e1).1;split at h
  .rename_i u B;cases e2:value (u.length+2) DEEP (blank u)with
   |none=>show 6 e2 h
   |some x=>
    show 5 e2 h;have:=RA e2;have:=IE u;cases e4:putAt s.at_ k.1 x.1 s.rows with
    |none=>show 6 e4 h
    |some rows=>
     show 5 e4 h;cases e3:ended x.2 with
     |none=>show 6 e3 h
     |some v=>
      show 6 e3 h;have:=UK e3;have:=congrArg A5 B;simp at this
      nofun
  cases h
theorem Tn: ∀(f g:Nat)(s:So)(t:Text),t.length<f->t.length<g->lines f s t=lines g s t
 |0,_,_,_,h,_=>absurd h (Eo _)
 |_+1,0,_,_,_,h=>absurd h (Eo _)
 |f+1,g+1,s,t,E,F=>by
  rw[lines,lines];split
  .rfl
  rename_i D;have B:t≠ []:=λz=>D (by rw[z];rfl);cases e:lineOf s t with
  |none=>rfl
  |some x=>
   have:=Wn (show lineOf s t=U (x.1,x.2)from e) B;exact Tn f g x.1 x.2 (!3) (!3)
noncomputable def ln(s:So)(t:Text):Option So:=lines (t.length+1) s t
def pB(s:So):ln s []=U s:=rfl
def aU{t:Text}(B:t≠ []):ln s t=(lineOf s t).bind λx=>ln x.1 x.2:=by
 unfold ln;rw[lines,AD (!8 B)];cases e:lineOf s t with
 |none=>rfl
 |some x=>
  have:=Wn (show lineOf s t=U (x.1,x.2)from e) B;exact Tn _ _ _ _ (!5) (!5)
def WT(t:Text):D1 t=if good (t.length+1) t=AJ then AB else(ln {} t).map λs=>s.rows:=rfl
def Si:value (u.length+2) DEEP (blank u)=U x↔Val 32 (blank u) x:=by
 constructor
 .exact λh=>⟨_,h⟩
 rintro⟨F,h⟩;have:=IE u;exact OO h (!3)
def RR(h:bS at_ C)(e: ∀y,D y=C y):bS at_ D:=by
 have:D=C:=funext e;rw[this];exact h
def Vy(h:SX 1 i r=U (C,kd,x))(e:newTable z x=U D):
  (find x z=AB/\D=x++[(z,.table 1 [])]/\bS (i++[z]) (λy=>C (x++[(z,.table 1 y)])))∨
  ∃F,find x z=U (.table 0 F)/\D=replace x z (.table 1 F)/\bS (i++[z]) (λy=>C (replace x z (.table 1 y))):=by
 obtain⟨L,G,I⟩:=MF h D;unfold newTable at e;split at e
 .rename_i q;cases e;refine .inl ⟨q,rfl,?_⟩;have E:Lj (x++[(z,.table 1 [])]) z=U (λv=>replace (x++[(z,.table 1 [])]) z v,1,[]):=by
   unfold Lj;rw[Kn q];rfl
  refine RR (UI G E (by rw[Kn q];simp)) λy=>?_;rw[I,Kh q]
 .rename_i k2 B q;split at e
  .rename_i J;cases e;subst J;refine .inr ⟨B,q,rfl,?_⟩;have E:Lj (replace x z (.table 1 B)) z=U (λv=>replace (replace x z (.table 1 B)) z v,1,B):=by
    unfold Lj;rw[JD _ _ (by rw[q];simp)];rfl
   refine RR (UI G E (by rw[JD _ _ (by rw[q];simp)];simp)) λy=>?_;rw[I,Jk]
  cases e
 cases e
set_option tactic.hygienic false
def Zh(h:SX 1 i r=U (C,kd,x))(hx:(find x z=AB/\l=[]/\B=x++[(z,.array AF [])])\/(find x z=U (.array AF l)/\B=x)):
  newElement z x=U (replace B z (.array AF (l++[.table 1 []])))/\bS (i++[z]) (λy=>C (replace B z (.array AF (l++[.table 1 y])))):=by
 have E:find B z=U (.array AF l):=by
  obtain⟨q,rfl,rfl⟩|⟨q,rfl⟩:=hx
  .exact Kn q
  exact q
 have e:newElement z x=U (replace B z (.array AF (l++[.table 1 []]))):=by
  unfold newElement;obtain⟨q,rfl,rfl⟩|⟨q,rfl⟩:=hx
  .rw[q];show 4;rw[Kh q];rfl
  rw[q]
 refine⟨e,?_⟩;obtain⟨J,F,G⟩:=MF h (replace B z (.array AF (l++[.table 1 []])));have D:find (replace B z (.array AF (l++[.table 1 []]))) z=U (.array AF (l++[.table 1 []])):=JD _ _ (by rw[E];simp);have I:Lj (replace B z (.array AF (l++[.table 1 []]))) z=U (λv=>replace (replace B z (.array AF (l++[.table 1 []]))) z (.array AF ((l++[Ed 1 []]).dropLast++[v])),1,[]):=by
  unfold Lj;rw[D];show 4;rw[List.getLast?_append];rfl
 refine RR (UI F I (by rw[D];simp)) λy=>?_;rw[G,Jk,F5]
noncomputable def WA(n:Nat)(D u:Text)(acc:List Value):Prop:=(∀B,rM n u B->Val (n+1) D (.array AJ (acc++B.1),B.2))/\ ∀y,Val (n+1) D y-> ∃B,rM n u B/\y=(.array AJ (acc++B.1),B.2)
def WA.start(h:sp r=U u):WA n (91::r) u []:=by
 refine⟨λB D=>O5.2 ⟨!3,u,B,h,D,rfl⟩,λy D=>?_⟩;obtain⟨_,s,B,E,F,rfl⟩:=O5.1 D;show 6 h E;exact⟨B,F,rfl⟩
def WA.none(h:sp r=AB):VD (n+1) (91::r):=by
 intro y D;obtain⟨_,s,E,B,_⟩:=O5.1 D;show 6 h B
def WA.fin{s:Text}(h:WA n B (93::s) acc):Val (n+1) B (.array AJ acc,s):=by
 have:=h.1 ([],s) (W7.2 rfl);rw[An]at this;exact this
def Dm.ne(h:Dm r): ∀s,r≠93::s/\r≠44::s/\r≠125::s:=by
 intro s;obtain⟨c,z,rfl,B⟩:=h.head;refine⟨?_,?_,?_⟩<;>(intro e;injection e with e1;lia)
def WA.vd(h:WA n D u acc)(E: ∀r,u≠93::r)(F:VD n u):VD (n+1) D:=by
 intro y G;obtain⟨M,I,_⟩:=h.2 y G;obtain⟨x,O,J,B,L⟩:=(NL E).1 I;have hd:=F x J;rw[hd.sp]at B;cases B;obtain⟨r,_,_,e,_⟩|⟨r,e,_⟩:=L
 .exact absurd e (hd.ne r).2.1
 exact absurd e (hd.ne r).1
def WA.no(h:WA n D u acc)(E: ∀r,u≠93::r)(F:Val n u (v,r))(hs: ∀B,sp r=U B->(∀s,B≠93::s)/\ ∀s,B=44::s->sp s=AB):VD (n+1) D:=by
 intro y G;obtain⟨O,I,_⟩:=h.2 y G;obtain⟨x,B,J,L,M⟩:=(NL E).1 I;cases Val.one F J;obtain⟨k1,k2⟩:=hs B L;obtain⟨r,s',_,e,e2,_⟩|⟨r,e,_⟩:=M
 .rw[k2 r e]at e2;cases e2
 exact absurd e (k1 r)
def WA.last{s:Text}(h:WA n G u acc)(D: ∀r,u≠93::r)(E:Val n u (v,r))(hs:sp r=U (93::s)):WA n G (93::s) (acc++[v]):=by
 refine⟨λI B=>?_,λy B=>?_⟩
 .rw[W7]at B;subst B;have:=h.1 ([v],s) ((NL D).2 ⟨(v,r),_,E,hs,.inr ⟨s,rfl,rfl⟩⟩);rw[An];exact this
 obtain⟨I,J,L⟩:=h.2 y B;obtain⟨x,S,M,F,O⟩:=(NL D).1 J;cases Val.one E M;show 6 hs F;obtain⟨r,s',_,e,e2,_⟩|⟨r,e,e2⟩:=O
 .cases e
 cases e;refine⟨([],s),W7.2 rfl,?_⟩;rw[L,e2,An]
def WA.more{E:Text}(h:WA n M u acc)(G: ∀r,u≠93::r)(I:Val n u (v,r))(hs:sp r=U (44::E))(B:sp E=U J):WA n M J (acc++[v]):=by
 refine⟨λD F=>?_,λy F=>?_⟩
 .have:=h.1 (v::D.1,D.2) ((NL G).2 ⟨(v,r),_,I,hs,.inl ⟨E,J,D,rfl,B,F,rfl⟩⟩);rw[Ah];exact this
 obtain⟨D,O,S⟩:=h.2 y F;obtain⟨x,u2,Y,L,Z⟩:=(NL G).1 O;cases Val.one I Y;show 6 hs L;obtain⟨r,s',y2,e,e2,e3,e4⟩|⟨r,e,e2⟩:=Z
 .cases e;show 6 B e2;refine⟨y2,e3,?_⟩;rw[S,e4,Ah];rfl
 cases e
noncomputable def V9(n:Nat)(D u:Text)(rows:Rows):Prop:=(∀B,qh n rows u B->Val (n+1) D (.table 3 B.1,B.2))/\ ∀y,Val (n+1) D y-> ∃B,qh n rows u B/\y=(.table 3 B.1,B.2)
theorem Pr.one(I:Pr n rows t x)(J:Pr n rows t y):x=y:=by
 obtain⟨k,r,v,B,L,M,O,S,rfl⟩:=P7.1 I;obtain⟨Z,r',v',D,E,F,Y,G,rfl⟩:=P7.1 J;show 6 L E;show 6 M F;cases Val.one O Y;show 6 S G;rfl
def V9.empty{s:Text}(h:blank r=125::s):V9 n (123::r) (125::s) []:=by
 refine⟨λD B=>?_,λy B=>?_⟩
 .obtain⟨_,e,_⟩|⟨s',e,rfl⟩:=Mh.1 B
  .cases e
  cases e;exact MC.2 ⟨!3,.inl ⟨s,h,rfl⟩⟩
 obtain⟨_,⟨s',e,rfl⟩|⟨e,_⟩⟩:=MC.1 B
 .show 6 h e;exact⟨([],s),Mh.2 (.inr ⟨s,rfl,rfl⟩),rfl⟩
 exact absurd h (e s)
def V9.first(h: ∀s,blank r≠125::s)(E:Pr n [] (blank r) (rows,F)):V9 n (123::r) (blank F) rows:=by
 refine⟨λB D=>MC.2 ⟨!3,.inr ⟨h,(rows,F),B,E,D,rfl⟩⟩,λy D=>?_⟩;obtain⟨_,⟨s',e,rfl⟩|⟨_,x,B,e1,e2,rfl⟩⟩:=MC.1 D
 .exact absurd e (h s')
 cases Pr.one E e1;exact⟨B,e2,rfl⟩
def fc(h:Dm r): ¬qh n rows (blank r) y:=by
 intro B;rw[h.blank]at B;obtain⟨s,e,_⟩|⟨s,e,_⟩:=Mh.1 B
 .exact(h.ne s).2.1 e
 exact(h.ne s).2.2 e
def V9.bad(h: ∀s,blank r≠125::s)(B:PD n [] (blank r)):VD (n+1) (123::r):=by
 intro y D;obtain⟨_,⟨s',e,rfl⟩|⟨_,x,E,e1,e2,rfl⟩⟩:=MC.1 D
 .exact absurd e (h s')
 exact absurd e2 (fc (B x e1))
def V9.fin{s:Text}(h:V9 n B (125::s) rows):Val (n+1) B (.table 3 rows,s):=h.1 (rows,s) (Mh.2 (.inr ⟨s,rfl,rfl⟩))
def V9.step{s:Text}(h:V9 n G (44::s) rows)(F:Pr n rows (blank s) (B,I)):V9 n G (blank I) B:=by
 refine⟨λD E=>h.1 D (Mh.2 (.inl ⟨s,rfl,_,F,E⟩)),λy E=>?_⟩;obtain⟨D,e1,e2⟩:=h.2 y E;obtain⟨s',e,x,k1,k2⟩|⟨s',e,_⟩:=Mh.1 e1
 .cases e;cases Pr.one F k1;exact⟨D,k2,e2⟩
 cases e
def V9.pd{s:Text}(h:V9 n B (44::s) rows)(D:PD n rows (blank s)):VD (n+1) B:=by
 intro y E;obtain⟨F,e1,e2⟩:=h.2 y E;obtain⟨s',e,x,k1,k2⟩|⟨s',e,_⟩:=Mh.1 e1
 .cases e;exact absurd k2 (fc (D x k1))
 cases e
def V9.other(h:V9 n B u rows)(D: ∀s,u≠44::s)(E: ∀s,u≠125::s):VD (n+1) B:=by
 intro y F;obtain⟨G,e1,e2⟩:=h.2 y F;obtain⟨s',e,_⟩|⟨s',e,_⟩:=Mh.1 e1
 .exact absurd e (D s')
 exact absurd e (E s')
def bP{t:Text}:VD 0 (91::t)/\VD 0 (123::t):=by
 refine⟨λy B=>?_,λy B=>?_⟩
 .exact absurd rfl (O5.1 B).1
 exact absurd rfl (MC.1 B).1
def Yu{r:Text}(D:c=34\/c=39)(h:quoted (c::r)=AB):VD n (c::r):=by
 intro y E;obtain⟨x,B,_⟩:=(VJ D).1 E;show 6 h B
def lq{t:Text}(E: ∀c r,t=c::r-> ¬(c=34\/c=39)/\c≠91/\c≠123)(h:jK t=AB):VD n t:=by
 intro y D;cases t with
 |nil=>exact absurd D jZ
 |cons c r=>
  obtain⟨k1,k2,k3⟩:=E c r rfl;have B:=(Sj k1 k2 k3).1 D;rcases fX (c::r)with e|⟨_,e⟩
  .rw[<-e,h]at B;cases B
  exact .inl (e y B)
def fW{t:Text}(B: ∀c r,t=c::r-> ¬(c=34\/c=39)/\c≠91/\c≠123)(h:jK t=U x):Val n t x/\MV x.1:=by
 have e:bareNext t=U x:=by
  obtain e|⟨e,_⟩:=fX t
  .rw[<-e];exact h
  show 6 h e
 refine⟨?_,(Ov e).1⟩;cases t with
 |nil=>
  have:bareNext []=AB:=!1
  show 6 this e
 |cons c r=>
  obtain⟨k1,k2,k3⟩:=B c r rfl;exact(Sj k1 k2 k3).2 e
def cX{r:Text}(e:blank t=c::r)(h:c≠91)(E: ¬(c=35\/c=10\/c=13))(hs:s.rows=C x)(F:bS s.at_ C)(G:Pr 32 x (c::r) (B,I)):
  lineOf s t=(ended I).map λv=>(⟨C B,s.at_⟩,v):=by
 obtain⟨k,Y,y,D,J,L,M,O,S⟩:=P7.1 G;cases S;rw[Wo e h,AD E,J];show 3;rw[L];simp only;rw[Si.2 M];show 3;rw[hs,F,O];rfl
set_option tactic.hygienic true
def Rn{r:Text}(e:blank t=c::r)(h:c≠91)(D: ¬(c=35\/c=10\/c=13))(hs:s.rows=C x)(E:bS s.at_ C)(F:PD 32 x (c::r)):lineOf s t=AB:=by
 rw[Wo e h,AD D];cases G:ky (c::r)with
 |none=>rfl
 |some k=>
  show 3;split
  .rename_i u I;cases J:value (u.length+2) DEEP (blank u)with
   |none=>rfl
   |some y=>
    show 3;rw[hs,E];cases L:dotted y.1 k.1 x with
    |none=>rfl
    |some B=>
     simp only[Bq,AE];have:=F (B,y.2) (P7.2 ⟨k,u,y,B,G,I,Si.1 J,L,rfl⟩);rw[this.ended];rfl
  rfl
def lB(t:Text)(rows:Rows):Option (List Text×Rows×Text):=match t with
 |91::91::r=>(ky (blank r)).bind λk=>(match k.2 with
  |93::93::u=>(walk newElement k.1 rows).map λB=>(k.1,B,u)
  |_=>AB)
 |91::r=>(ky (blank r)).bind λk=>(match k.2 with
  |93::u=>(walk newTable k.1 rows).map λB=>(k.1,B,u)
  |_=>AB)
 |_=>AB
def tm(r:Text)(rows:Rows):lB (91::91::r) rows=(ky (blank r)).bind λk=>(match k.2 with
 |93::93::u=>(walk newElement k.1 rows).map λB=>(k.1,B,u)
 |_=>AB):=rfl
def tq{r:Text}(rows:Rows)(h: ∀D,r≠91::D):lB (91::r) rows=(ky (blank r)).bind λk=>(match k.2 with
  |93::u=>(walk newTable k.1 rows).map λB=>(k.1,B,u)
  |_=>AB):=by
 unfold lB;split
 .rename_i D q;cases q;exact absurd rfl (h D)
 .rename_i D _ q;cases q;rfl
 rename_i E q;exact absurd rfl (q r)
def X5{r:Text}(e:blank t=91::r):lineOf s t=(lB (91::r) s.rows).bind fun z=>(ended z.2.2).map fun v=>(⟨z.2.1,z.1⟩,v):=by
 by_cases h: ∃B,r=91::B
 .obtain⟨B,rfl⟩:=h
  rw[aY e,tm]
  cases ky (blank B)with
  |none=>rfl
  |some k=>
   obtain⟨k1,m⟩:=k
   show 3
   split
   .cases walk newElement k1 s.rows<;>rfl
   first
   |rfl
   |(rename_i hm
     split
     .rename_i u;exact absurd rfl (hm u)
     rfl)
 have h': ∀B,r≠91::B:=fun B z=>h ⟨B,z⟩
 rw[gY e h',tq _ h']
 cases ky (blank r)with
 |none=>rfl
 |some k=>
  obtain⟨k1,m⟩:=k
  show 3
  split
  .cases walk newTable k1 s.rows<;>rfl
  first
  |rfl
  |(rename_i hm
    split
    .rename_i u;exact absurd rfl (hm u)
    rfl)
def cW(h:blank t=[]\/ ∃c r,blank t=c::r/\(c=35\/c=10\/c=13)):lineOf s t=(ended (blank t)).map λv=>(s,v):=by
 obtain e|⟨c,r,e,B⟩:=h
 .rw[X4 e,e];rfl
 rw[Wo e (!3),AI B,e]
end _S
namespace _S
open PySem PySem.Spec PyProof.Rows _L
noncomputable def top(i:Nat):DW:=PySem.Challenge.pw_settingsbook_s01_answers.main.body.getD i (.Pass ⟨0,0,0,0⟩)
structure JL where
 leaf:AK
 array:AK
 table:AK
 Ic:AK
 book:AK
 calls:AK
 wi:AK
 tl:AK
 nr:AK
noncomputable def l7(K:PySem.W.Frag)(mg:Str->Option Value)(x:Str)(st:DW)(ps:List Str):Prop:= ∃(f:AK)(B:CY),XS K x x st f B/\mg x=U (.ref f)/\Binds K B ps []
noncomputable def L4(K:PySem.W.Frag)(C:AK)(m qual:Str)(st:DW)(ps:List Str):Prop:= ∃(f:AK)(B:CY),XS K m qual st f B/\Uo K C/\Meth K C m f/\Binds K B ps []
noncomputable def R6(K:PySem.W.Frag)(mg:Str->Option Value)(x:Str)(C:AK)(qual:Str)(st:DW)(ps:List Str):Prop:= ∃(f:AK)(B:CY),XS K "__init__" qual st f B/\mg x=U (.ref C)/\Uo K C/\Mk K C f/\Binds K B ps []
section
variable{P:BB}{w:BJ}{K:PySem.W.Frag}{mg:Str->Option Value}{base:Heap}{x m qual:Str}{C:AK}{st:DW}{ps:List Str}{k:Nat}{sp:Sp}
def l7.at(h:l7 K mg x st ps)(ok: ∀{f:AK}{B:CY},XS K x x st f B->Lh P w K mg base (Q6 P w) k f B ps sp):FnAt P w K mg base k x ps [] sp:=by
 obtain⟨f,B,F,hm,D⟩:=h;exact⟨f,B,[],hm,F.kp,D,.nil,ok F⟩
def L4.at(h:L4 K C m qual st ps)(ok: ∀{f:AK}{B:CY},XS K m qual st f B->Lh P w K mg base (Q6 P w) k f B ps sp):Pk P w K mg base k C m ps [] sp:=by
 obtain⟨f,B,F,c,hm,D⟩:=h;exact⟨f,B,[],c,hm,D,.nil,ok F⟩
def R6.at(h:R6 K mg x C qual st ps)(ok: ∀{f:AK}{B:CY},XS K "__init__" qual st f B->Lh P w K mg base (Q6 P w) k f B ps sp):VF P w K mg base k x C ps [] sp:=by
 obtain⟨f,B,F,hm,c,M,D⟩:=h;exact⟨f,B,[],hm,M,D,.nil,ok F⟩
end
noncomputable def eG(x:Str)(i:Nat)(l:List Str):Str×Nat×List Str:=(x,i,l)
def WI:List (Str×Nat×List Str):=[eG "is_blank" 23 ["octet"],eG "is_seen" 24 ["octet"],eG "is_digit" 25 ["octet"],eG "is_letter" 26 ["octet"],eG "digit_worth" 27 ["octet"],eG "number_of" 28 ["digits"],eG "octets_of" 29 ["text"],eG "text_form" 47 ["octets"],eG "sign_form" 48 ["octet"],eG "form_of" 49 ["thing"],eG "pieces_of" 50 ["thing"],eG "table_pieces" 51 ["table"],eG "array_pieces" 52 ["array"],eG "is_character" 58 ["number"],eG "octets_of_character" 59 ["number"],eG "length_by_first" 60 ["octet"],eG "number_of_character" 61 ["octets"],eG "check_characters" 62 ["octets"],eG "is_quote" 70 ["octet"],eG "read_quoted" 71 ["cursor"],eG "read_one_line" 72 ["cursor"],eG "read_many_lines" 73 ["cursor"],eG "count_quotes" 74 ["cursor","quote"],eG "is_line_joined" 75 ["cursor"],eG "read_within" 76 ["cursor","quote"],eG "read_escaped" 77 ["cursor"],eG "read_numbered" 78 ["cursor","length"],eG "is_bare" 80 ["octet"],eG "read_key" 81 ["cursor"],eG "read_part" 82 ["cursor"],eG "put_value" 84 ["table","parts","thing"],eG "table_by_key" 85 ["table","part"],eG "new_table" 86 ["table","part","made"],eG "come_to_table" 87 ["root","parts"],eG "come_to_member" 88 ["root","parts"],eG "is_array_by_headers" 89 ["thing"],eG "go_along" 90 ["root","parts"],eG "table_on_way" 91 ["table","part"],eG "fits" 101 ["octets","pattern"],eG "fits_sign" 102 ["octet","sign"],eG "month_length" 103 ["year","month"],eG "is_day" 104 ["octets"],eG "is_hour_and_minute" 105 ["octets"],eG "is_hour" 106 ["octets"],eG "is_nothing_or_fraction" 107 ["octets"],eG "is_zone" 108 ["octets"],eG "zone_length" 109 ["octets"],eG "day_or_hour" 110 ["word"],eG "day_with_hour" 111 ["word"],eG "digits_within" 117 ["octets","base"],eG "leading_digits" 118 ["octets"],eG "is_negative" 119 ["word"],eG "without_sign" 120 ["word"],eG "number_by" 121 ["worths","base"],eG "whole_number" 122 ["word"],eG "place_of" 123 ["octets","signs"],eG "decimal" 124 ["word"],eG "power_of_ten" 125 ["octets"],eG "decimal_form" 126 ["worths","power"],eG "read_word" 130 ["cursor"],eG "take_word" 131 ["cursor"],eG "is_word_end" 132 ["cursor"],eG "leaf_of" 133 ["word"],eG "fixed_word" 134 ["word"],eG "read_root" 138 ["octets"],eG "read_line" 139 ["cursor","root","table"],eG "read_header" 140 ["cursor","root"],eG "read_header_key" 141 ["cursor"],eG "read_pair" 142 ["cursor","table","depth"],eG "read_value" 143 ["cursor","depth"],eG "read_array" 144 ["cursor","depth"],eG "read_table_in_place" 145 ["cursor","depth"],eG "at_way" 149 ["root","way"],eG "parts_of_way" 150 ["way"],eG "within" 151 ["thing","part"],eG "is_index" 152 ["part"],eG "answers" 161 ["calls"],eG "answer_or_refusal" 162 ["book","waiting"],eG "answer_next" 163 ["book","waiting"],eG "begin" 164 ["book"],eG "read" 165 ["book","text"],eG "show" 166 ["book","way","most"],eG "kind" 167 ["book","way"],eG "thing_at" 168 ["book","way"]]
structure Txt(K:PySem.W.Frag)(mg:Str->Option Value)(A:JL):Prop where
 mn:GI mg "TAB" 9
 Mi:GI mg "LINE_FEED" 10
 Mj:GI mg "CARRIAGE_RETURN" 13
 Qp:GI mg "SPACE" 32
 KH:GI mg "DOUBLE_QUOTE" 34
 Wx:GI mg "HASH" 35
 T1:GI mg "SINGLE_QUOTE" 39
 pO:GI mg "PLUS" 43
 Qq:GI mg "COMMA" 44
 SV:GI mg "MINUS" 45
 SU:GI mg "POINT" 46
 Ze:GI mg "ZERO" 48
 kr:GI mg "COLON" 58
 gr:GI mg "EQUALS" 61
 Jt:GI mg "OPEN_SQUARE" 91
 Ka:GI mg "BACKSLASH" 92
 Jx:GI mg "CLOSE_SQUARE" 93
 Qo:GI mg "UNDERSCORE" 95
 Nn:GI mg "OPEN_CURLY" 123
 Kx:GI mg "CLOSE_CURLY" 125
 Vq:GI mg "END" 256
 T2:GI mg "NO_DIGIT" 16
 YH:GI mg "TEXT_KIND" 1
 Ws:GI mg "WHOLE_KIND" 2
 Oi:GI mg "DECIMAL_KIND" 3
 Wu:GI mg "TRUTH_KIND" 4
 T4:GI mg "DAY_KIND" 5
 Wy:GI mg "ARRAY_KIND" 6
 Wv:GI mg "TABLE_KIND" 7
 Vs:GI mg "BY_KEYS" 1
 Ml:GI mg "BY_HEADER" 2
 Vr:GI mg "COME_BY" 3
 T3:GI mg "IN_PLACE" 4
 Lb:GI mg "CLOSING_QUOTES" 3
 Og:GI mg "MOST_QUOTES_AT_END" 5
 Vp:GI mg "GREAT_T" 84
 cx:GI mg "SMALL_T" 116
 Vo:GI mg "GREAT_Z" 90
 Vn:GI mg "SMALL_Z" 122
 L8:GI mg "DAY_LENGTH" 10
 Px:GI mg "HOUR_LENGTH" 8
 Pw:GI mg "ZONE_LENGTH" 6
 Mx:GI mg "WHOLE_BOUND" 9223372036854775808
 Pe:GI mg "MOST_POWER_DIGITS" 9
 Oh:GI mg "MOST_OCTETS_reader" 16384
 cy:GI mg "DEEPEST" 32
 QD:GI mg "MOST_OCTETS_ways" 4096
 Pf:GI mg "MOST_INDEX_DIGITS" 5
 ku:GI mg "BEGIN" 0
 pN:GI mg "READ" 1
 pM:GI mg "SHOW" 2
 Ww:GI mg "LEAST_MOST" 1
 SA:GI mg "GREATEST_MOST" 1048576
 Jf:mg "len"=AB
 mh:mg "ord"=AB
 sP:mg "max"=AB
 gM:mg "all"=AB
 JP:mg "isinstance"=AB
 sO:mg "str"=AB
 aR:mg "tuple"=AB
 gL:mg "list"=AB
 ZY:mg "reversed"=AB
 kZ:mg "range"=AB
 X0:mg "enumerate"=AB
 sN:mg "zip"=AB
 Ia:jE K mg "WrongInput" A.wi
 VG:jE K mg "TooLong" A.tl
 Pn:jE K mg "NothingRead" A.nr
 PU:Uo K A.leaf
 Qh:Jy K A.leaf "kind"
 Nj:Jy K A.leaf "form"
 Ni:Jy K A.leaf "size"
 LM:Uo K A.array
 JU:Jy K A.array "members"
 Kp:Jy K A.array "by_headers"
 YG:R6 K mg "Array" A.array "Array.__init__" (IF (top 43) 0) ["self","members","by_headers"]
 JQ:Uo K A.table
 Ku:Jy K A.table "made"
 IZ:Jy K A.table "entries"
 YF:R6 K mg "Table" A.table "Table.__init__" (IF (top 44) 0) ["self","made"]
 V1:Uo K A.Ic
 RL:Jy K A.Ic "octets"
 Nv:Jy K A.Ic "place"
 cw:R6 K mg "Cursor" A.Ic "Cursor.__init__" (IF (top 64) 0) ["self","octets"]
 R9:L4 K A.Ic "ahead" "Cursor.ahead" (IF (top 64) 1) ["self","steps"]
 Tg:L4 K A.Ic "here" "Cursor.here" (IF (top 64) 2) ["self"]
 Tf:L4 K A.Ic "take" "Cursor.take" (IF (top 64) 3) ["self","octet"]
 MX:L4 K A.Ic "line_end_length" "Cursor.line_end_length" (IF (top 64) 4) ["self"]
 NH:L4 K A.Ic "skip_line_end" "Cursor.skip_line_end" (IF (top 64) 5) ["self"]
 OD:L4 K A.Ic "skip_blanks" "Cursor.skip_blanks" (IF (top 64) 6) ["self"]
 Kv:L4 K A.Ic "skip_blanks_and_line_ends" "Cursor.skip_blanks_and_line_ends" (IF (top 64) 7) ["self"]
 Nk:L4 K A.Ic "skip_comment" "Cursor.skip_comment" (IF (top 64) 8) ["self"]
 OE:L4 K A.Ic "skip_around" "Cursor.skip_around" (IF (top 64) 9) ["self"]
 OF:L4 K A.Ic "finish_line" "Cursor.finish_line" (IF (top 64) 10) ["self"]
 Qw:Uo K A.book
 LI:Jy K A.book "root"
 kq:R6 K mg "Book" A.book "Book.__init__" (IF (top 159) 0) ["self"]
 KQ:Uo K A.calls
 KG:Jy K A.calls "numbers"
 Jw:Jy K A.calls "place"
 gq:R6 K mg "Calls" A.calls "Calls.__init__" (IF (top 160) 0) ["self","numbers"]
 Ql:L4 K A.calls "has_more" "Calls.has_more" (IF (top 160) 1) ["self"]
 Oa:L4 K A.calls "take_number" "Calls.take_number" (IF (top 160) 2) ["self"]
 Qk:L4 K A.calls "take_row" "Calls.take_row" (IF (top 160) 3) ["self"]
 fn: ∀(k:Nat){x:Str}{i:Nat}{ps:List Str},WI[k]? =U (x,i,ps)->l7 K mg x (top i) ps
end _S
local macro_rules
 |`(tactic|simp! only[$xs,*])=>let a:=L_ "List.map _L.uO _L.tBM _L.wY _L.kE _L.kF _L.xD _L.xN _L.xE _L.xJ _L.tSl _L.jk _L.rW _L.xC _L.jj _L.AA3 _L.wK _L.rg _L.AA4 _L.vA _L.u9 _L.nk _L.tC _L.ew _L.rEq _L.rNe _L.mU _L.rI _L.rU _L.tIf _L.mF _L.tB _L.wO _L.rV _L.rX _L.rd _L.UG _L.rZ _L.wZ _L.ipI _L.mG _L.AA5 _L.nv _L.nu _L.Y9 _L.Xe _L.wU _L.wy _L.j0 _L.xP _L.AA9 _L.nq _L.wM _L.wb _L.tOr _L.tCB _L.wN _L.jl _L.wJ _L.start List.cons_append List.nil_append List.length_cons List.length_nil List.replicate Nat.reduceAdd Nat.reduceSub List.getElem?_cons_zero List.getElem?_cons_succ List.set_cons_zero List.set_cons_succ" xs.getElems;pure (K_ #[M_ a,M_ (L_ "and_assoc List.map_cons List.map_nil List.append_nil Nat.sub_self Option.some.injEq _L.V.int.injEq _L.V.bl.injEq _L.V.ref.injEq exists_eq_left' exists_eq_left exists_and_left exists_eq true_and and_true and_self List.cons.injEq _L.HO.ins.injEq _L.HO.lst.injEq" a)] "'try 'dsimp % 0 'only 1 '[ $0 '] 3 0 6dsimp &1 2tacticTry_ '; 'try 'simp % 0 'only 1 '[ $1 '] 3 0 6simp &1 2tacticTry_ &3")
namespace _S
open PySem PySem.Spec PyProof.Rows _L
def cxK{K:PySem.W.Frag}:(Ph CX P w K mg base N qual scope f B A outer s H E).K=K:=rfl
def V2:Bt "ord"=U (.builtin "ord"):=!0
def dg:Bt "max"=U (.builtin "max"):=!0
def RZ:Bt "all"=U (.builtin "all"):=!0
def Iu:Bt "isinstance"=U (.builtin "isinstance"):=!0
def df:Bt "str"=U (.type "str"):=!0
def Rw:Bt "tuple"=U (.type "tuple"):=!0
def UU:Bt "list"=U (.type "list"):=!0
def vG(i j:Int):b8 (.int i) (.int j)=AF:=rfl
end _S
local macro_rules
 |`(tactic|simp! [$xs,*])=>Z_ "_S.cxK _S.vG" xs.getElems "'only 1"
namespace _S
open PySem PySem.Spec PyProof.Rows _L
noncomputable def Ms(g:Int->V):Sp:=λvs H Q z=>match vs with|[.int i]=>Q (g i) H|_=>False
def NZ(h:Ms g vs H Q E): ∃i,vs=[.int i]/\Q (g i) H:=by
 unfold Ms at h;split at h
 .exact⟨_,rfl,h⟩
 exact h.elim
def Me: ∀vs H Q E,Ms g vs H Q E->vs.length=1:=λvs H Q E h=>by
 obtain⟨i,rfl,_⟩:=NZ h;rfl
noncomputable def NW(i:Int):Bool:=decide (i=32)||decide (i=9)
noncomputable def Lx(i:Int):Bool:=decide (48<=i)&&decide (i<=57)
noncomputable def QM(i:Int):Bool:=(decide (65<=i)&&decide (i<=90))||(decide (97<=i)&&decide (i<=122))
noncomputable def VN(i:Int):Bool:=decide (i=9)||((decide (32<=i)&&decide (i<=126))||(decide (128<=i)&&decide (i<=255)))
def Mq(i:Int):Int:=if Lx i=AF then i-48 else if 65<=i/\i<=70 then i-55 else if 97<=i/\i<=102 then i-87 else 16
section
variable{P:BB}{w:BJ}{K:PySem.W.Frag}{mg:Str->Option Value}{base:Heap}{A:JL}
def Rj:Ji ["octet"] ["octet"] (IV (top 23)):=⟨rfl,rfl,rfl,!0,rfl,!0,!0⟩
def Oy(T:Txt K mg A): !20 1 "is_blank" ["octet"] (Ms λi=>.bl (NW i)):=(T.fn 0 rfl).at λF=>by
 have S:=Rj;refine F.ZU Rj Me (λKg A outer s H vs Q E hr h=>?_);obtain⟨i,rfl,q⟩:=NZ h;refine⟨_,(Hm (Hy (QZ (KD JB (pv 0) (Hx T.Qp)) (MI (KD JB (pv 0) (Hx T.mn)))))),?_⟩;simp![];dsimp only[NW]at q;by_cases B:i=32<;>by_cases D:i=9<;>(revert q;simp only[B,D,CB,DE,Bz,BZ,Be,CI,Cz,Cy,B8,CH,BO,Bd,BS,BX,Ai,ite_true,ite_false,Ec,Ea,ER,EO];first|done|exact id)
def Ri:Ji ["octet"] ["octet"] (IV (top 25)):=⟨rfl,rfl,rfl,!0,rfl,!0,!0⟩
def LA(T:Txt K mg A): !20 1 "is_digit" ["octet"] (Ms λi=>.bl (Lx i)):=(T.fn 2 rfl).at λF=>by
 have S:=Ri;refine F.ZU Ri Me (λKg A outer s H vs Q E hr h=>?_);obtain⟨i,rfl,q⟩:=NZ h;refine⟨_,(Hm (Hy (Ks J6 J6 Ht (pv 0) Ht))),?_⟩;simp![];dsimp only[Lx]at q;by_cases B:48<=i<;>by_cases D:i<=57<;>(revert q;simp only[B,D,CB,DE,Bz,BZ,Be,CI,Cz,Cy,B8,CH,BO,Bd,BS,BX,Ai,ite_true,ite_false,Ec,Ea,ER,EO];first|done|exact id)
def QS:Ji ["octet"] ["octet"] (IV (top 26)):=⟨rfl,rfl,rfl,!0,rfl,!0,!0⟩
def XH(T:Txt K mg A): !20 1 "is_letter" ["octet"] (Ms λi=>.bl (QM i)):=(T.fn 3 rfl).at λF=>by
 have S:=QS;refine F.ZU QS Me (λKg A outer s H vs Q E hr h=>?_);obtain⟨i,rfl,q⟩:=NZ h;refine⟨_,(Hm (Hy (QZ (Ks J6 J6 Ht (pv 0) Ht) (MI (Ks J6 J6 Ht (pv 0) Ht))))),?_⟩;simp![];dsimp only[QM]at q;by_cases B:65<=i<;>by_cases D:i<=90<;>by_cases G:97<=i<;>by_cases I:i<=122<;>(revert q;simp only[B,D,G,I,CB,DE,Bz,BZ,Be,CI,Cz,Cy,B8,CH,BO,Bd,BS,BX,Ai,ite_true,ite_false,Ec,Ea,ER,EO];first|done|exact id)
def TJ:Ji ["octet"] ["octet"] (IV (top 24)):=⟨rfl,rfl,rfl,!0,rfl,!0,!0⟩
def Ue(T:Txt K mg A): !20 1 "is_seen" ["octet"] (Ms λi=>.bl (VN i)):=(T.fn 1 rfl).at λF=>by
 have S:=TJ;refine F.ZU TJ Me (λKg A outer s H vs Q E hr h=>?_);obtain⟨i,rfl,q⟩:=NZ h;refine⟨_,(Hm (Hy (QZ (KD JB (pv 0) (Hx T.mn)) (QZ (Ks J6 J6 Ht (pv 0) Ht) (MI (Ks J6 J6 Ht (pv 0) Ht)))))),?_⟩;simp![];dsimp only[VN]at q;by_cases B:i=9<;>by_cases D:32<=i<;>by_cases G:i<=126<;>by_cases I:128<=i<;>by_cases J:i<=255<;>(revert q;simp only[B,D,G,I,J,CB,DE,Bz,BZ,Be,CI,Cz,Cy,B8,CH,BO,Bd,BS,BX,Ai,ite_true,ite_false,Ec,Ea,ER,EO];first|done|exact id)
def OS:Ji ["octet"] ["octet"] (IV (top 27)):=⟨rfl,rfl,rfl,!0,rfl,!0,!0⟩
def Oz(T:Txt K mg A): !20 2 "digit_worth" ["octet"] (Ms λi=>.int (Mq i)):=(T.fn 4 rfl).at λF=>by
 have S:=OS;refine F.ZU OS Me (λKg A outer s H vs Q E hr h=>?_);obtain⟨i,rfl,q⟩:=NZ h;refine⟨_,(Gy (IS (Ik (Hr (LA T) (Hn (pv 0)))) (Hm (Hy (Ij MM (pv 0) Ht))) IC)
  (Gy (IS (MH J6 J6 Ht (pv 0) Ht) (Hm (Hy (Ij MM (pv 0) Ht))) IC)
  (Gy (IS (MH J6 J6 Ht (pv 0) Ht) (Hm (Hy (Ij MM (pv 0) Ht))) IC)
  (Hm (Hy (Hx T.T2)))))),?_⟩
 simp![];simp only[Ms,Dy,V.int.injEq,Ec,exists_eq_left',V.bl.injEq];dsimp only[Mq]at q;by_cases B:Lx i=AF<;>by_cases D:65<=i<;>by_cases G:i<=70<;>by_cases I:97<=i<;>by_cases J:i<=102<;>(revert q;simp only[B,D,G,I,J,CB,DE,Bz,BZ,Be,CI,Cz,Cy,B8,CH,BO,Bd,BS,BX,Ai,ite_true,ite_false,Ec,Ea,ER,EO];first|done|exact id)
end
noncomputable def IH(l:List Nat):List V:=l.map λ(n:Nat)=>V.int (n:Int)
def Hw(l:List Nat):(IH l).length=l.length:=by unfold IH;exact AY _
noncomputable def cf(ao:AK)(p:Int):List (Str×V):=[("octets",.ref ao),("place",.int p)]
def rG(ao:AK)(p:Int):(cf ao p).lookup ("octets":Str)=U (V.ref ao):=!6
def uY(ao:AK)(p:Int):(cf ao p).lookup ("place":Str)=U (V.int p):=!6
def zr(ao:AK)(p q:Int):NA "place" (.int q) (cf ao p)=cf ao q:=!6
def Zt(ao:AK)(p:Int):(cf ao p).lookup ("ahead":Str)=AB:=!6
def dX(ao:AK)(p:Int):(cf ao p).lookup ("here":Str)=AB:=!6
def dW(ao:AK)(p:Int):(cf ao p).lookup ("take":Str)=AB:=!6
def Ot(ao:AK)(p:Int):(cf ao p).lookup ("line_end_length":Str)=AB:=!6
def QF(ao:AK)(p:Int):(cf ao p).lookup ("skip_line_end":Str)=AB:=!6
def RU(ao:AK)(p:Int):(cf ao p).lookup ("skip_blanks":Str)=AB:=!6
def Lg(ao:AK)(p:Int):(cf ao p).lookup ("skip_blanks_and_line_ends":Str)=AB:=!6
def Qx(ao:AK)(p:Int):(cf ao p).lookup ("skip_comment":Str)=AB:=!6
def RV(ao:AK)(p:Int):(cf ao p).lookup ("skip_around":Str)=AB:=!6
def RW(ao:AK)(p:Int):(cf ao p).lookup ("finish_line":Str)=AB:=!6
def zt(ao:AK)(p:Int):(cf ao p).length<1000:=by show 2<1000;decide
end _S
local macro_rules
 |`(tactic|simp?! [$xs,*])=>Z_ "T.V1 T.Nv T.RL _S.rG _S.uY _S.zr _S.zt _S.Zt _S.dX _S.dW _S.Ot _S.QF _S.RU _S.Lg _S.Qx _S.RV _S.RW" xs.getElems "0"
namespace _S
open PySem PySem.Spec PyProof.Rows _L
noncomputable def Fr(W:List AK)(H B:Hp):Prop:= ∀b o,H b=U o->b∉W->B b=U o
def Fr.refl:Fr W H H:=λz z e z=>e
def Fr.trans(a:Fr W H B)(b:Fr W B H2):Fr W H H2:=λc o e n=>b c o (a c o e n) n
def Fr.mono(a:Fr W H B)(h: ∀x∈W,x∈W'):Fr W' H B:=λc o e n=>a c o e λz=>n (h c z)
def Fr.upd(h:c∈W):Fr W H (_L.Hu H c o):=λb u e n=>by
 rw[Hv (λz=>n (by rw[z];exact h))];exact e
structure Tx where
 ao:AK
 b:List Nat
inductive AAu (A:JL)(H:Hp)(c:AK)(ts:Tx)(t:List Nat):Prop
 |mk (a d:AK)(p:Nat)(_:H c=U (.ins A.Ic a (cf d p)))(_:H d=U (.lst (IH ts.b)))(_:t=ts.b.drop p)(_:p<=ts.b.length)
structure JN(A:JL)(H:Hp)(c:AK)(ts:Tx)(t:List Nat):Prop where
 ex:AAu A H c ts t
 own: ∃(dx:AK)(p:Nat),H c=U (.ins A.Ic dx (cf ts.ao p))
 small:ts.b.length<=20000
 bytes: ∀x∈ts.b,x<256
def JN.sub(h:JN A H c B t): ∀x∈t,x<256:=by
 obtain⟨dx,ao,p,_,_,rfl,_⟩:=h.ex;exact λx hx=>h.bytes x (CD hx)
def JN.len(h:JN A H c B t):t.length<=B.b.length:=by
 obtain⟨dx,ao,p,_,_,rfl,_⟩:=h.ex;rw[AS];omega
def ig{k:Nat}(e1:H c=U (.ins A.Ic dx (cf ao p)))(e2:H ao=U (.lst (IH B.b)))(hs:B.b.length<=20000)(E: ∀x∈B.b,x<256)(F:p+k<=B.b.length)(ha:ao=B.ao)(D:q=(p:Int)+(k:Int)):
  JN A (_L.Hu H c (.ins A.Ic dx (cf ao q))) c B ((B.b.drop p).drop k):=by
 refine⟨⟨dx,ao,p+k,?_,?_,?_,F⟩,⟨dx,p+k,by rw[Hq,D,ha];rfl⟩,hs,E⟩
 .rw[Hq,D];rfl
 .rw[Hv (OY e2 e1 (by intro z;cases z))];exact e2
 rw[BR]
def JN.fr(h:JN A H c E t)(f:Fr W H F)(D:c∉W)(G: ∀a xs,H a=U (.lst xs)->a∉W):JN A F c E t:=by
 obtain⟨dx,ao,p,e1,e2,e3,e4⟩:=h.ex;exact⟨⟨dx,ao,p,f _ _ e1 D,f _ _ e2 (G _ _ e2),e3,e4⟩,let⟨B,I,J⟩:=h.own;⟨B,I,f _ _ J D⟩,h.small,h.bytes⟩
theorem JN.ao{A:JL}{H:Hp}{c dx ao:AK}{D:Tx}{t:List Nat}{p:Nat}(h:JN A H c D t)(e:H c=U (.ins A.Ic dx (cf ao p))):ao=D.ao:=by
 obtain⟨E,F,B⟩:=h.own;rw[e]at B;injection B with B
 injection B with _ _ e3
 unfold cf at e3;injection e3 with e4 _
 injection e4 with _ e5
 injection e5
noncomputable def LP(t:List Nat):Int:=((t.getD 0 256:Nat):Int)
inductive aF (A:JL)(vs:List V)(H:Hp)(Q:VK)(E:XK):Prop
 |mk (c:AK)(k:Nat)(a:Tx)(t:List Nat)(_:vs=[.ref c,.int (k:Int)])(_:JN A H c a t)(_:Q (.int ((t.getD k 256:Nat):Int)) H)
inductive fK (A:JL)(vs:List V)(H:Hp)(Q:VK)(E:XK):Prop
 |mk (c:AK)(a:Tx)(t:List Nat)(_:vs=[.ref c])(_:JN A H c a t)(_:Q (.int (LP t)) H)
inductive WL (A:JL)(vs:List V)(H:Hp)(Q:VK)(E:XK):Prop
 |mk (c:AK)(x:Int)(a:Tx)(t:List Nat)(_:vs=[.ref c,.int x])(_:JN A H c a t)(_:x≠256)(_:(∀y r,t=y::r->x=(y:Int)-> ∀H',JN A H' c a r->Fr [c] H H'->Q .Jm H'))(_:(LP t≠x->E (.ref A.wi) AB H))
inductive mO (A:JL)(g:List Nat->Nat)(vs:List V)(H:Hp)(Q:VK)(E:XK):Prop
 |mk (c:AK)(a:Tx)(t:List Nat)(_:vs=[.ref c])(_:JN A H c a t)(_:Q (.int ((g t:Nat):Int)) H)
inductive NY (A:JL)(g:List Nat->List Nat)(vs:List V)(H:Hp)(Q:VK)(E:XK):Prop
 |mk (c:AK)(a:Tx)(t:List Nat)(_:vs=[.ref c])(_:JN A H c a t)(_: ∀H',JN A H' c a (g t)->Fr [c] H H'->Q .Jm H')
def JN.hs(h:JN A H c B t){us:List V}(e:x::vs=.ref c::us)(l: ∀ao p,(cf ao p).lookup m=AB): ∃a dx fs,x=.ref a/\H a=U (.ins A.Ic dx fs)/\fs.lookup m=AB:=by
 injection e with e
 obtain⟨dx,ao,p,e1,_⟩:=h.ex;exact⟨c,dx,_,e,e1,l _ _⟩
instance {A : JL} : Z5 A.Ic "ahead" (aF A) := ⟨fun _ _ _ _ _ h => by obtain ⟨_, _, _, _, e, hc, _⟩ := h; exact hc.hs e Zt⟩
instance {A : JL} : Z5 A.Ic "here" (fK A) := ⟨fun _ _ _ _ _ h => by obtain ⟨_, _, _, e, hc, _⟩ := h; exact hc.hs e dX⟩
instance {A : JL} : Z5 A.Ic "take" (WL A) := ⟨fun _ _ _ _ _ h => by obtain ⟨_, _, _, _, e, hc, _⟩ := h; exact hc.hs e dW⟩
instance {A : JL} {g : List Nat → Nat} : Z5 A.Ic "line_end_length" (mO A g) := ⟨fun _ _ _ _ _ h => by obtain ⟨_, _, _, e, hc, _⟩ := h; exact hc.hs e Ot⟩
instance {A : JL} {g : List Nat → List Nat} : Z5 A.Ic "skip_line_end" (NY A g) := ⟨fun _ _ _ _ _ h => by obtain ⟨_, _, _, e, hc, _⟩ := h; exact hc.hs e QF⟩
instance {A : JL} {g : List Nat → List Nat} : Z5 A.Ic "skip_blanks" (NY A g) := ⟨fun _ _ _ _ _ h => by obtain ⟨_, _, _, e, hc, _⟩ := h; exact hc.hs e RU⟩
instance {A : JL} {g : List Nat → List Nat} : Z5 A.Ic "skip_blanks_and_line_ends" (NY A g) := ⟨fun _ _ _ _ _ h => by obtain ⟨_, _, _, e, hc, _⟩ := h; exact hc.hs e Lg⟩
instance {A : JL} {g : List Nat → List Nat} : Z5 A.Ic "skip_comment" (NY A g) := ⟨fun _ _ _ _ _ h => by obtain ⟨_, _, _, e, hc, _⟩ := h; exact hc.hs e Qx⟩
section
variable{P:BB}{w:BJ}{K:PySem.W.Frag}{mg:Str->Option Value}{base:Heap}{A:JL}
def MU(T:Txt K mg A):Pk P w K mg base 1 A.Ic "ahead" ["self","steps"] [] (aF A):=T.R9.at λF=>by
 show 9 ["self","steps","place"];obtain⟨c,k,B,t,rfl,G,q⟩:=h;refine⟨_,(Gy (IA (i:=2) (Ij KA (Ih (pv 0) rfl) (pv 1)))
   (Gy (IS (IB Kt (pv 2) (IT IP T.Jf PySem.boot_len (Hn (Ih (pv 0) rfl)))) (Hm (Hy (KS Jh (Ih (pv 0) rfl) (pv 2) (λz z=>rfl)))) IC)
   (Hm (Hy (Hx T.Vq))))),?_⟩
 obtain⟨dx,ao,p,e1,e2,rfl,I⟩:=G.ex;simp?! [e1,Kc e1];refine⟨IH B.b,.inl (Ip.of e2),?_⟩;rw[Hw];by_cases E:(p:Int)+(k:Int)<(B.b.length:Int)
 .refine dT E ?_
  have D:p+k<B.b.length:=!3
  have g:(B.b.drop p).getD k 256=B.b[p+k]:=by
   rw[List.getD_eq_getElem?_getD,List.getElem?_drop,List.getElem?_eq_getElem D];rfl
  refine⟨IH B.b,Ip.of e2,.int ((B.b[p+k]:Nat):Int),?_,by rw[<-g];exact q⟩;have:((p:Int)+(k:Int))=((p+k:Nat):Int):=!3
  rw[this];refine KU ?_
  unfold IH;rw[List.getElem?_map,List.getElem?_eq_getElem D];rfl
 refine dF E ?_
 have g:(B.b.drop p).getD k 256=256:=by
  rw[List.getD_eq_getElem?_getD,List.getElem?_drop,List.getElem?_eq_none (!3)];rfl
 rw[g]at q;exact q
def Iy(T:Txt K mg A):Pk P w K mg base 2 A.Ic "here" ["self"] [] (fK A):=T.Tg.at λF=>by
 show 9 ["self"];obtain⟨c,D,t,rfl,B,q⟩:=h;refine⟨_,(Hm (Hy (Ie (MU T) (pv 0) Ht))),?_⟩;obtain⟨dx,ao,p,e1,e2,_,E⟩:=B.ex;simp?! [e1,Kc e1];exact⟨c,0,D,t,rfl,B,q⟩
def JF(y:Nat)(r:List Nat):LP (y::r)=(y:Int):=rfl
def My(hx:x≠256)(h:LP t=x): ∃y r,t=y::r/\x=(y:Int):=by
 cases t with
 |nil=>exact absurd h.symm hx
 |cons y r=>exact⟨y,r,rfl,h.symm⟩
def JX(T:Txt K mg A):Pk P w K mg base 3 A.Ic "take" ["self","octet"] [] (WL A):=T.Tf.at λF=>by
 show 9 ["self","octet"];obtain⟨c,x,D,t,rfl,B,hx,G,I⟩:=h;refine⟨_,(Gy (IS (IB L0 (ID (Iy T) (pv 0)) (pv 1)) (Hm (JE T.Ia rfl)) IC)
   (Hm (Ju (pv 0) Ht La))),?_⟩
 obtain⟨dx,ao,p,e1,e2,E,L⟩:=B.ex;simp?! [e1,Kc e1];refine⟨c,D,t,rfl,B,?_⟩;simp?! [e1,Kc e1];by_cases h:LP t=x
 .rw[h];simp only[CB,BO,Ai,BX];obtain⟨y,r,e3,e4⟩:=My hx h;have hr:r=(D.b.drop p).drop 1:=by rw[<-E,e3];rfl
  have J:p+1<=D.b.length:=by
   have:=congrArg A5 E;rw[e3,AS,AN]at this
   lia
  refine G y r e3 e4 _ ?_ (Fr.upd (!2))
  rw[hr];exact ig e1 e2 B.small B.bytes J (B.ao e1) rfl
 refine nT (!8 h) ?_
 exact I h
set_option tactic.hygienic true
def K4(T:Txt K mg A):Pk P w K mg base 3 A.Ic "line_end_length" ["self"] [] (mO A le):=T.MX.at λF=>by
 show 9 ["self"];obtain⟨c,E,t,rfl,G,q⟩:=h;refine⟨_,(Gy (IS (IB JB (ID (Iy T) (pv 0)) (Hx T.Mi)) (Hm (Hy Ht)) IC)
   (Gy (IS (PW.pt (J2 (IB JB (ID (Iy T) (pv 0)) (Hx T.Mj)) (Jr (IB JB (Ie (MU T) (pv 0) Ht) (Hx T.Mi))))) (Hm (Hy Ht)) IC)
   (Hm (Hy Ht)))),?_⟩
 simp?! [];refine⟨c,E,t,rfl,G,?_⟩;simp?! [];by_cases B:LP t=10
 .rw[B];simp only[CB,BS];obtain⟨y,r,rfl,e4⟩:=My (!1) B;obtain rfl:y=10:=!3
  exact q
 rw[AM B];refine Ol ?_
 refine⟨c,E,t,rfl,G,?_⟩;simp?! [];by_cases D:LP t=13
 .rw[D];simp only[CB,BS];refine⟨c,1,E,t,rfl,G,?_⟩;obtain⟨y,r,rfl,e4⟩:=My (!1) D;obtain rfl:y=13:=!3
  simp?! [];cases r with
  |nil=>
   have:((([13]:List Nat).getD 1 256:Nat):Int)=256:=rfl;rw[this,AM (!1)];refine Ol ?_
   exact q
  |cons z r=>
   have:(((13::z::r:List Nat).getD 1 256:Nat):Int)=(z:Int):=rfl;rw[this];by_cases I:z=10
   .subst I;refine dT (show(((10:Nat):Int))=10 from rfl) ?_
    exact q
   rw[AM (!3)];refine Ol ?_
   have:le (13::z::r)=0:=by
    unfold le;split
    .rename_i w;cases w
    .rename_i w;cases w;exact absurd rfl I
    rfl
   rw[this]at q;exact q
 rw[AM D];refine Ol ?_
 have:le t=0:=by
  unfold le;split
  .exact absurd rfl B
  .exact absurd rfl D
  rfl
 rw[this]at q;exact q
def Lm{p:Nat}(D:JN A H c B t)(e1:H c=U (.ins A.Ic dx (cf ao p)))(e2:H ao=U (.lst (IH B.b)))(F:t=B.b.drop p)(I:p<=B.b.length)(E:k<=t.length)(G:q=(p:Int)+(k:Int)):
  JN A (_L.Hu H c (.ins A.Ic dx (cf ao q))) c B (t.drop k)/\Fr [c] H (_L.Hu H c (.ins A.Ic dx (cf ao q))):=by
 refine⟨?_,Fr.upd (!2)⟩;rw[F]at E⊢;rw[AS]at E;exact ig e1 e2 D.small D.bytes (!3) (D.ao e1) G
def MT(T:Txt K mg A):Pk P w K mg base 4 A.Ic "skip_line_end" ["self"] [] (NY A λt=>t.drop (le t)):=T.NH.at λF=>by
 show 9 ["self"];obtain⟨c,D,t,rfl,B,q⟩:=h;refine⟨_,(Hm (Ju (pv 0) (ID (K4 T) (pv 0)) La)),?_⟩;obtain⟨dx,ao,p,e1,e2,E,G⟩:=B.ex;simp?! [e1,Kc e1];refine⟨c,D,t,rfl,B,?_⟩;simp?! [e1,Kc e1];obtain⟨I,J⟩:=Lm B e1 e2 E G (YA t) rfl;exact q _ I J
def Lq:NW (LP (y::r))=Of y:=by
 rw[JF];unfold NW Of;rw[show decide ((y:Int)=32)=(y==32)by rw[Fx];exact FQ.mpr (!3),show decide ((y:Int)=9)=(y==9)by rw[Fx];exact FQ.mpr (!3)]
def Sn:NW (LP [])=AJ:=!1
def blank_of(h:NW (LP t)=AJ):A3 t=t:=by
 cases t with
 |nil=>rfl
 |cons y r=>
  rw[Lq]at h;rw[K3,AD (by rw[h];decide)]
def JC(T:Txt K mg A):Pk P w K mg base 3 A.Ic "skip_blanks" ["self"] [] (NY A A3):=T.OD.at λF=>by
 show 9 ["self"];obtain⟨c,J,t,rfl,S,q⟩:=h;refine⟨_,(Hm (JS Ag (Ik (Hr (Oy T) (Hn (ID (Iy T) (pv 0))))) (Hm (Ju (pv 0) Ht La)))),?_⟩;refine⟨λm O B=>O=[U (.ref c)]/\ ∃u,m=u.length/\JN A B c J u/\Fr [c] H B/\A3 u=A3 t,⟨_,rfl,t,rfl,S,Fr.refl,rfl⟩,?_⟩;rintro m O H1 ⟨rfl,u,rfl,D,L,M⟩;obtain⟨dx,ao,p,e1,e2,Y,Z⟩:=D.ex;simp?! [e1,Kc e1,Ms];refine⟨c,J,u,rfl,D,?_⟩;simp?! [e1,Kc e1,Ms];cases u with
 |nil=>
  refine iF Sn ?_
  exact q _ (by rw[<-M];exact D) L
 |cons y r=>
  rw[Lq];by_cases E:Of y=AF
  .refine WJ E ?_
   obtain⟨g1,g2⟩:=Lm (k:=1) D e1 e2 Y Z (!2) rfl;refine⟨λG B=>G=[U (.ref c)]/\ ∃I,I.length<(y::r).length/\JN A B c J I/\Fr [c] H B/\A3 I=A3 t,?_,?_⟩
   .rintro G B ⟨rfl,I,l,g⟩;exact⟨_,l,rfl,I,rfl,g⟩
   refine⟨rfl,r,!2,g1,L.trans g2,?_⟩;rw[<-M,K3,AI E]
  have hy':Of y=AJ:=by simpa using E
  refine W5 E ?_
  refine q _ ?_ L
  rw[<-M,K3,AD E];exact D
def Sl(h:y<256):VN (LP (y::r))=ET y:=by
 rw[JF];unfold VN ET;by_cases B:y=9
 .subst B;rfl
 by_cases D:32<=y
 .by_cases E:y=127
  .subst E;rfl
  have e1:(y==9)=AJ:=by simpa using B
  have e2:(y != 127)=AF:=by simpa using E
  rw[e1,e2,Af D,AM (show¬(y:Int)=9 by lia),Af (show(32:Int)<=(y:Int)by lia),Af (show(y:Int)<=255 by lia)];by_cases F:(y:Int)<=126
  .rw[Af F];rfl
  rw[AM F,Af (show(128:Int)<=(y:Int)by lia)];rfl
 have e1:(y==9)=AJ:=by simpa using B
 rw[e1,AM D,AM (show¬(y:Int)=9 by lia),AM (show¬(32:Int)<=(y:Int)by lia),AM (show¬(128:Int)<=(y:Int)by lia)];rfl
def VM:VN (LP [])=AJ:=!1
def QJ(T:Txt K mg A):
  Pk P w K mg base 4 A.Ic "skip_blanks_and_line_ends" ["self"] [] (NY A gp):=T.Kv.at λF=>by
 show 9 ["self"];obtain⟨c,G,t,rfl,hc,q⟩:=h;refine⟨_,(Hm (JS Ag (PW.pt (Mg (Ik (Hr (Oy T) (Hn (ID (Iy T) (pv 0))))) (LU (IB L1 (ID (K4 T) (pv 0)) Ht)))) (Hm (Ju (pv 0) (IT (dY rfl) T.sP dg (Hz Ht (Hn (ID (K4 T) (pv 0))))) La)))),?_⟩;refine⟨λm Y D=>Y=[U (.ref c)]/\ ∃u,m=u.length/\JN A D c G u/\Fr [c] H D/\gp u=gp t,⟨_,rfl,t,rfl,hc,Fr.refl,rfl⟩,?_⟩;rintro m Y H1 ⟨rfl,u,rfl,I,Z,eu⟩;obtain⟨dx,ao,p,e1,e2,et,hp⟩:=I.ex;have step: ∀k,0<k->k<=u.length->gp (u.drop k)=gp u-> ∃N:_L.St->Hp->Prop,(∀B D,N B D-> ∃m',m'<u.length/\B=[U (V.ref c)]/\ ∃E,m'=E.length/\JN A D c G E/\Fr [c] H D/\gp E=gp t)/\N [U (.ref c)] (_L.Hu H1 c (.ins A.Ic dx (cf ao ((p:Int)+(k:Int))))):=by
  intro k hk L hg;obtain⟨g1,g2⟩:=Lm (k:=k) I e1 e2 et hp L rfl;refine⟨λB D=>B=[U (.ref c)]/\ ∃E,E.length<u.length/\JN A D c G E/\Fr [c] H D/\gp E=gp t,?_,?_⟩
  .rintro B D ⟨rfl,E,l,g⟩;exact⟨_,l,rfl,E,rfl,g⟩
  exact⟨rfl,_,by rw[AS];nofun,g1,Z.trans g2,hg.trans eu⟩
 simp?! [e1,Kc e1,Ms];refine⟨c,G,u,rfl,I,?_⟩;simp?! [e1,Kc e1,Ms];have turn:0<le u\/NW (LP u)=AF-> ∃k,0<k/\k<=u.length/\gp (u.drop k)=gp u/\((k:Int)=if(le u:Int)>1 then(le u:Int)else 1):=by
  rintro(h|h)
  .refine⟨le u,h,YA u,?_,?_⟩
   .have:E5 u=U (u.drop (le u)):=by rw[Ly,AD (!5)]
    exact(p9 this).symm
   split<;>nofun
  cases u with
  |nil=>show 6 Sn h
  |cons y r=>
   rw[Lq]at h;refine⟨1,!1,!2,(uF h).symm,?_⟩;have:le (y::r)=0:=by
    unfold le;split
    .rename_i z;cases z;revert h;decide
    .rename_i z;cases z;revert h;decide
    rfl
   rw[this];rfl
 by_cases J:NW (LP u)=AF
 .refine WJ J ?_
  simp only[BS];obtain⟨k,k1,k2,k3,M⟩:=turn (.inr J);obtain⟨N,O,S⟩:=step k k1 k2 k3;refine⟨N,O,c,G,u,rfl,I,?_⟩;simp?! [e1,Kc e1];rw[<-M];exact S
 refine W5 J ?_
 refine⟨c,G,u,rfl,I,?_⟩;simp?! [e1,Kc e1];by_cases hl:(0:Int)<(le u:Int)
 .refine dT hl ?_
  obtain⟨k,k1,k2,k3,M⟩:=turn (.inl (!5));obtain⟨N,O,S⟩:=step k k1 k2 k3;refine⟨N,O,c,G,u,rfl,I,?_⟩;simp?! [e1,Kc e1];rw[<-M];exact S
 refine dF hl ?_
 refine q _ ?_ Z
 have e3:E5 u=AB:=by rw[Ly,AI (!5)]
 rw[<-eu,SW (blank_of (!8 J)) e3];exact I
set_option tactic.hygienic false
def Ow(T:Txt K mg A):
  Pk P w K mg base 3 A.Ic "skip_comment" ["self"] [] (NY A SJ):=T.Nk.at λF=>by
 show 9 ["self"];obtain⟨c,G,t,rfl,L,q⟩:=h;refine⟨_,(Hm (IS (IB JB (ID (Iy T) (pv 0)) (Hx T.Wx)) (Hm (JS Ag (Ik (Hr (Ue T) (Hn (ID (Iy T) (pv 0))))) (Hm (Ju (pv 0) Ht La)))) IC)),?_⟩;simp?! [Ms];refine⟨c,G,t,rfl,L,?_⟩;simp?! [Ms];by_cases I:LP t=35
 .refine dT I ?_
  obtain⟨y,r,rfl,e4⟩:=My (!1) I;obtain rfl:y=35:=!3
  have M:SJ (35::r)=(35::r).dropWhile ET:=by
   rw[QR,Bj,AI (!1)]
  refine⟨λm Y B=>Y=[U (.ref c)]/\ ∃u,m=u.length/\JN A B c G u/\Fr [c] H B/\u.dropWhile ET=SJ (35::r),⟨_,rfl,_,rfl,L,Fr.refl,M.symm⟩,?_⟩;rintro m Y H1 ⟨rfl,u,rfl,D,O,S⟩;obtain⟨dx,ao,p,e1,e2,et,hp⟩:=D.ex;simp?! [e1,Kc e1,Ms];refine⟨c,G,u,rfl,D,?_⟩;simp?! [e1,Kc e1,Ms];cases u with
  |nil=>
   refine iF VM ?_
   exact q _ (by rw[<-S];exact D) O
  |cons y Z=>
   rw[Sl (D.sub y (!2))];by_cases J:ET y=AF
   .refine WJ J ?_
    obtain⟨g1,g2⟩:=Lm (k:=1) D e1 e2 et hp (!2) rfl;refine⟨λE B=>E=[U (.ref c)]/\ ∃v,v.length<(y::Z).length/\JN A B c G v/\Fr [c] H B/\v.dropWhile ET=SJ (35::r),?_,?_⟩
    .rintro E B ⟨rfl,v,l,g⟩;exact⟨_,l,rfl,v,rfl,g⟩
    refine⟨rfl,Z,!2,g1,O.trans g2,?_⟩;rw[<-S,Bj,AI J]
   refine W5 J ?_
   refine q _ ?_ O
   rw[<-S,Bj,AD J];exact D
 refine dF I ?_
 refine q _ ?_ Fr.refl
 rw[O9 (λr z=>I (by rw[z];rfl))];exact L
inductive TC (A:JL)(vs:List V)(H:Hp)(Q:VK)(E:XK):Prop
 |mk (c:AK)(a:Tx)(t:List Nat)(_:vs=[.ref c])(_:JN A H c a t)(_: ∀H' u,JN A H' c a u->Fr [c] H H'->(sp t=U u\/(sp t=AB/\Dc u))->Q .Jm H')
instance {A : JL} : Z5 A.Ic "skip_around" (TC A) := ⟨fun _ _ _ _ _ h => by obtain ⟨_, _, _, e, hc, _⟩ := h; exact hc.hs e RV⟩
def M3(T:Txt K mg A):
  Pk P w K mg base 5 A.Ic "skip_around" ["self"] [] (TC A):=T.OE.at λF=>by
 show 9 ["self"];obtain⟨c,D,t,rfl,S,q⟩:=h;refine⟨_,(Gy (IK (ID (QJ T) (pv 0)))
   (Hm (JS Ag (IB JB (ID (Iy T) (pv 0)) (Hx T.Wx)) (Gy (IK (ID (Ow T) (pv 0)))
   (Hm (IK (ID (QJ T) (pv 0)))))))),?_⟩
 simp?! [];refine⟨c,D,t,rfl,S,λH0 Y Z=>?_⟩;refine⟨λm L E=>L=[U (.ref c)]/\ ∃u,m=u.length/\JN A E c D u/\Fr [c] H E/\(jJ u=sp t\/(sp t=AB/\Dc u)),⟨_,rfl,_,rfl,Y,Z,.inl (VV t).symm⟩,?_⟩;rintro m L H1 ⟨rfl,u,rfl,J,M,B⟩;simp?! [];refine⟨c,D,u,rfl,J,?_⟩;simp?! [];by_cases I:LP u=35
 .refine dT I ?_
  obtain⟨y,r,rfl,e4⟩:=My (!1) I;obtain rfl:y=35:=!5
  have O:jJ (35::r)=sp t:=by
   obtain B|⟨_,dc⟩:=B
   .exact B
   exact absurd rfl (dc.hash r)
  refine⟨λG E=>G=[U (.ref c)]/\ ∃v,v.length<(35::r).length/\JN A E c D v/\Fr [c] H E/\(jJ v=sp t\/(sp t=AB/\Dc v)),?_,?_⟩
  .rintro G E ⟨rfl,v,l,g⟩;exact⟨_,l,rfl,v,rfl,g⟩
  refine⟨c,D,_,rfl,J,λH2 h2 f2=>?_⟩;simp?! [];refine⟨c,D,_,rfl,h2,λH3 h3 f3=>?_⟩;have l1:=OQ r;have l2:=Km (SJ (35::r));have l0:(35::r).length=r.length+1:=rfl;refine⟨gp (SJ (35::r)),!5,h3,(M.trans f2).trans f3,?_⟩;obtain z|⟨z,dc⟩:=Sy r
  .left;rw[<-VV,<-z,O]
  right;rw[O]at z;rw[dc.gp];exact⟨z,dc⟩
 refine dF I ?_
 refine q _ u J M ?_
 obtain B|B:=B
 .left;rw[<-B,MD (λr z=>I (by rw[z];rfl))]
 exact .inr B
inductive Xk (A:JL)(vs:List V)(H:Hp)(Q:VK)(E:XK):Prop
 |mk (c:AK)(a:Tx)(t:List Nat)(_:vs=[.ref c])(_:JN A H c a t)(_:(∀r,HS t=U r-> ∀H',JN A H' c a r->Fr [c] H H'->Q .Jm H'))(_:(HS t=AB-> ∀H',Fr [c] H H'->E (.ref A.wi) AB H'))
instance {A : JL} : Z5 A.Ic "finish_line" (Xk A) := ⟨fun _ _ _ _ _ h => by obtain ⟨_, _, _, e, hc, _⟩ := h; exact hc.hs e RW⟩
def VB(T:Txt K mg A):
  Pk P w K mg base 5 A.Ic "finish_line" ["self"] [] (Xk A):=T.OF.at λF=>by
 show 9 ["self"];obtain⟨c,D,t,rfl,O,S,Y⟩:=h;refine⟨_,(Gy (IK (ID (JC T) (pv 0)))
   (Gy (IK (ID (Ow T) (pv 0)))
   (Gy (IS (PW.pt (J2 (IB L0 (ID (Iy T) (pv 0)) (Hx T.Vq)) (Jr (IB JB (ID (K4 T) (pv 0)) Ht)))) (Hm (JE T.Ia rfl)) IC)
   (Hm (IK (ID (MT T) (pv 0))))))),?_⟩
 simp?! [];refine⟨c,D,t,rfl,O,λH0 Z L=>?_⟩;simp?! [];refine⟨c,D,_,rfl,Z,λH2 E M=>?_⟩;simp?! [];refine⟨c,D,_,rfl,E,?_⟩;have G:=Qt t;generalize SJ (A3 t)=r at*;simp?! [];have fin: ¬(r≠ []/\le r=0)->NY A (λt=>t.drop (le t)) [V.ref c] H2 (λx H'=>Q .Jm H') E0:=λz=>by
  rw[AD z]at G;exact⟨c,D,r,rfl,E,λH3 h3 f3=>S _ G _ h3 ((L.trans M).trans f3)⟩
 by_cases B:LP r=256
 .refine nF B ?_
  refine fin λz=>?_;cases r with
  |nil=>exact z.1 rfl
  |cons y r=>
   have:=E.sub y (!2);rw[JF]at B
   lia
 refine nT B ?_
 have I:r≠ []:=λz=>B (by rw[z];rfl);refine⟨c,D,r,rfl,E,?_⟩;simp?! [];by_cases J:(le r:Int)=0
 .refine dT J ?_
  rw[AI ⟨I,!3⟩]at G;exact Y G _ (L.trans M)
 refine dF J ?_
 exact fin λz=>J (!3)
def Iv(h:n<=1000):n<=Ac:=Aa h (!1)
noncomputable def NU(i:Int):Bool:=decide (i=34)||decide (i=39)
def Rh:Ji ["octet"] ["octet"] (IV (top 70)):=⟨rfl,rfl,rfl,!0,rfl,!0,!0⟩
def R3(T:Txt K mg A): !20 1 "is_quote" ["octet"] (Ms λi=>.bl (NU i)):=(T.fn 18 rfl).at λF=>by
 have S:=Rh;refine F.ZU Rh Me (λKg A outer s H vs Q E hr h=>?_);obtain⟨i,rfl,q⟩:=NZ h;refine⟨_,(Hm (Hy (QZ (KD JB (pv 0) (Hx T.KH)) (MI (KD JB (pv 0) (Hx T.T1)))))),?_⟩;simp![];dsimp only[NU]at q;by_cases B:i=34<;>by_cases D:i=39<;>(revert q;simp only[B,D,CB,DE,Bz,BZ,Be,CI,Cz,Cy,B8,CH,BO,Bd,BS,BX,Ai,ite_true,ite_false,Ec,Ea,ER,EO];first|done|exact id)
def XX(i:Int):Bool:=QM i||(Lx i||(decide (i=45)||decide (i=95)))
def TK:Ji ["octet"] ["octet"] (IV (top 80)):=⟨rfl,rfl,rfl,!0,rfl,!0,!0⟩
def Zw(T:Txt K mg A): !20 2 "is_bare" ["octet"] (Ms λi=>.bl (XX i)):=(T.fn 27 rfl).at λF=>by
 have S:=TK;refine F.ZU TK Me (λKg A outer s H vs Q E hr h=>?_);obtain⟨i,rfl,q⟩:=NZ h;refine⟨_,(Hm (Hy (QZ (Hr (XH T) (Hn (pv 0))) (QZ (Hr (LA T) (Hn (pv 0))) (QZ (KD JB (pv 0) (Hx T.SV)) (MI (KD JB (pv 0) (Hx T.Qo)))))))),?_⟩;simp![Ms];dsimp only[XX]at q;cases B:QM i<;>cases D:Lx i<;>by_cases G:i=45<;>by_cases I:i=95<;>rw[B,D]at q<;>(revert q;simp only[G,I,CB,DE,Bz,BZ,Be,CI,Cz,Cy,B8,CH,BO,Bd,BS,BX,Ai,ite_true,ite_false,Ec,Ea,ER,EO];first|done|exact id)
noncomputable def Sm(i:Int):Bool:=(decide (0<=i)&&decide (i<55296))||(decide (57344<=i)&&decide (i<=1114111))
def Nu:Ji ["number"] ["number"] (IV (top 58)):=⟨rfl,rfl,rfl,!0,rfl,!0,!0⟩
def N0(T:Txt K mg A): !20 1 "is_character" ["number"] (Ms λi=>.bl (Sm i)):=(T.fn 13 rfl).at λF=>by
 have S:=Nu;refine F.ZU Nu Me (λKg A outer s H vs Q E hr h=>?_);obtain⟨i,rfl,q⟩:=NZ h;refine⟨_,(Hm (Hy (QZ (Ks J6 Kt Ht (pv 0) Ht) (MI (Ks J6 J6 Ht (pv 0) Ht))))),?_⟩;simp![];dsimp only[Sm]at q;by_cases B:0<=i<;>by_cases D:i<55296<;>by_cases G:57344<=i<;>by_cases I:i<=1114111<;>(revert q;simp only[B,D,G,I,CB,DE,Bz,BZ,Be,CI,Cz,Cy,B8,CH,BO,Bd,BS,BX,Ai,ite_true,ite_false,Ec,Ea,ER,EO];first|done|exact id)
noncomputable def VE(H:Hp)(xs:List V)(Q:VK):Prop:= ∀B p,H p=AB->B p=U (.lst xs)->Fr [] H B->Q (.ref p) B
def VE.upd(h:VE H xs Q)(B:H p=AB):Q (.ref p) (_L.Hu H p (.lst xs)):=
 h _ p B Hq λb o e z=>by rw[Hv (IJ e B)];exact e
inductive fE (vs:List V)(H:Hp)(Q:VK)(E:XK):Prop
 |mk (n:Nat)(_:vs=[.int (n:Int)])(_:VE H (IH (D0 n)) Q):fE vs H Q E
def bN(T:Txt K mg A): !20 1 "octets_of_character" ["number"] fE:=by
 show 8 ["number","last","middle"] 14;obtain⟨n,rfl,q⟩:=h;refine⟨_,(Gy (IS (IB Kt (pv 0) Ht) (Hm (Hy (Ib (Hn (pv 0))))) IC)
   (Gy (IA (i:=1) (Ij KA Ht (Ij OW (pv 0) Ht)))
   (Gy (IS (IB Kt (pv 0) Ht) (Hm (Hy (Ib (Hz (Ij KA Ht (Ij PK (pv 0) Ht)) (Hn (pv 1)))))) IC)
   (Gy (IA (i:=2) (Ij KA Ht (Ij OW (Ij PK (pv 0) Ht) Ht)))
   (Gy (IS (IB Kt (pv 0) Ht) (Hm (Hy (Ib (Hz (Ij KA Ht (Ij PK (pv 0) Ht)) (Hz (pv 2) (Hn (pv 1))))))) IC)
   (Hm (Hy (Ib (Hz (Ij KA Ht (Ij PK (pv 0) Ht)) (Hz (Ij KA Ht (Ij OW (Ij PK (pv 0) Ht) Ht)) (Hz (pv 2) (Hn (pv 1))))))))))))),?_⟩
 simp![];unfold D0 at q;by_cases G:n<128
 .refine dT (show(n:Int)<128 by omega) ?_
  rw[AI G]at q;exact⟨Iv (!1),λp D=>q.upd D⟩
 refine dF (show¬(n:Int)<128 by omega) ?_
 rw[AD G]at q;refine⟨!1,?_⟩;by_cases I:n<2048
 .refine dT (show(n:Int)<2048 by omega) ?_
  rw[AI I]at q;refine⟨⟨!1,!1⟩,Iv (!1),λp D=>?_⟩;have:=q.upd D;simp only[IH,Av,EF,Ep,FW,FV]at this;exact this
 refine dF (show¬(n:Int)<2048 by omega) ?_
 rw[AD I]at q;refine⟨⟨!1,!1⟩,!1,?_⟩;generalize J:(65536:Int)=B;refine xr (λF=>?_) (λF=>?_)
 .have E:n<65536:=by have:=D6 F;omega
  rw[AI E]at q;refine⟨⟨!1,!1⟩,Iv (!1),λp D=>?_⟩;have:=q.upd D;simp only[IH,Av,EF,Ep,FW,FV]at this;exact this
 have E: ¬n<65536:=λz=>F (Af (!4));rw[AD E]at q;refine⟨⟨!1,!1⟩,⟨!1,!1⟩,!1,Iv (!1),λp D=>?_⟩;have:=q.upd D;simp only[IH,Av,EF,Ep,FW,FV]at this;exact this
def OC(q:Nat)(t:List Nat):Nat:=min 5 (qn q t)
inductive SI (A:JL)(vs:List V)(H:Hp)(Q:VK)(E:XK):Prop
 |mk (c:AK)(q:Nat)(a:Tx)(t:List Nat)(_:vs=[.ref c,.int (q:Int)])(_:JN A H c a t)(_:q<256)(_:Q (.int ((OC q t:Nat):Int)) H)
set_option tactic.hygienic true
theorem fZ{q:Nat}: ∀{t:List Nat}{k:Nat},k<qn q t->t.getD k 256=q
 |[],k,h=>by rw[TQ]at h;nofun
 |c::r,0,h=>by
  rw[LF]at h;split at h
  .rename_i e;exact e
  nofun
 |c::r,k+1,h=>by
  rw[LF]at h;split at h
  .exact fZ (t:=r) (k:=k) (!5)
  nofun
theorem aH(B:q≠256): ∀{t:List Nat},t.getD (qn q t) 256≠q
 |[]=>λz=>B z.symm
 |c::r=>by
  rw[LF];split
  .exact aH B (t:=r)
  rename_i e;exact λz=>e z
def O0(T:Txt K mg A): !20 2 "count_quotes" ["cursor","quote"] (SI A):=by
 show 8 ["cursor","quote","count"] 22;obtain⟨c,qt,I,t,rfl,J,O,q⟩:=h;refine⟨_,(Gy (IA (i:=2) Ht)
   (Gy (JS Ag (PW.pt (J2 (IB Kt (pv 2) (Hx T.Og)) (Jr (IB JB (Ie (MU T) (pv 0) (pv 2)) (pv 1))))) (Hm (WX (i:=2) S.nd rfl (CW rfl) Ht Zd)))
   (Hm (Hy (pv 2))))),?_⟩
 simp?! [];refine⟨λm G D=>D=H/\ ∃k:Nat,m=5-k/\k<=OC qt t/\G=[U (.ref c),U (.int (qt:Int)),U (.int (k:Int))],⟨_,rfl,0,rfl,Ax _,rfl⟩,?_⟩;rintro m G L ⟨rfl,k,rfl,E,rfl⟩;have M:k<=5:=Aa E (Cq _ _);simp?! [];by_cases Y:k<5
 .refine dT (show(k:Int)<5 by nofun) ?_
  refine⟨c,k,I,t,rfl,J,?_⟩;simp?! [];by_cases F:t.getD k 256=qt
  .rw[F,Af (rfl:((qt:Nat):Int)=(qt:Int)),AI rfl];refine⟨λB D=>D=L/\B=[U (.ref c),U (.int (qt:Int)),U (.int ((k+1:Nat):Int))],?_,?_⟩
   .rintro B D ⟨rfl,rfl⟩;refine⟨5-(k+1),!5,rfl,k+1,rfl,?_,rfl⟩;have:k≠qn qt t:=λz=>by
     rw[z]at F;exact aH (!5) F
    have:k<=qn qt t:=Aa E (De _ _);unfold OC
    nofun
   exact⟨rfl,rfl⟩
  refine dF (show¬((t.getD k 256:Nat):Int)=(qt:Int)by nofun) ?_
  have:OC qt t=k:=by
   have: ¬k<qn qt t:=λz=>F (fZ z);unfold OC at E⊢
   nofun
  rw[this]at q;exact q
 rw[AM (show¬(k:Int)<5 by nofun),AD AH,AD AH];have:OC qt t=k:=by
  unfold OC at E⊢
  nofun
 rw[this]at q;exact q
noncomputable def joined(t:List Nat):Bool:=match t with
 |92::r=>(E5 (A3 r)).isSome
 |_=>AJ
inductive fJ (A:JL)(vs:List V)(H:Hp)(Q:VK)(E:XK):Prop
 |mk (c:AK)(a:Tx)(t:List Nat)(_:vs=[.ref c])(_:JN A H c a t)(_: ∀H',JN A H' c a t->Fr [c] H H'->Q (.bl (joined t)) H')
def Yr(T:Txt K mg A): !20 4 "is_line_joined" ["cursor"] (fJ A):=by
 show 8 ["cursor","start","joined"] 23;obtain⟨c,I,t,rfl,D,q⟩:=h;refine⟨_,(Gy (IS (IB L0 (ID (Iy T) (pv 0)) (Hx T.Ka)) (Hm (Hy ND)) IC)
   (Gy (IA (i:=1) (Ih (pv 0) rfl))
   (Gy (IK (Ie (JX T) (pv 0) (Hx T.Ka) (hx:=Ig)))
   (Gy (IK (ID (JC T) (pv 0)))
   (Gy (IA (i:=2) (KD L1 (ID (K4 T) (pv 0)) Ht))
   (Gy (Ko (pv 0) (pv 1) rfl)
   (Hm (Hy (pv 2))))))))),?_⟩
 obtain⟨dx,ao,p,e1,e2,M,O⟩:=D.ex;simp?! [e1,Kc e1];refine⟨c,I,t,rfl,D,?_⟩;simp?! [e1,Kc e1];by_cases E:LP t=92
 .refine nF E ?_
  obtain⟨y,r,rfl,e4⟩:=My (!1) E;obtain rfl:y=92:=!3
  refine⟨c,92,I,_,rfl,D,!1,λy' r' e5 e6 H1 S Y=>?_,λz=>absurd E z⟩;cases e5;simp?! [];refine⟨c,I,_,rfl,S,λH2 J Z=>?_⟩;obtain⟨F,L,p2,B,G,et2,kx⟩:=J.ex;simp?! [B,Kc B];refine⟨c,I,_,rfl,J,?_⟩;simp?! [B,Kc B];have hj:decide ((0:Int)<(le (A3 r):Int))=joined (92::r):=by
   show _=(E5 (A3 r)).isSome;rw[Ly];by_cases z:le (A3 r)=0
   .rw[AI z,z];rfl
   rw[AD z,Af (!3)];rfl
  rw[hj];refine q _ ?_ ((Y.trans Z).trans (Fr.upd (!2)))
  refine⟨⟨F,L,p,Hq,?_,M,O⟩,⟨F,p,by rw[Hq,J.ao B]⟩,D.small,D.bytes⟩;rw[Hv (OY G B (by intro z;cases z))];exact G
 refine nT E ?_
 have:joined t=AJ:=by
  unfold joined;split
  .rename_i r;exact absurd rfl E
  rfl
 rw[this]at q;exact q _ D Fr.refl
end
def eW(n:Nat):(D0 n).length<=4:=by
 unfold D0;split
 .simp
 split
 .simp
 split<;>simp
set_option tactic.hygienic true
def Zj(h:DX t=U x):x.1.length+x.2.length<=t.length:=by
 unfold DX at h;split at h
 .cases h
 rename_i c r;by_cases B:c=34\/c=92
 .rw[AI B]at h;cases h;simp;nofun
 rw[AD B]at h;by_cases D:c=98
 .rw[AI D]at h;cases h;simp;nofun
 rw[AD D]at h;by_cases E:c=116
 .rw[AI E]at h;cases h;simp;nofun
 rw[AD E]at h;by_cases F:c=110
 .rw[AI F]at h;cases h;simp;nofun
 rw[AD F]at h;by_cases G:c=102
 .rw[AI G]at h;cases h;simp;nofun
 rw[AD G]at h;by_cases I:c=114
 .rw[AI I]at h;cases h;simp;nofun
 rw[AD I]at h;by_cases J:c=117\/c=85
 .rw[AI J]at h;dsimp only at h;generalize L:(if c=117 then 4 else 8)=k at h;have M:4<=k:=by rw[<-L];split<;>nofun
  split at h
  .rename_i q;cases h;have S:=eW (Ao 16 (r.take k));have O:=q.1;rw[AW]at O;show 4;rw[AS,AN]
   nofun
  cases h
 rw[AD J]at h;cases h
def Y3(h:wi q t=U x):x.1.length+x.2.length<=t.length:=by
 unfold wi at h;split at h
 .cases h
 rename_i c r;split at h
 .have:=Zj h;simp;omega
 split at h
 .cases h
 cases h;simp;omega
def Im{K:PySem.W.Frag}(h:H p=U (.lst xs)):ja K "list" (.ref p) H:=.inl ⟨rfl,xs,Ip.of h⟩
def Iq(a b:List Nat):IH (a++b)=IH a++IH b:=A8
noncomputable def lx(A:JL)(H:Hp)(c:AK)(D:Tx)(g:Option (List Nat×List Nat))(Q:VK)(E:XK):Prop:=
 (∀x,g=U x-> ∀B p,H p=AB->B p=U (.lst (IH x.1))->JN A B c D x.2->Fr [c] H B->Q (.ref p) B)/\(g=AB-> ∀B,Fr [c] H B->E (.ref A.wi) AB B)
inductive b0 (A:JL)(vs:List V)(H:Hp)(Q:VK)(E:XK):Prop
 |mk (c:AK)(a:Tx)(r:List Nat)(_:vs=[.ref c])(_:JN A H c a (92::r))(_:lx A H c a (DX r) Q E)
inductive Xh (A:JL)(vs:List V)(H:Hp)(Q:VK)(E:XK):Prop
 |mk (c:AK)(q:Nat)(a:Tx)(t:List Nat)(_:vs=[.ref c,.int (q:Int)])(_:JN A H c a t)(_:(q=34\/q=39))(_:lx A H c a (wi q t) Q E)
inductive mM (A:JL)(vs:List V)(H:Hp)(Q:VK)(E:XK):Prop
 |mk (c:AK)(q:Nat)(a:Tx)(r:List Nat)(_:vs=[.ref c])(_:JN A H c a (q::r))(_:(q=34\/q=39))(_:lx A H c a (ol q r) Q E)
def Fr.new(B:H p=AB):Fr W H (_L.Hu H p o):=λb u e z=>by rw[Hv (IJ e B)];exact e
def Fr.free(f:Fr [c] H E)(F:E c=U G)(D:E p=AB):H p=AB:=by
 cases z:H p with
 |none=>rfl
 |some o=>
  by_cases B:p=c
  .subst B;show 6 F D
  rw[f p o z (!8 B)]at D;cases D
def JN.at_(h:JN A H c B t): ∃o,H c=U o:=let⟨_,_,_,e,_,_,_⟩:=h.ex;⟨_,e⟩
theorem JN.lst(h:JN A H c B t):H B.ao=U (.lst (IH B.b)):=by
 obtain⟨dx,ao,q,e1,e2,_⟩:=h.ex;rw[<-h.ao e1];exact e2
def JN.wr(h:JN A H c B t)(D:p≠c)(E:p≠B.ao):JN A (_L.Hu H p o) c B t:=by
 obtain⟨dx,ao,q,e1,e2,e3,e4⟩:=h.ex;have ha:=h.ao e1;refine⟨⟨dx,ao,q,?_,?_,e3,e4⟩,⟨dx,q,?_⟩,h.small,h.bytes⟩
 .rw[Hv (Ne.symm D)];exact e1
 .rw[ha,Hv (Ne.symm E),<-ha];exact e2
 rw[Hv (Ne.symm D),<-ha];exact e1
def JN.ne(h:JN A H c D t)(B:H p=AB):p≠c/\p≠D.ao:=by
 constructor
 .rintro rfl;obtain⟨_,e⟩:=h.at_;show 6 e B
 rintro rfl;rw[h.lst]at B;cases B
theorem JN.free(h:JN A B c E t)(f:Fr [c] H B)(D:B p=AB):H p=AB:=let⟨_,e⟩:=h.at_;f.free e D
def JN.new(h:JN A H c B t)(D:H p=AB):JN A (_L.Hu H p o) c B t:=
 h.fr (W:=[]) (λb o e z=>by rw[Hv (IJ e D)];exact e) (!2) (λz z z=>by simp)
def JN.bA(h:JN A H c B t)(f:Fr W H E)(D:c∉W)(F:B.ao∉W):JN A E c B t:=by
 obtain⟨dx,ao,q,e1,e2,e3,e4⟩:=h.ex;have ha:=h.ao e1;refine⟨⟨dx,ao,q,f _ _ e1 D,f _ _ e2 (by rw[ha];exact F),e3,e4⟩,⟨dx,q,?_⟩,h.small,h.bytes⟩;rw[<-ha];exact f _ _ e1 D
end _S
namespace _L
open PySem PySem.Spec PyProof.Rows
noncomputable def Uv(B:List (Int×Int)):List (Key×V):=B.map λp=>(Cf p.1,V.int p.2)
noncomputable def Z1(K:PySem.W.Frag)(d:AK)(B:List (Int×Int)):Prop:=(d==CM)=AJ/\ ∀(P:BB)(w:BJ)(h:Heap),K.In h-> ∃vs,KV (Uv B) vs/\h.DictOf (J0 P w) d vs
noncomputable def tabAt(B:List (Int×Int))(i:Int):Option Int:=(B.find? λp=>decide (p.1=i)).map (·.2)
def Xd(B:List (Int×Int))(i:Int):Lp (Uv B) (Cf i)=(tabAt B i).map V.int:=by
 unfold Lp Uv tabAt
 induction B with
 |nil=>rfl
 |cons p r D=>
  rw[Av,List.find?_cons,List.find?_cons];by_cases e:p.1=i
  .rw[Af e,Af (by rw[e])];rfl
  rw[AM e,AM (λz=>e (G6 z))];exact D
section
variable{X:Cx}{d:AK}{LZ:List (Int×Int)}{o i:Expr}{pos:Pos}{td ty:TE}
def TZ(t:Z1 X.K d LZ):P0 X (Bm .In) (λx y H Q=> ∃i,x=.int i/\y=.ref d/\Q (.bl (tabAt LZ i).isSome) H):=by
 intro Ho s E H x y v u Q I B D h;obtain⟨i,rfl,rfl,q⟩:=h;cases D;obtain⟨vs,rel,dd⟩:=t.2 X.prog X.w s.heap I.Pu;refine wpAny_in_of (Tw (k:=Cf i) B) t.1 dd.mapOf ?_
 rw[<-(rel.val (Cf i)).ME,Xd,EC];exact⟨.bl _,H,I.tok _,rfl,q⟩
def ej(d:AK)(LZ:List (Int×Int))(td ty:TE):TE:=λB H Q=>td B H λx D=>ty B D λy H2=> ∃i v,x=.ref d/\y=.int i/\tabAt LZ i=U v/\Q (.int v) H2
def ZR(t:Z1 X.K d LZ)(G:PE X o td)(J:PE X i ty)(hs:qj i):PE X (.Subscript o i pos) (ej d LZ td ty):=by
 intro Ho s D H Q I h;refine aD PySem.F.slot_dict_getitem.lookup hs (Jv (G Ho s D H _ I h) λu L ⟨x,M,O,S,Y⟩=>Jv (J Ho L D M _ O Y) λiv Z ⟨y,H2,E,ry,j,v,ex,ey,l,q2⟩=>?_);subst ex ey;obtain rfl:u=BF d:=S;obtain⟨vs,rel,dd⟩:=t.2 X.prog X.w Z.heap E.Pu;obtain⟨w',hw,B⟩:=O1.some_of (v:=V.int v) (o:=valueAt vs (Cf j)) (by have:=rel.val (Cf j);rw[Xd,l]at this;exact this);exact⟨dd.typeIs,Gx (Tw (k:=Cf j) ry) dd.mapOf hw ⟨.int v,H2,E.tok _,B,q2⟩⟩
def Je(hm:X.mg x=U (.ref a))(B:Gl X x)(hd:autoParam ((x==("__debug__":Str))=AJ) Li):PE X (.Name x pos) (tC (.ref a)):=WZ B hm rfl hd
inductive wD (K:PySem.W.Frag)(c:Value)(x:V)(H:Hp)(Q:Bool->Prop):Prop
 |mk (t:Value)(a:QL K H x t)(b:Bool)(e:PySem.W.kitOne K t c=U b)(q:Q b)
noncomputable def pI(K:PySem.W.Frag)(vs:List V)(H:Hp)(Q:VK):Prop:=match vs with|[x,.ref C]=>wD K (.ref C) x H (λb=>Q (.bl b) H)|[x,.ty n]=>wD K (.type n) x H (λb=>Q (.bl b) H)|_=>False
def kj{K:PySem.W.Frag}(h:pI K vs H Q):(∃x C,vs=[x,.ref C]/\wD K (.ref C) x H (λb=>Q (.bl b) H))\/ ∃x n,vs=[x,.ty n]/\wD K (.type n) x H (λb=>Q (.bl b) H):=by
 unfold pI at h;split at h
 .exact .inl ⟨_,_,rfl,h⟩
 .exact .inr ⟨_,_,rfl,h⟩
 exact h.elim
def JZ:O3 X (.builtin "isinstance") (pI X.K):=by
 intro Ho s F H xs us Q I r h;obtain⟨x,C,rfl,t,ty,b,e,q⟩|⟨x,n,rfl,t,ty,b,e,q⟩:=kj h
 .cases r with
  |cons D B=>
   cases B with
   |cons B E=>
    cases E;cases B;exact Ye I D ⟨t,b,ty,e,q⟩
 cases r with
 |cons D B=>
  cases B with
  |cons B E=>
   cases E;cases B;exact Ye I D ⟨t,b,ty,e,q⟩
end
end _L
namespace _S
open PySem PySem.Spec PyProof.Rows _L
structure LN(K:PySem.W.Frag)(mg:Str->Option Value):Prop where
 esc: ∃d,mg "ESCAPED"=U (.ref d)/\Z1 K d [(98,8),(116,9),(110,10),(102,12),(114,13),(34,34),(92,92)]
 zd: ∃d,mg "ESCAPED_DIGITS"=U (.ref d)/\Z1 K d [(117,4),(85,8)]
 bases: ∃d,mg "BASES"=U (.ref d)/\Z1 K d [(120,16),(111,8),(98,2)]
section
variable{P:BB}{w:BJ}{K:PySem.W.Frag}{mg:Str->Option Value}{base:Heap}{A:JL}
inductive ZH (A:JL)(vs:List V)(H:Hp)(Q:VK)(E:XK):Prop
 |mk (c:AK)(n:Nat)(a:Tx)(t:List Nat)(_:vs=[.ref c,.int (n:Int)])(_:JN A H c a t)(_:n<=8)(_:lx A H c a (if(t.take n).length=n/\(t.take n).all EV=AF/\C2 (Ao 16 (t.take n))=AF then U (D0 (Ao 16 (t.take n)),t.drop n)else AB) Q E)
def XW{y:Nat}:Mq (y:Int)=((dw y:Nat):Int):=by
 unfold Mq dw Lx;simp only[AX,Ak];repeat' split
 all_goals lia
def hU(y:Nat):EV y=decide (dw y<16):=by rw[<-ma];rfl
def uT(y:Nat):dw y<=16:=by
 unfold dw;repeat' split
 all_goals omega
def RB(n:Nat):Sm (n:Int)=C2 n:=by
 unfold Sm C2;apply A9.mpr;simp only[BE,AX,Ak];generalize J:(1114111:Int)=B;generalize E:(1114112:Nat)=C;generalize L:(57344:Int)=D;generalize M:(57344:Nat)=F;generalize O:(55296:Int)=G;generalize S:(55296:Nat)=I;have e1:C=1114112:=E.symm
 lia
def SE(T:Txt K mg A): !20 3 "read_numbered" ["cursor","length"] (ZH A):=by
 show 8 ["cursor","length","number","step","worth"] 26;obtain⟨c,n,ts,t,rfl,I,hn,q1,J⟩:=h;refine⟨_,(Gy (IA (i:=2) Ht)
   (Gy (LG Ag rfl (cD rfl T.kZ (Hn (pv 1))) (JO (i:=3) S.nd rfl (CW rfl)) (Gy (IA (i:=4) (Hr (Oz T) (Hn (Ie (MU T) (pv 0) (pv 3)))))
   (Gy (IS (IB JB (pv 4) (Hx T.T2)) (Hm (JE T.Ia rfl)) IC)
   (Hm (IA (i:=2) (Ij KA (Ij We (pv 2) Ht) (pv 4)))))))
   (Gy (IS (LV (Ik (Hr (N0 T) (Hn (pv 2))))) (Hm (JE T.Ia rfl)) IC)
   (Gy (Ju (pv 0) (pv 1) La)
   (Hm (Hy (Hr (bN T) (Hn (pv 2))))))))),?_⟩
 obtain⟨dx,ao,p,e1,e2,et,hp⟩:=I.ex;simp?! [e1,Kc e1,Ms];have E: ∀i,i<n-> ∀y,t[i]? =U y->Ao 16 (t.take (i+1))=Ao 16 (t.take i)*16+HU y:=by
  intro i hi y D;have:t.take (i+1)=t.take i++[y]:=by
   rw[Cw,D];rfl
  rw[this];unfold Ao;rw[DS];simp only[Dv,Ha]
  nofun
 refine⟨(n:Int),rfl,!5,!5,dJ (lo:=0) (n:=(n:Int).toNat) (λi L M=>M=H/\(t.take i).length=i/\(t.take i).all EV=AF/\ ∃O Y,L=[U (.ref c),U (.int (n:Int)),U (.int ((Ao 16 (t.take i):Nat):Int)),O,Y]) ⟨rfl,rfl,rfl,AB,AB,rfl⟩ ?_ ?_⟩
 .rintro i L M hi ⟨rfl,F,ha,O,Y,rfl⟩;have G:i<n:=!5
  have bad:(∀y,t[i]? =U y->EV y=AJ)-> ¬((t.take n).length=n/\(t.take n).all EV=AF/\C2 (Ao 16 (t.take n))=AF):=by
   rintro hb ⟨z1,z2,_⟩;rw[AW]at z1;have B:i<t.length:=!5
   have h1:=hb _ (List.getElem?_eq_getElem B);have h2:=A7.mp z2 t[i] (by
    have:(t.take n)[i]? =U t[i]:=by rw[List.getElem?_take_of_lt G,List.getElem?_eq_getElem B]
    exact BI this)
   show 6 h1 h2
  show _;simp?! [e1,Kc e1,Ms];have ei:(0:Int)+(i:Int)=((i:Nat):Int):=!5
  rw[ei];refine⟨c,i,ts,t,rfl,I,?_⟩;simp?! [e1,Kc e1,Ms];cases D:t[i]? with
  |none=>
   have:t.getD i 256=256:=by rw[List.getD_eq_getElem?_getD,D];rfl
   rw[this];have Z:Mq ((256:Nat):Int)=16:=!1
   rw[Z,Af rfl,AI rfl];exact J (AD (bad λy z=>by show 6 D z)) _ Fr.refl
  |some y=>
   have:t.getD i 256=y:=by rw[List.getD_eq_getElem?_getD,D];rfl
   rw[this,XW];by_cases hx:dw y=16
   .rw[hx,Af (show(((16:Nat):Int))=16 from rfl),AI rfl];refine J (AD (bad λy' z=>?_)) _ Fr.refl;show 6 D z;rw[hU];exact AM (!5)
   refine dF (show¬((dw y:Nat):Int)=16 by nofun) ?_
   have B:dw y<16:=by have:=uT y;nofun
   have Zf:t.take (i+1)=t.take i++[y]:=by
    rw[Cw,D];rfl
   refine⟨.inr ⟨!1,!1⟩,?_,?_,?_⟩
   .rw[Zf,AG,F];rfl
   .rw[Zf,List.all_append,ha];simp only[CT,List.all_nil,BZ,Bz];rw[hU];exact Af B
   refine⟨?_,_,rfl⟩;rw[E i G y D,<-YS B];push_cast
   rfl
 rintro L M ⟨rfl,F,ha,O,Y,rfl⟩;rw[Bw]at F ha;rw[Bw];simp?! [e1,Kc e1,Ms];rw[RB];cases hs:C2 (Ao 16 (t.take n))with
 |false=>
  refine Xc ?_
  exact J (AD λz=>by rw[hs]at z;cases z.2.2) _ Fr.refl
 |true=>
  refine bB ?_
  have hnl:n<=t.length:=by rw[AW]at F;nofun
  obtain⟨w1,w2⟩:=Lm (k:=n) I e1 e2 et hp hnl rfl;refine⟨_,rfl,λH2 p2 kx tR f2=>?_⟩;refine q1 _ (AI ⟨F,ha,hs⟩) H2 p2 ?_ tR ?_ (w2.trans (f2.mono (!2)))
  .exact w1.free w2 kx
  exact w1.bA f2 (!2) (!2)
noncomputable abbrev bq:List (Int×Int):=[(98,8),(116,9),(110,10),(102,12),(114,13),(34,34),(92,92)]
noncomputable abbrev ji:List (Int×Int):=[(117,4),(85,8)]
def Jj(k v:Int)(r:List (Int×Int))(i:Int):tabAt ((k,v)::r) i=if k=i then U v else tabAt r i:=by
 unfold tabAt;rw[List.find?_cons];by_cases e:k=i
 .rw[Af e,AI e];rfl
 rw[AM e,AD e]
def RD(i:Int):tabAt [] i=AB:=rfl
def W6(c:Nat)(r:List Nat):(∃v:Nat,tabAt bq (c:Int)=U (v:Int)/\DX (c::r)=U ([v],r))∨
  (tabAt bq (c:Int)=AB/\ ∃k:Nat,k<=8/\tabAt ji (c:Int)=U (k:Int)/\DX (c::r)=if(r.take k).length=k/\(r.take k).all EV=AF/\C2 (Ao 16 (r.take k))=AF then U (D0 (Ao 16 (r.take k)),r.drop k)else AB)∨
  (tabAt bq (c:Int)=AB/\tabAt ji (c:Int)=AB/\DX (c::r)=AB):=by
 by_cases L:c=34
 .subst L;exact .inl ⟨34,!1,rfl⟩
 by_cases M:c=92
 .subst M;exact .inl ⟨92,!1,rfl⟩
 by_cases E:c=98
 .subst E;exact .inl ⟨8,!1,rfl⟩
 by_cases F:c=116
 .subst F;exact .inl ⟨9,!1,rfl⟩
 by_cases G:c=110
 .subst G;exact .inl ⟨10,!1,rfl⟩
 by_cases I:c=102
 .subst I;exact .inl ⟨12,!1,rfl⟩
 by_cases J:c=114
 .subst J;exact .inl ⟨13,!1,rfl⟩
 have D:tabAt bq (c:Int)=AB:=by
  unfold bq;rw[Jj,AD (!3),Jj,AD (!3),Jj,AD (!3),Jj,AD (!3),Jj,AD (!3),Jj,AD (!3),Jj,AD (!3),RD]
 have B:DX (c::r)=if c=117\/c=85 then
   (let k:=if c=117 then 4 else 8
    let d:=r.take k
    if d.length=k/\d.all EV=AF/\C2 (Ao 16 d)=AF then U (D0 (Ao 16 d),r.drop k)else AB)else AB:=by
  unfold DX;show 4;rw[AD (!3),AD E,AD F,AD G,AD I,AD J]
 by_cases O:c=117
 .subst O;exact .inr (.inl ⟨D,4,!1,!1,by rw[B,AI (.inl rfl)];rfl⟩)
 by_cases S:c=85
 .subst S;exact .inr (.inl ⟨D,8,!1,!1,by rw[B,AI (.inr rfl)];rfl⟩)
 refine .inr (.inr ⟨D,?_,by rw[B,AD (!3)]⟩);unfold ji;rw[Jj,AD (!3),Jj,AD (!3),RD]
def Ub(T:Txt K mg A)(TT:LN K mg): !20 4 "read_escaped" ["cursor"] (b0 A):=(T.fn 25 rfl).at λF=>by
 obtain⟨d1,g1,t1⟩:=TT.esc;obtain⟨d2,g2,t2⟩:=TT.zd;show 9 ["cursor","sign"];obtain⟨c,I,r,rfl,hc,Y,M⟩:=h;refine⟨_,(Gy (IK (Ie (JX T) (pv 0) (Hx T.Ka) (hx:=Ig)))
   (Gy (IA (i:=1) (ID (Iy T) (pv 0)))
   (Gy (IS (IB (TZ t1) (pv 1) (Je g1 rfl) (hm:=rfl)) (Gy (IK (Ie (JX T) (pv 0) (pv 1) (hx:=Ig)))
   (Hm (Hy (Ib (Hn (ZR t1 (Je g1 rfl) (pv 1) (λw w=>rfl))))))) IC)
   (Gy (IS (IB (TZ t2) (pv 1) (Je g2 rfl) (hm:=rfl)) (Gy (IK (Ie (JX T) (pv 0) (pv 1) (hx:=Ig)))
   (Hm (Hy (Hr (SE T) (Hz (pv 0) (Hn (ZR t2 (Je g2 rfl) (pv 1) (λw w=>rfl)))) (hx:=Ig))))) IC)
   (Hm (JE T.Ia rfl)))))),?_⟩
 obtain⟨dx,ao,p,e1,e2,et,G⟩:=hc.ex;simp?! [e1,Kc e1,ej];refine⟨c,_,I,_,rfl,hc,!1,λy' r' e5 e6 H1 O S=>?_,λz=>absurd rfl z⟩;cases e5;simp?! [ej];refine⟨c,I,_,rfl,O,?_⟩;simp?! [ej];cases r with
 |nil=>
  have D:tabAt bq (LP [])=AB:=!1
  have E:tabAt ji (LP [])=AB:=!1
  rw[D,E];simp only[Bp,Ai,BX];exact M rfl _ S
 |cons y r=>
  have hy:=O.sub y (!2);rw[JF];have J:(y:Int)≠256:=!5
  obtain⟨v,D,E⟩|⟨Z,k,hk,D,E⟩|⟨Z,D,E⟩:=W6 y r
  .rw[D];simp only[Bf,BS];refine⟨c,_,I,_,rfl,O,J,λy' r' e5 e6 H2 L f2=>⟨_,rfl,Iv (!1),λp G=>?_⟩,λz=>absurd rfl z⟩;cases e5;have B:=S.trans f2;exact Y _ E _ p (L.free B G) Hq (L.new G) (B.trans (Fr.new G))
  .rw[Z,D];simp only[Bp,Bf,Ai,BX,BS];refine⟨c,_,I,_,rfl,O,J,λy' r' e5 e6 H2 L f2=>⟨_,rfl,?_⟩,λz=>absurd rfl z⟩;cases e5;have B:=S.trans f2;rw[E]at Y M;exact⟨c,k,I,_,rfl,L,hk,λx ex H3 p G hl h3 f3=>Y x ex H3 p (L.free B G) hl h3 (B.trans f3),λen H3 f3=>M en H3 (B.trans f3)⟩
  rw[Z,D];simp only[Bp,Ai,BX];exact M E _ S
def Pz(T:Txt K mg A)(TT:LN K mg): !20 5 "read_within" ["cursor","quote"] (Xh A):=by
 show 8 ["cursor","quote","octet"] 24;obtain⟨c,qt,L,t,rfl,F,hq,Y,M⟩:=h;refine⟨_,(Gy (IA (i:=2) (ID (Iy T) (pv 0)))
   (Gy (IS (PW.pt (J2 (IB JB (pv 2) (Hx T.Ka)) (Jr (IB JB (pv 1) (Hx T.KH))))) (Hm (Hy (Hr (Ub T TT) (Hn (pv 0)) (hx:=Ig)))) IC)
   (Gy (IS (LV (Ik (Hr (Ue T) (Hn (pv 2))))) (Hm (JE T.Ia rfl)) IC)
   (Gy (IK (Ie (JX T) (pv 0) (pv 2) (hx:=Ig)))
   (Hm (Hy (Ib (Hn (pv 2))))))))),?_⟩
 obtain⟨dx,ao,p,e1,e2,et,D⟩:=F.ex;simp?! [e1,Kc e1,Ms];refine⟨c,L,t,rfl,F,?_⟩;simp?! [e1,Kc e1,Ms];have rest:(∀r,t≠92::r\/qt≠34)->(if(!VN (LP t))=AF then E (BF A.wi) AB H else WL A [V.ref c,V.int (LP t)] H (λx O=>1<=Ac/\ ∀p,O p=AB->Q (V.ref p) (_L.Hu O p (HO.lst [V.int (LP t)]))) E):=by
  intro S;cases t with
  |nil=>
   rw[VM];refine Xc ?_
   exact M rfl _ Fr.refl
  |cons y r=>
   have hy:=F.sub y (!2);have J:wi qt (y::r)=if ET y=AJ then AB else U ([y],r):=by
    unfold wi;show 4;rw[AD];rintro⟨rfl,rfl⟩;obtain z|z:=S r<;>exact z rfl
   rw[Sl hy];cases hs:ET y with
   |false=>
    refine Xc ?_
    rw[hs,AI rfl]at J;exact M J _ Fr.refl
   |true=>
    refine bB ?_
    rw[hs,AD (!1)]at J;refine⟨c,_,L,_,rfl,F,by rw[JF];lia,λy' r' e5 e6 O Z f1=>?_,λz=>absurd rfl z⟩;cases e5;refine⟨Iv (!1),λp D=>?_⟩;have h0:H p=AB:=by
     cases z:H p with
     |none=>rfl
     |some o=>
      by_cases G:p=c
      .subst G;obtain⟨_,_,_,z1,_⟩:=Z.ex;show 6 z1 D
      rw[f1 p o z (!8 G)]at D;cases D
    refine Y _ J _ p h0 Hq ?_ (f1.trans λb o e x=>by rw[Hv (IJ e D)];exact e)
    refine Z.fr (W:=[]) (λb o e x=>by rw[Hv (IJ e D)];exact e) (!2) (λx x x=>by simp)
 by_cases B:LP t=92
 .refine dT B ?_
  by_cases I:(qt:Int)=34
  .refine dT I ?_
   obtain⟨y,r,rfl,e4⟩:=My (!1) B;obtain rfl:y=92:=!3
   obtain rfl:qt=34:=!3
   exact⟨c,L,r,rfl,F,Y,M⟩
  refine dF I ?_
  exact rest λr=>.inr (!3)
 rw[AM B,AD AH,AD AH];exact rest λr=>.inl λz=>B (by rw[z];rfl)
def Xp(k q:Nat):(Ad k [V.int (q:Int)]).flatten=IH (Ad k q):=by
 induction k with
 |zero=>rfl
 |succ k B=>
  rw[B4,B4,DT,B];rfl
def bG{qt k:Nat}(G:D p=U (.lst (IH acc)))(Y:F=(k:Int))(hk:k<=5)(J:acc.length<=30000)(h: ∀I,I p=U (.lst (IH (acc++Ad k qt)))->Fr [p] D I->R I):
  ja K "list" (V.ref p) D/\1<=Ac/\ ∀B,D B=AB-> ∃x,_L.Hu D B (HO.lst [V.int (qt:Int)]) B=U (HO.lst x)/\ -2^63<=F/\F<2^63/\x.length*F.toNat<=Ac∧
   ∀E,_L.Hu D B (HO.lst [V.int (qt:Int)]) E=AB->Et (_L.Hu (_L.Hu D B (HO.lst [V.int (qt:Int)])) E (HO.lst (Ad F.toNat x).flatten)) p E R:=by
 subst Y;refine⟨.inl ⟨rfl,_,Ip.of G⟩,Iv (!1),λB L=>⟨_,Hq,!5,!5,?_,λE M=>?_⟩⟩
 .exact Iv (by simp;nofun)
 have Z:p≠B:=IJ G L;have O:_L.Hu D B (HO.lst [V.int (qt:Int)]) p=U (.lst (IH acc)):=by rw[Hv Z];exact G
 have a2:p≠E:=IJ O M;refine⟨_,by rw[Hv a2];exact O,_,Hq,?_,?_⟩
 .rw[Bw,Xp,Hw,Hw,B6];exact Aa (show acc.length+k<=40000 by nofun) (!1)
 refine h _ ?_ ?_
 .rw[Hq,Bw,Xp,Iq]
 intro b o e n;have nb:b≠p:=by simpa using n
 have S:_L.Hu D B (HO.lst [V.int (qt:Int)]) b=U o:=by rw[Hv (IJ e L)];exact e
 rw[Hv nb,Hv (IJ S M)];exact S
def Fr.wr(f:Fr [c] B H)(D:B p=AB):Fr [c] B (_L.Hu H p o):=λb u e n=>by
 rw[Hv (IJ e D)];exact f b u e n
noncomputable def Yv(A:JL)(H:Hp)(c:AK)(D:Tx)(p:AK)(g:List Nat->Option (List Nat×List Nat))(r:List Nat)(B:Hp)(u:List Nat):Prop:=
 ∃acc,JN A B c D u/\Fr [c] H B/\B p=U (.lst (IH acc))/\acc.length+u.length<=r.length/\g r=(g u).map (λy=>(acc++y.1,y.2))
def Ua(T:Txt K mg A)(TT:LN K mg): !20 6 "read_one_line" ["cursor"] (mM A):=by
 show 8 ["cursor","quote","said"] 20;obtain⟨c,qt,E,r,rfl,J,hq,q1,q2⟩:=h;have B:(qt:Int)≠256:=!5
 refine⟨_,(Gy (IA (i:=1) (ID (Iy T) (pv 0)))
   (Gy (IK (Ie (JX T) (pv 0) (pv 1) (hx:=Ig)))
   (Gy (IA (i:=2) (Ib ML))
   (Gy (JS Ag (IB L0 (ID (Iy T) (pv 0)) (pv 1)) (Hm (IK (KZ PySem.F.plainAttrs_list PySem.F.slot_list_extend PySem.F.type_list_extend Kl (pv 2) (Hn (Hr (Pz T TT) (Hz (pv 0) (Hn (pv 1))) (hx:=Ig)))))))
   (Gy (IK (Ie (JX T) (pv 0) (pv 1) (hx:=Ig)))
   (Hm (Hy (pv 2)))))))),?_⟩
 obtain⟨dx,ao,p,e1,e2,et,O⟩:=J.ex;simp?! [e1,Kc e1];refine⟨c,E,_,rfl,J,?_⟩;rw[JF];simp?! [e1,Kc e1];refine⟨c,_,E,_,rfl,J,B,λy' r' e5 e6 H1 h1 f1=>?_,λz=>absurd rfl z⟩;cases e5;refine⟨Iv (!1),λp O=>?_⟩;have G:H p=AB:=h1.free f1 O;obtain⟨Y,Z⟩:=J.ne G;refine⟨λm σ S=>σ=[U (.ref c),U (.int (qt:Int)),U (.ref p)]/\ ∃u,m=u.length/\Yv A H c E p (ol qt) r S u,
  ⟨_,rfl,r,rfl,[],h1.new O,f1.trans (Fr.new O),Hq,!2,?_⟩,?_⟩
 .cases ol qt r<;>rfl
 rintro m σ H2 ⟨rfl,u,rfl,acc,hu,f2,hl,hn,eo⟩;have tG:r.length<=20000:=by
  have:=J.len;have:=J.small;simp at*
  nofun
 simp?! [];refine⟨c,E,u,rfl,hu,?_⟩;simp?! [];by_cases L:LP u=(qt:Int)
 .refine nF L ?_
  obtain⟨y,u',rfl,e4⟩:=My B L;obtain rfl:y=qt:=!5
  refine⟨c,_,E,_,rfl,hu,B,λy' r' e5 e6 H3 h3 I=>?_,λz=>absurd L z⟩;cases e5;have eo':ol y r=U (acc,u'):=by
   rw[eo,PL,AI rfl];simp
  exact q1 _ eo' _ p G (I p _ hl (!8 Y)) h3 (f2.trans I)
 refine nT L ?_
 have D:ol qt u=(wi qt u).bind λx=>(ol qt x.2).map λy=>(x.1++y.1,y.2):=by
  cases u with
  |nil=>rfl
  |cons y u'=>
   rw[PL,AD (λz=>L (by rw[JF,z]))]
 refine⟨λM S=>M=[U (.ref c),U (.int (qt:Int)),U (.ref p)]/\ ∃v,v.length<u.length/\Yv A H c E p (ol qt) r S v,?_,?_⟩
 .rintro M S ⟨rfl,v,l,g⟩;exact⟨_,l,rfl,v,rfl,g⟩
 refine⟨Im hl,c,qt,E,u,rfl,hu,hq,λx ex H3 b hb rA h3 I=>?_,λen H3 I=>?_⟩
 .have pT:=I p _ hl (!8 Y);have hx:=Y3 ex;have x3:=J3 ex;simp![uN pT rA];refine⟨?_,x.2,x3,acc++x.1,h3.wr Y Z,(f2.trans I).wr G,?_,?_,?_⟩
  .rw[Hw,Hw];exact Aa (show acc.length+x.1.length<=20000 by nofun) (!1)
  .rw[Hq,Iq]
  .rw[AG]
   nofun
  rw[eo,D,ex];show 3;cases ol qt x.2 with
  |none=>rfl
  |some y=>simp only[Bq,Ah]
 refine q2 ?_ _ (f2.trans I)
 rw[eo,D,en];rfl
noncomputable def XO(A:JL)(H:Hp)(c:AK)(E:Tx)(p:AK)(qt:Nat)(F:List Nat)(n:Nat)(B:_L.St)(G:Hp):Prop:=
 ∃D,B=[U (V.ref c),U (V.int (qt:Int)),U (V.ref p),U (V.int ((OC qt D:Nat):Int))]/\D.length<n/\Yv A H c E p (ml qt) F G D
inductive oF (A:JL)(vs:List V)(H:Hp)(Q:VK)(E:XK):Prop
 |mk (c:AK)(q:Nat)(a:Tx)(r:List Nat)(_:vs=[.ref c])(_:JN A H c a (q::q::q::r))(_:(q=34\/q=39))(_:(∀x,(ml q (r.drop (le r))=U x\/(ml q (r.drop (le r))=AB/\ ∃z,x.2=q::z))->x.1.length<=r.length-> ∀H' p,H p=AB->H' p=U (.lst (IH x.1))->JN A H' c a x.2->Fr [c] H H'->Q (.ref p) H'))(_:(ml q (r.drop (le r))=AB-> ∀H',Fr [c] H H'->E (.ref A.wi) AB H'))
theorem mW(q:Nat): ∀t:List Nat,qn q t<=t.length
 |[]=>AR _
 |c::r=>by
  rw[LF];split
  .have:=mW q r;simp
   nofun
  nofun
def TR(q:Nat)(t:List Nat):OC q t<=t.length:=Aa (De _ _) (mW q t)
set_option tactic.hygienic true
theorem aI(q:Nat): ∀(t:List Nat)(k:Nat),k<qn q t-> ∃z,t.drop k=q::z
 |[],k,h=>by rw[TQ]at h;nofun
 |c::r,0,h=>by
  rw[LF]at h;split at h
  .rename_i e;exact⟨r,by rw[e];rfl⟩
  nofun
 |c::r,k+1,h=>by
  rw[LF]at h;split at h
  .exact aI q r k (!5)
  nofun
def oz(h:3<=OC q u):(ml q u=U (Ad (OC q u-3) q,u.drop (OC q u)))\/(ml q u=AB/\ ∃z,u.drop (OC q u)=q::z):=by
 cases u with
 |nil=>unfold OC at h;rw[TQ]at h;nofun
 |cons c r=>
  have D:3<=qn q (c::r):=by unfold OC at h;nofun
  rw[Qi,AI D];by_cases B:qn q (c::r)<=5
  .rw[AI B];left;have:OC q (c::r)=qn q (c::r):=by unfold OC;nofun
   rw[this]
  rw[AD B];right;have:OC q (c::r)=5:=by unfold OC;nofun
  rw[this];exact⟨rfl,aI q _ 5 (!5)⟩
def ka{q:Nat}{u:List Nat}(h:OC q u=0):ml q u=if joined u=AF/\q=34 then ml q (gp (u.drop 1))else match E5 u with
  |some s=>(ml q s).map λy=>(10::y.1,y.2)
  |none=>(wi q u).bind λx=>(ml q x.2).map λy=>(x.1++y.1,y.2):=by
 have E:qn q u=0:=by unfold OC at h;nofun
 cases u with
 |nil=>rfl
 |cons c r=>
  rw[Qi,AD (!5)];by_cases B:c=92/\q=34/\(E5 (A3 r)).isSome=AF
  .obtain⟨rfl,rfl,B⟩:=B;rw[AI ⟨rfl,rfl,B⟩,AI ⟨B,rfl⟩];rfl
  have D: ¬(joined (c::r)=AF/\q=34):=by
   rintro⟨z,rfl⟩;unfold joined at z;split at z
   .rename_i F e;cases e;exact B ⟨rfl,rfl,z⟩
   cases z
  first
  |(rw[AD B,AD D];done)
  |(rw[AD B,AD D];rfl)
def Yn(T:Txt K mg A)(TT:LN K mg): !20 6 "read_many_lines" ["cursor"] (oF A):=by
 show 8 ["cursor","quote","said","quotes"] 21;obtain⟨c,qt,D,r,rfl,hc,hq,q1,q2⟩:=h;have AA8:(qt:Int)≠256:=!5
 refine⟨_,(Gy (IA (i:=1) (ID (Iy T) (pv 0)))
   (Gy (Ju (pv 0) (Hx T.Lb) La)
   (Gy (IK (ID (MT T) (pv 0)))
   (Gy (IA (i:=2) (Ib ML))
   (Gy (IA (i:=3) (Hr (O0 T) (Hz (pv 0) (Hn (pv 1)))))
   (Gy (JS Ag (IB Kt (pv 3) (Hx T.Lb)) (Gy (IS (IB L1 (pv 3) Ht) (Gy (Ju (pv 0) (pv 3) La)
   (Hm (IK (KZ PySem.F.plainAttrs_list PySem.F.slot_list_extend PySem.F.type_list_extend Kl (pv 2) (Hn (Ij gA (Ib (Hn (pv 1))) (pv 3))))))) (Hm (IS (IB L1 (ID (K4 T) (pv 0)) Ht) (Gy (IK (ID (MT T) (pv 0)))
   (Hm (IK (KZ PySem.F.plainAttrs_list PySem.F.slot_list_append PySem.F.type_list_append Jg (pv 2) (Hn (Hx T.Mi)))))) (Hm (IS (PW.pt (J2 (IB JB (pv 1) (Hx T.KH)) (Jr (Ik (Hr (Yr T) (Hn (pv 0)) (hx:=Ig)))))) (Gy (IK (Ie (JX T) (pv 0) (Hx T.Ka) (hx:=Ig)))
   (Hm (IK (ID (QJ T) (pv 0))))) (Hm (IK (KZ PySem.F.plainAttrs_list PySem.F.slot_list_extend PySem.F.type_list_extend Kl (pv 2) (Hn (Hr (Pz T TT) (Hz (pv 0) (Hn (pv 1))) (hx:=Ig)))))))))))
   (Hm (IA (i:=3) (Hr (O0 T) (Hz (pv 0) (Hn (pv 1))))))))
   (Gy (Ju (pv 0) (pv 3) La)
   (Gy (IK (KZ PySem.F.plainAttrs_list PySem.F.slot_list_extend PySem.F.type_list_extend Kl (pv 2) (Hn (Ij gA (Ib (Hn (pv 1))) (Ij MM (pv 3) (Hx T.Lb))))))
   (Hm (Hy (pv 2))))))))))),?_⟩
 obtain⟨dx,ao,p,e1,e2,et,hp⟩:=hc.ex;simp?! [e1,Kc e1];refine⟨c,D,_,rfl,hc,?_⟩;rw[JF];simp?! [e1,Kc e1];obtain⟨g1,g2⟩:=Lm (k:=3) hc e1 e2 et hp (!2) rfl;generalize hH1:_L.Hu H c (.ins A.Ic dx (cf ao ((p:Int)+((3:Nat):Int))))=H1 at*;have ABL:_L.Hu H c (.ins A.Ic dx (cf ao ((p:Int)+3)))=H1:=hH1;simp?! [];refine⟨c,D,_,rfl,g1,λH2 h2 f2=>?_⟩;refine⟨Iv (!1),λp hp=>?_⟩;have rB:JN A H2 c D (r.drop (le r)):=h2;have G:H p=AB:=h2.free (g2.trans f2) hp;obtain⟨L,Y⟩:=hc.ne G;have tG:r.length<=20000:=by
  have:=hc.len;have:=hc.small;simp at*
  nofun
 have gv:(r.drop (le r)).length<=r.length:=by rw[AS];nofun
 generalize ABF:r.drop (le r)=Z at*;refine⟨c,qt,D,Z,rfl,rB.new hp,!5,?_⟩;refine⟨λm σ H'=> ∃u,σ=[U (.ref c),U (.int (qt:Int)),U (.ref p),U (.int ((OC qt u:Nat):Int))]/\m=u.length/\Yv A H c D p (ml qt) Z H' u,
  ⟨_,Z,rfl,rfl,[],rB.new hp,(g2.trans f2).trans (Fr.new hp),Hq,!2,by cases ml qt Z<;>rfl⟩,?_⟩
 rintro m σ H3 ⟨u,rfl,rfl,acc,hu,f3,hl,hn,eo⟩;obtain⟨jQ,v9,p3,I,v5,vz,SD⟩:=hu.ex;simp?! [I,Kc I];by_cases pU:((OC qt u:Nat):Int)<3
 .refine dT pU ?_
  have next: ∀(M:Hp)(v:List Nat),v.length<u.length->Yv A H c D p (ml qt) Z M v→
    SI A [V.ref c,V.int (qt:Int)] M (λx H'=>XO A H c D p qt Z u.length [U (V.ref c),U (V.int (qt:Int)),U (V.ref p),U x] H') E0:=by
   intro M v hv iv;obtain⟨ABM,x8,rest⟩:=id iv;exact⟨c,qt,D,v,rfl,x8,!5,v,rfl,hv,iv⟩
  refine⟨XO A H c D p qt Z u.length,?_,?_⟩
  .rintro σ' H' ⟨v,rfl,l,g⟩;exact⟨_,l,v,rfl,rfl,g⟩
  by_cases pV:(0:Int)<((OC qt u:Nat):Int)
  .refine dT pV ?_
   have yI:OC qt u=qn qt u:=by unfold OC at pU pV⊢;nofun
   obtain⟨w1,w2⟩:=Lm (k:=OC qt u) hu I v5 vz SD (TR qt u) rfl;have B:_L.Hu H3 c (HO.ins A.Ic jQ (cf v9 ((p3:Int)+((OC qt u:Nat):Int)))) p=U (.lst (IH acc)):=by rw[Hv L];exact hl
   refine bG (K:=K) (qt:=qt) (R:=λO=>SI A [V.ref c,V.int (qt:Int)] O (λx H'=>XO A H c D p qt Z u.length [U (V.ref c),U (V.int (qt:Int)),U (V.ref p),U x] H') E0) (k:=OC qt u) B rfl (Cq _ _) (!5) λO l5 J=>?_;refine next O (u.drop (OC qt u)) (by rw[AS];have:=TR qt u;nofun) ⟨_,w1.bA J (by simpa using Ne.symm L) (by simpa using Ne.symm Y),?_,l5,?_,?_⟩
   .intro b o e n;exact J b o (w2 b o (f3 b o e n) n) (by simpa using IJ e G)
   .rw[AG,B6,AS];have:=TR qt u
    nofun
   rw[eo,cS hq (!5) (!5),<-yI,C9]
   congr 1
   funext y
   simp only[FL,Ah]
  refine dF pV ?_
  have hz:OC qt u=0:=!5
  have mt:=ka hz;refine⟨c,D,u,rfl,hu,?_⟩;simp?! [I,Kc I];by_cases hle:(0:Int)<(le u:Int)
  .refine dT hle ?_
   have yc: ¬(joined u=AF/\qt=34):=by
    rintro⟨z,_⟩;unfold joined at z;split at z
    .exact absurd hle (show¬(0:Int)<((0:Nat):Int)by decide)
    cases z
   have he:E5 u=U (u.drop (le u)):=by rw[Ly,AD (!5)]
   rw[AD yc,he]at mt;refine⟨c,D,u,rfl,hu,λM h4 S=>?_⟩;have B:=S p _ hl (!8 L);simp![nN B];refine⟨Im B,?_,next _ (u.drop (le u)) (by rw[AS];have:=YA u;nofun) ⟨acc++[10],h4.wr L Y,(f3.trans S).wr G,?_,?_,?_⟩⟩
   .rw[Hw];exact Bg (show acc.length<=20000 by nofun) (!1)
   .rw[Hq,Iq];rfl
   .rw[AG,AS];have:=YA u;simp
    nofun
   rw[eo,mt];show 4;rw[C9]
   congr 1
   funext y
   simp only[FL,Ah,EL]
  refine dF hle ?_
  have he:E5 u=AB:=by rw[Ly,AI (!5)]
  have within: ¬(joined u=AF/\qt=34)-> ∀M,JN A M c D u->Fr [c] H3 M->ja K "list" (V.ref p) M/\Xh A [V.ref c,V.int (qt:Int)] M (λx H1=>match x with|.ref b=>(Et H1 p b λH2=>SI A [V.ref c,V.int (qt:Int)] H2 (λx H1=>XO A H c D p qt Z u.length [U (V.ref c),U (V.int (qt:Int)),U (V.ref p),U x] H1) E0)|_=>False) E:=by
   intro yc M h4 S;rw[AD yc,he]at mt;dsimp only at mt;have B:=S p _ hl (!8 L);refine⟨Im B,c,qt,D,u,rfl,h4,hq,λx ex O b hb zD h5 J=>?_,λen O J=>?_⟩
   .have yi:=J p _ B (!8 L);have hx:=Y3 ex;have x3:=J3 ex;refine⟨_,yi,_,zD,?_,next _ x.2 x3 ⟨acc++x.1,h5.wr L Y,((f3.trans S).trans J).wr G,?_,?_,?_⟩⟩
    .rw[Hw,Hw];exact Aa (show acc.length+x.1.length<=20000 by nofun) (!1)
    .rw[Hq,Iq]
    .rw[AG]
     nofun
    rw[eo,mt,ex];simp only[AE,C9]
    congr 1
    funext y
    simp only[FL,Ah]
   refine q2 ?_ _ ((f3.trans S).trans J)
   rw[eo,mt,en];rfl
  by_cases zO:(qt:Int)=34
  .refine dT zO ?_
   refine⟨c,D,u,rfl,hu,λM h4 S=>?_⟩;show 4;cases hj:joined u with
   |false=>
    refine W5 AH ?_
    exact within (λz=>by rw[hj]at z;cases z.1) M h4 S
   |true=>
    refine WJ rfl ?_
    simp?! [];have yl:=hj;unfold joined at yl;split at yl
    .rename_i u';rw[AI ⟨hj,!5⟩]at mt;refine⟨c,_,D,_,rfl,h4,!1,λy' r' e5 e6 O h5 J=>?_,λz=>absurd rfl z⟩;cases e5;simp?! [];refine⟨c,D,_,rfl,h5,λH6 h6 f6=>?_⟩;have mu:=f6 p _ (J p _ (S p _ hl (!8 L)) (!8 L)) (!8 L);have lg:=Km u';refine next H6 _ (by simp;nofun) ⟨acc,h6,((f3.trans S).trans J).trans f6,mu,by simp at hn;nofun,?_⟩;rw[eo,mt];rfl
    cases yl
  rw[AM zO,AD AH,AD AH];exact within (λz=>zO (!5)) H3 hu Fr.refl
 refine dF pU ?_
 obtain⟨w1,w2⟩:=Lm (k:=OC qt u) hu I v5 vz SD (TR qt u) rfl;have B:_L.Hu H3 c (HO.ins A.Ic jQ (cf v9 ((p3:Int)+((OC qt u:Nat):Int)))) p=U (.lst (IH acc)):=by rw[Hv L];exact hl
 have h5:OC qt u<=5:=Cq _ _;refine bG (K:=K) (qt:=qt) (R:=λO=>Q (V.ref p) O) (k:=OC qt u-3) B (!5) (!5) (!5) λO l5 J=>?_;refine q1 (acc++Ad (OC qt u-3) qt,u.drop (OC qt u)) ?_ ?_ O p G l5 (w1.bA J (by simpa using Ne.symm L) (by simpa using Ne.symm Y)) ?_
 .rcases oz (q:=qt) (u:=u) (!5)with z|⟨z,z2⟩
  .left;rw[eo,z];rfl
  right;rw[eo,z];exact⟨rfl,z2⟩
 .have:=TR qt u;simp only[AG,B6]
  nofun
 intro b o e n;exact J b o (w2 b o (f3 b o e n) n) (by simpa using IJ e G)
set_option tactic.hygienic false
inductive fF (A:JL)(vs:List V)(H:Hp)(Q:VK)(E:XK):Prop
 |mk (c:AK)(q:Nat)(a:Tx)(r:List Nat)(_:vs=[.ref c])(_:JN A H c a (q::r))(_:(q=34\/q=39))(_:(∀x,(G7 (q::r)=U x\/(G7 (q::r)=AB/\ ∃z,x.2=q::z))->x.1.length<=r.length-> ∀H' p,H p=AB->H' p=U (.lst (IH x.1))->JN A H' c a x.2->Fr [c] H H'->Q (.ref p) H'))(_:(G7 (q::r)=AB-> ∀H',Fr [c] H H'->E (.ref A.wi) AB H'))
def oh: ∀{t:List Nat}{x:List Nat×List Nat},ol q t=U x->x.1.length+x.2.length<=t.length:=by
 intro t;generalize hn:t.length=n
 induction n using BV generalizing t with
 |_ n D=>
  subst hn;intro x h;cases t with
  |nil=>show 6 Wh h
  |cons c r=>
   rw[PL]at h;split at h
   .cases h;simp
   cases e:wi q (c::r)with
   |none=>show 6 e h
   |some y=>
    have E:=Y3 e;have B:=J3 e;rw[e]at h;replace h:(ol q y.2).map (λz=>(y.1++z.1,z.2))=U x:=h;cases e2:ol q y.2 with
    |none=>show 6 e2 h
    |some z=>
     show 6 e2 h;have:=D _ B rfl e2;simp only[AG]
     lia
def U8(T:Txt K mg A)(TT:LN K mg): !20 7 "read_quoted" ["cursor"] (fF A):=by
 show 8 ["cursor","quote"] 19;obtain⟨c,qt,D,r,rfl,B,J,F,G⟩:=h;refine⟨_,(Gy (IA (i:=1) (ID (Iy T) (pv 0)))
   (Gy (IS (PW.pt (J2 (IB JB (Ie (MU T) (pv 0) Ht) (pv 1)) (Jr (IB JB (Ie (MU T) (pv 0) Ht) (pv 1))))) (Hm (Hy (Hr (Yn T TT) (Hn (pv 0)) (hx:=Ig)))) IC)
   (Hm (Hy (Hr (Ua T TT) (Hn (pv 0)) (hx:=Ig)))))),?_⟩
 obtain⟨dx,ao,p,e1,e2,et,I⟩:=B.ex;simp?! [e1,Kc e1];refine⟨c,D,_,rfl,B,?_⟩;rw[JF];simp?! [e1,Kc e1];refine⟨c,1,D,_,rfl,B,?_⟩;simp?! [e1,Kc e1];rw[RG qt r J]at F G;have one:r.take 2≠ [qt,qt]->mM A [V.ref c] H Q E:=by
  intro L;rw[AD L]at F G;exact⟨c,qt,D,r,rfl,B,J,λx ex M p I O h' S=>F x (.inl ex) (by have:=oh ex;lia) M p I O h' S,G⟩
 cases r with
 |nil=>
  have:((([qt]:List Nat).getD 1 256:Nat):Int)=256:=rfl;rw[this,AM (show¬(256:Int)=(qt:Int)by lia),AD AH,AD AH];exact one (!2)
 |cons y r=>
  have:(((qt::y::r:List Nat).getD 1 256:Nat):Int)=(y:Int):=rfl;rw[this];by_cases Y:y=qt
  .subst Y;refine dT rfl ?_
   refine⟨c,2,D,_,rfl,B,?_⟩;simp?! [e1,Kc e1];cases r with
   |nil=>
    have:((([y,y]:List Nat).getD 2 256:Nat):Int)=256:=rfl;rw[this,AM (show¬(256:Int)=(y:Int)by lia),AD AH];exact one (!2)
   |cons z r=>
    have:(((y::y::z::r:List Nat).getD 2 256:Nat):Int)=(z:Int):=rfl;rw[this];by_cases Z:z=y
    .subst Z;refine dT rfl ?_
     have ht:(z::z::r).take 2=[z,z]:=rfl;rw[AI ht]at F G;exact⟨c,z,D,r,rfl,B,J,λx ex hx M p I O h' S=>F x ex (by simp;lia) M p I O h' S,G⟩
    refine dF (show¬(z:Int)=(y:Int)by lia) ?_
    exact one (!8 Z)
  rw[AM (show¬(y:Int)=(qt:Int)by lia),AD AH,AD AH];exact one (by intro z;cases r<;>simp at z;exact Y z.1)
noncomputable def pk(t:List Nat):List Key:=t.map λ(n:Nat)=>Cf (n:Int)
def Kk(t:List Nat):(pk t).map kV=IH t:=by
 unfold pk IH;rw[Gi];rfl
def fj(h:pk a=pk b):a=b:=by
 induction a generalizing b with
 |nil=>cases b with
  |nil=>rfl
  |cons y b=>cases h
 |cons x a B=>cases b with
  |nil=>cases h
  |cons y b=>
   injection h with D E
   have e:=G6 D;rw[B E,show x=y by lia]
inductive oB (A:JL)(vs:List V)(H:Hp)(Q:VK)(E:XK):Prop
 |mk (c:AK)(a:Tx)(t:List Nat)(_:vs=[.ref c])(_:JN A H c a t)(_:(∀x,AAF t=U x-> ∀H' p,H p=AB->H' p=U (.tup (IH x.1))->JN A H' c a x.2->Fr [c] H H'->Q (.ref p) H'))(_:(AAF t=AB-> ∀H',Fr [c] H H'->E (.ref A.wi) AB H'))
def Sq:XX (LP (y::r))=Ci y:=by
 rw[JF];unfold XX Ci QM Lx BY;apply A9.mpr;simp only[BE,AX,Ak,BL]
 lia
def Rz(T:Txt K mg A)(TT:LN K mg): !20 7 "read_part" ["cursor"] (oB A):=by
 show 8 ["cursor","start"] 29;obtain⟨c,F,t,rfl,hc,S,Y⟩:=h;refine⟨_,(Gy (IS (Ik (Hr (R3 T) (Hn (ID (Iy T) (pv 0))))) (Hm (Hy (RI Py rfl T.aR Rw (Hn (Hr (Ua T TT) (Hn (pv 0)) (hx:=Ig)))))) IC)
   (Gy (IA (i:=1) (Ih (pv 0) rfl))
   (Gy (JS Ag (Ik (Hr (Zw T) (Hn (ID (Iy T) (pv 0))))) (Hm (Ju (pv 0) Ht La)))
   (Gy (IS (IB JB (Ih (pv 0) rfl) (pv 1)) (Hm (JE T.Ia rfl)) IC)
   (Hm (Hy (RI Py rfl T.aR Rw (Hn (IY Ii (Ih (pv 0) rfl) (IX (pv 1)) (IX (Ih (pv 0) rfl))))))))))),?_⟩
 obtain⟨dx,ao,p,e1,e2,et,hp⟩:=hc.ex;simp?! [e1,Kc e1,Ms];refine⟨c,F,_,rfl,hc,?_⟩;simp?! [e1,Kc e1,Ms];by_cases D:NU (LP t)=AF
 .refine WJ D ?_
  cases t with
  |nil=>exact absurd D (!1)
  |cons y r=>
   have hy:y=34\/y=39:=by
    rw[JF]at D;unfold NU at D;simp only[BE,Ak]at D
    nofun
   rw[Wc]at S Y;dsimp only at S Y;rw[AI hy]at S Y;refine⟨c,y,F,r,rfl,hc,hy,λx ex H1 G Z k9 h1 J=>?_,Y⟩;refine⟨G,rfl,_,.inl ⟨Ip.of k9,λl L=>?_⟩⟩;exact S x ex _ l (h1.free J L) Hq (h1.new L) (J.trans (Fr.new L))
 refine W5 D ?_
 have B:AAF t=if t.takeWhile Ci=[]then AB else U (t.takeWhile Ci,t.dropWhile Ci):=by
  rw[Wc];cases t with
  |nil=>rfl
  |cons y r=>
   show 4;rw[AD];intro hy;refine D ?_
   rw[JF];unfold NU;simp only[BE,Ak]
   nofun
 refine⟨λm σ O=>σ=[U (.ref c),U (.int (p:Int))]/\ ∃k,m=t.length-k/\k<=t.length/\(∀x∈t.take k,Ci x=AF)/\JN A O c F (t.drop k)/\Fr [c] H O,⟨_,rfl,0,rfl,Ax _,!2,hc,Fr.refl⟩,?_⟩;rintro m σ H1 ⟨rfl,k,rfl,hk,hw,hu,J⟩;obtain⟨zh,ao1,G,E,zf,M,Z⟩:=hu.ex;have hpk:G=p+k:=by
  have l1:=congrArg A5 M;have l2:=congrArg A5 et;rw[AS,AS]at l1;rw[AS]at l2
  nofun
 simp?! [E,Kc E,Ms];refine⟨c,F,_,rfl,hu,?_⟩;simp?! [E,Kc E,Ms];by_cases I:XX (LP (t.drop k))=AF
 .refine WJ I ?_
  cases hd:t.drop k with
  |nil=>rw[hd]at I;exact absurd I (!1)
  |cons y r=>
   have vb:k<t.length:=by
    have:=congrArg A5 hd;rw[AS,AN]at this
    nofun
   have hyw:Ci y=AF:=by rw[hd,Sq]at I;exact I
   rw[hd]at hu M;obtain⟨w1,w2⟩:=Lm (k:=1) hu E zf M Z (!2) rfl;refine⟨λσ' O=>σ'=[U (.ref c),U (.int (p:Int))]/\(∀x∈t.take (k+1),Ci x=AF)/\JN A O c F (t.drop (k+1))/\Fr [c] H O,?_,?_⟩
   .rintro σ' O ⟨rfl,g1,g2⟩;exact⟨t.length-(k+1),!5,rfl,k+1,rfl,!5,g1,g2⟩
   refine⟨rfl,?_,?_,J.trans w2⟩
   .have:t.take (k+1)=t.take k++[y]:=by
     rw[AAD,hd];rfl
    rw[this];intro x hx;obtain z|z:=AQ.mp hx
    .exact hw x z
    have:x=y:=by simpa using z
    rw[this];exact hyw
   have:t.drop (k+1)=(y::r).drop 1:=by rw[<-hd,BR]
   rw[this];exact w1
 refine W5 I ?_
 have htw:t.takeWhile Ci=t.take k/\t.dropWhile Ci=t.drop k:=by
  have e:=As k t;have a1:t.takeWhile Ci=t.take k:=by
   conv=>lhs;rw[<-e]
   rw[BD hw];cases hd:t.drop k with
   |nil=>simp
   |cons y r=>
    rw[hd,Sq]at I;rw[Aw,AD I];simp
  refine⟨a1,?_⟩;rw[<-Ir,a1,AW]
  congr 1
  nofun
 rw[htw.1,htw.2]at B;by_cases h0:(G:Int)=(p:Int)
 .refine dT h0 ?_
  have:k=0:=!5
  subst this;rw[AI (!2)]at B;exact Y B _ J
 refine dF h0 ?_
 have pV:0<k:=!5
 rw[AD (λz=>by have:=congrArg A5 z;rw[AW,Cr]at this;nofun)]at B;refine⟨_,Ip.of zf,λa ha=>?_⟩;refine⟨_,.inl ⟨Ip.of Hq,λl L=>?_⟩⟩;have hu1:JN A (_L.Hu H1 a (.lst (Ma (IH F.b) (U (p:Int)) (U (G:Int))))) c F (t.drop k):=hu.new ha;refine S _ B _ l ?_ ?_ (hu1.new L) ((J.trans (Fr.new ha)).trans (Fr.new L))
 .exact hu1.free (J.trans (Fr.new ha)) L
 rw[Hq];have y3:Ma (IH F.b) (U (p:Int)) (U (G:Int))=IH (t.take k):=by
  unfold Ma;rw[HT.Mf,HT.Mf,Hw];have m1:min p F.b.length=p:=!5
  have m2:min G F.b.length=G:=!5
  rw[m1,m2,et];unfold IH;rw[<-Dr,<-Dq]
  congr 2
  nofun
 rw[y3]
inductive K5 (H:Hp):List AK->List (List Nat)->Prop
 |nil:K5 H [] []
 |cons {a:AK}{k:List Nat}{as:List AK}{ks:List (List Nat)}:H a=U (.tup (IH k))->K5 H as ks->K5 H (a::as) (k::ks)
theorem K5.length(h:K5 H B D):B.length=D.length:=by
 induction h with
 |nil=>rfl
 |cons _ _ E=>simp[E]
def K5.keep(k: ∀a xs,H a=U (.tup xs)->B a=U (.tup xs))(h:K5 H D E):K5 B D E:=by
 induction h with
 |nil=>exact .nil
 |cons e _ F=>exact .cons (k _ _ e) F
def K5.snoc(h:K5 H B D)(e:H a=U (.tup (IH k))):K5 H (B++[a]) (D++[k]):=by
 induction h with
 |nil=>exact .cons e .nil
 |cons E _ F=>exact .cons E F
theorem Fr.tup(B:JN A H c E t)(f:Fr [c] H D): ∀a xs,H a=U (.tup xs)->D a=U (.tup xs):=λa xs e=>by
 obtain⟨dx,ao,p,e1,_⟩:=B.ex;exact f a _ e (by simpa using OY e e1 (by intro z;cases z))
def nV(D:H p=U (.lst xs)): ∀a B,H a=U (.tup B)->_L.Hu H p o a=U (.tup B):=λa B e=>by
 rw[Hv (OY e D (by intro z;cases z))];exact e
def kY(D:H p=AB): ∀a B,H a=U (.tup B)->_L.Hu H p o a=U (.tup B):=λa B e=>by
 rw[Hv (IJ e D)];exact e
noncomputable def IG(B:List AK):List V:=B.map V.ref
inductive rm (A:JL)(vs:List V)(H:Hp)(Q:VK)(E:XK):Prop
 |mk (c:AK)(a:Tx)(t:List Nat)(_:vs=[.ref c])(_:JN A H c a t)(_:(∀x,ky t=U x-> ∀H' p as,H p=AB->H' p=U (.lst (IG as))->K5 H' as x.1->JN A H' c a x.2->Fr [c] H H'->Q (.ref p) H'))(_:(ky t=AB-> ∀H',Fr [c] H H'->E (.ref A.wi) AB H'))
noncomputable def nQ(A:JL)(H:Hp)(c:AK)(E:Tx)(t:List Nat)(p:AK)(B:Hp)(u:List Nat):Prop:=
 ∃D acc,JN A B c E u/\Fr [c] H B/\B p=U (.lst (IG D))/\K5 B D acc/\acc.length+u.length<=t.length/\ky t=(kc u).map λy=>(acc++y.1,y.2)
noncomputable def ud(A:JL)(H:Hp)(c:AK)(D:Tx)(t:List Nat)(p:AK)(n:Nat)(B:_L.St)(E:Hp):Prop:=B=[U (V.ref c),U (V.ref p)]/\ ∃v,v.length<n/\nQ A H c D t p E v
def QK(T:Txt K mg A)(TT:LN K mg): !20 8 "read_key" ["cursor"] (rm A):=by
 show 8 ["cursor","parts"] 28;obtain⟨c,B,t,rfl,hc,q1,q2⟩:=h;have yB:t.length<=20000:=Aa hc.len hc.small;refine⟨_,(Gy (IA (i:=1) (Ib (Hn (Hr (Rz T TT) (Hn (pv 0)) (hx:=Ig)))))
   (Gy (IK (ID (JC T) (pv 0)))
   (Gy (JS Ag (IB JB (ID (Iy T) (pv 0)) (Hx T.SU)) (Gy (IK (Ie (JX T) (pv 0) (Hx T.SU) (hx:=Ig)))
   (Gy (IK (ID (JC T) (pv 0)))
   (Gy (IK (KZ PySem.F.plainAttrs_list PySem.F.slot_list_append PySem.F.type_list_append Jg (pv 1) (Hn (Hr (Rz T TT) (Hn (pv 0)) (hx:=Ig)))))
   (Hm (IK (ID (JC T) (pv 0))))))))
   (Hm (Hy (pv 1)))))),?_⟩
 simp?! [];refine⟨c,B,t,rfl,hc,λx ex H1 a ha hta h1 f1=>?_,λen H1 f1=>q2 (by rw[Tr,en];rfl) _ f1⟩;refine⟨Iv (!1),λp hp=>?_⟩;have I:H p=AB:=h1.free f1 hp;obtain⟨M,pao⟩:=hc.ne I;have O:JN A (_L.Hu H1 p (.lst [.ref a])) c B x.2:=h1.new hp;simp?! [];refine⟨c,B,_,rfl,O,λH2 h2 f2=>?_⟩;have sj:=Js ex;have hbl:=IE x.2;refine⟨λm σ H'=>σ=[U (.ref c),U (.ref p)]/\ ∃u,m=u.length/\nQ A H c B t p H' u,⟨_,rfl,A3 x.2,rfl,[a],[x.1],h2,(f1.trans (Fr.new hp)).trans f2,f2 p _ Hq (!8 M),.cons (f2.tup O a _ (kY hp a _ hta)) .nil,by simp;lia,?_⟩,?_⟩
 .rw[Tr,ex];show 3;rfl
 rintro m σ H3 ⟨rfl,u,rfl,L,acc,hu,f3,hl,D,hn,eo⟩;simp?! [];refine⟨c,B,u,rfl,hu,?_⟩;simp?! [];by_cases E:LP u=46
 .refine dT E ?_
  obtain⟨y,u',rfl,e4⟩:=My (!1) E;obtain rfl:y=46:=!3
  rw[Tu]at eo;refine⟨ud A H c B t p (46::u').length,?_,?_⟩
  .rintro σ' H' ⟨rfl,v,l,g⟩;exact⟨_,l,rfl,v,rfl,g⟩
  refine⟨c,_,B,_,rfl,hu,!1,λy' r' e5 e6 H4 h4 f4=>?_,λz=>absurd rfl z⟩;cases e5;simp?! [];refine⟨c,B,_,rfl,h4,λH5 h5 f5=>?_⟩;have G:=f4.trans f5;have J:=G p _ hl (!8 M);simp![J];refine⟨Im J,c,B,_,rfl,h5,λz ez H6 b hb vR h6 S=>?_,λen H6 S=>?_⟩
  .have Y:=S p _ J (!8 M);have vN:=Js ez;have vj:=IE u';have rA:=IE z.2;have Z:JN A (_L.Hu H6 p (.lst (IG L++[.ref b]))) c B z.2:=h6.wr M pao;simp![nN Y];have eJ:L.length<=20000:=by
    have:=D.length
    lia
   refine⟨Bg (show(IG L).length<=20000 by unfold IG;rw[AY];exact eJ) (!1),?_⟩;simp?! [];refine⟨c,B,_,rfl,Z,λH7 h7 f7=>?_⟩;have t6:K5 H6 L acc:=(D.keep (G.tup hu)).keep (S.tup h5);have k7: ∀a xs,H6 a=U (.tup xs)->H7 a=U (.tup xs):=λa xs e=>f7.tup Z a xs (nV Y a xs e);refine⟨rfl,A3 z.2,by have:(46::u').length=u'.length+1:=rfl;lia,L++[b],acc++[z.1],h7,(((f3.trans G).trans S).wr I).trans f7,?_,(t6.keep k7).snoc (k7 _ _ vR),?_,?_⟩
   .rw[f7 p _ Hq (!8 M)];unfold IG;rw[A8];rfl
   .simp at hn⊢
    lia
   rw[eo,Tr,ez];simp only[AE,C9]
   congr 1
   funext y
   simp only[FL,Ah,EL]
  refine q2 ?_ _ ((f3.trans G).trans S)
  rw[eo,Tr,en];rfl
 refine dF E ?_
 have:ky t=U (acc,u):=by
  rw[eo,Tv (λr z=>E (by rw[z];rfl))];simp
 exact q1 _ this _ p L I hl D hu f3
end
end _S
namespace _L
open PySem PySem.Spec PyProof.Rows
def xw(K:PySem.W.Frag)(tl:TE):TI:=λD H R=>tl D H λx B=>match x with|.ref a=>(∃xs,((Ip K B a xs/\R (l6 K a) B)\/(NR K B a xs/\R (ly K a) B)))|_=>False
section
variable{X:Cx}{tg:Expr}
def fk(J:PE X l tl):PI X tg l (xw X.K tl):=by
 intro Ho s L H R I h;refine Jv (J Ho s L H _ I h) λv B ⟨x,F,D,M,O⟩=>?_;obtain⟨a,e,xs,q⟩:=mR O;subst e;cases M;have fresh: ∀b,b∈ [B.heap.objs.size]->Rc X Ho F b:=λb S=>by
  obtain rfl:b=B.heap.objs.size:=by simpa using S
  exact D.W2 (AR _) (D.JM.fresh (AR _))
 obtain⟨G,q⟩|⟨G,q⟩:=q
 .obtain⟨E,Y,p,Z⟩:=D.list G;exact D4 p.isList ⟨B.heap.objs.size,[B.heap.objs.size],_,_,F,rfl,D.kept (t':=B.toks) λb o e=>Heap.get?_push_of_some _ e,VQ a _,⟨_,Heap.get?_push_size _ rfl,rfl,rfl⟩,fresh,q⟩
 obtain⟨E,Y,p,Z⟩:=D.tuple G;exact GK (show B.heap.IsTuple a E.toArray from p) ⟨B.heap.objs.size,[B.heap.objs.size],_,_,F,rfl,D.kept (t':=B.toks) λb o e=>Heap.get?_push_of_some _ e,Ss a _,⟨_,Heap.get?_push_size _ rfl,rfl,rfl⟩,fresh,q⟩
noncomputable def GS(mg:Str->Option Value)(x:Str)(z:Str):Prop:= ∃t,mg x=U (.str z t)
def aM(g:GS X.mg x z)(B:Gl X x)(hd:autoParam ((x==("__debug__":Str))=AJ) Li):PE X (.Name x pos) (tC (.str z)):=by
 obtain⟨t,e⟩:=g;exact WZ B e ⟨t,rfl⟩ hd
noncomputable def L9(K:PySem.W.Frag)(a:AK)(xs:List V):Prop:= ∃(o:Obj)(B:Array Value)(n:Nat),K.lookup a=U o/\o.cls=.type "tuple"/\o.data=.seq B n/\B.size<=Ac/\IM xs B.toList
def L9.sq{K:PySem.W.Frag}(h:L9 K a xs):NR K H a xs:=.inr h
noncomputable def kD(K:PySem.W.Frag):R2:=λx y H Q=> ∃B e,Dp K H y (.tuple B)/\Dp K H x e/\EA B=AF/\e.canLay0=AF/\Du B<=62/\Q (.bl (!B.any λy=>GP y e)) H
def cN(O:X.A.units+64<cLine):P0 X (Bm .NotIn) (kD X.K):=by
 intro Ho s S H x y v u Q I E F h;obtain⟨B,e,hd,G,c1,J,D,q⟩:=h;obtain⟨Y,L⟩:=Dp.reads I e x v G E;obtain⟨bs,M⟩:=Dp.reads I (.tuple B) y u hd F;refine SeqAt.notIn_tuple_reads M L c1 J ?_ ⟨.bl _,H,I,rfl,q⟩
 have:=Cq (Du B) e.depth
 lia
noncomputable def tFs(z:Str)(ta:TE):TE:=λB H Q=>ta B H λx D=>match x with|.int i=>(i.natAbs.log2<1920/\(z++(toString i:Str)).length<=Ac/\Q (.str (z++(toString i:Str))) D)|_=>False
def M7(z:Str):F8++z=z:=by
 cases z;show Str.mk _=_;simp[F8]
def kN(D:z.length<=1000)(E:PE X e ta):PE X (.JoinedStr [.Constant (.str z) j F,.FormattedValue e (-1) AB G] p) (tFs z ta):=by
 intro Ho s J H Q I h;refine wpAny_JoinedStr ?_
 show Joins _ _ _ [eval (.Constant (.str z) j F) X.env,eval (.FormattedValue e (-1) AB G) X.env] _ _ s;refine GY ⟨z,_,rfl,?_,?_⟩
 .rw[M7];exact Aa D (!1)
 rw[M7];refine wpAny_FormattedValue_plain (Jv (E Ho _ J H _ (I.tok _) h) λv Z ⟨x,L,M,O,S⟩=>?_);obtain⟨i,ex,Y,B,q⟩:=mI S;subst ex;obtain⟨t,rfl⟩:=O;exact wpAny_formatField_int Y ⟨_,_,rfl,B,B,⟨.str _,L,M.tok _,⟨_,rfl⟩,q⟩⟩
def forL{K:PySem.W.Frag}{J:St->Hp->Prop}{B:(St->Hp->Prop)->V->St->Hp->Prop}(E:Nat->St->Hp->Prop)(M:E 0 D H)(O: ∀i D H,i<=xs.length->E i D H->Ip K H a xs)(hs: ∀i x D H,xs[i]? =U x->E i D H->B (E (i+1)) x D H)(hd: ∀D H,E xs.length D H->J D H):
  ∃W:Nat->Nat->St->Hp->Prop,(∃m,W 0 m D H)/\ ∀i m D H,W i m D H->((l6 K a).stop i H/\J D H)\/((l6 K a).go i H/\ ∃N:St->Hp->Prop,(∀F G,N F G-> ∃L,L<m/\W (i+1) L F G)/\ ∀x G,(l6 K a).eE i H x G->B N x D G):=by
 refine⟨λi m D H=>m=xs.length-i/\i<=xs.length/\E i D H,⟨_,rfl,Ax _,M⟩,?_⟩;rintro i m D H ⟨rfl,S,p⟩;have q:=O i D H S p;obtain I|Y:=Cv i xs.length
 .refine .inr ⟨⟨xs,xs[i],q,by simp[I]⟩,E (i+1),λF G Z=>⟨xs.length-(i+1),!3,rfl,I,Z⟩,?_⟩;rintro x G ⟨rfl,y⟩;exact hs i x D _ (y xs q) p
 obtain rfl:i=xs.length:=!3
 exact .inl ⟨⟨xs,q,AR _⟩,hd D H p⟩
def lF{K:PySem.W.Frag}{J:St->Hp->Prop}{B:(St->Hp->Prop)->V->St->Hp->Prop}(E:Nat->St->Hp->Prop)(M:E 0 D H)(O: ∀i D H,i<=xs.length->E i D H->NR K H a xs)(hs: ∀i x D H,xs[i]? =U x->E i D H->B (E (i+1)) x D H)(hd: ∀D H,E xs.length D H->J D H):
  ∃W:Nat->Nat->St->Hp->Prop,(∃m,W 0 m D H)/\ ∀i m D H,W i m D H->((ly K a).stop i H/\J D H)\/((ly K a).go i H/\ ∃N:St->Hp->Prop,(∀F G,N F G-> ∃L,L<m/\W (i+1) L F G)/\ ∀x G,(ly K a).eE i H x G->B N x D G):=by
 refine⟨λi m D H=>m=xs.length-i/\i<=xs.length/\E i D H,⟨_,rfl,Ax _,M⟩,?_⟩;rintro i m D H ⟨rfl,S,p⟩;have q:=O i D H S p;obtain I|Y:=Cv i xs.length
 .refine .inr ⟨⟨xs,xs[i],q,by simp[I]⟩,E (i+1),λF G Z=>⟨xs.length-(i+1),!3,rfl,I,Z⟩,?_⟩;rintro x G ⟨rfl,y⟩;exact hs i x D _ (y xs q) p
 obtain rfl:i=xs.length:=!3
 exact .inl ⟨⟨xs,q,AR _⟩,hd D H p⟩
def zU{K:PySem.W.Frag}{J:St->Hp->Prop}{B:(St->Hp->Prop)->V->St->Hp->Prop}(E:Nat->St->Hp->Prop)(M:E 0 D H)(O: ∀i D H,i<=xs.length->E i D H->Ip K H a xs)(hs: ∀i x D H T,xs[i]? =U x->E i D H->H T=AB->B (E (i+1)) (.ref T) D (Hu H T (.tup [.int (i:Nat),x])))(hd: ∀D H,E xs.length D H->J D H):
  ∃W:Nat->Nat->St->Hp->Prop,(∃m,W 0 m D H)/\ ∀i m D H,W i m D H->((uh K a).stop i H/\J D H)\/((uh K a).go i H/\ ∃N:St->Hp->Prop,(∀F G,N F G-> ∃L,L<m/\W (i+1) L F G)/\ ∀x G,(uh K a).eE i H x G->B N x D G):=by
 refine⟨λi m D H=>m=xs.length-i/\i<=xs.length/\E i D H,⟨_,rfl,Ax _,M⟩,?_⟩;rintro i m D H ⟨rfl,S,p⟩;have q:=O i D H S p;obtain I|Y:=Cv i xs.length
 .refine .inr ⟨⟨xs,xs[i],q,by simp[I]⟩,E (i+1),λF G Z=>⟨xs.length-(i+1),!3,rfl,I,Z⟩,?_⟩;rintro x G ⟨T,y,rfl,hT,rfl,hy⟩;exact hs i y D H T (hy xs q) p hT
 obtain rfl:i=xs.length:=!3
 exact .inl ⟨⟨xs,q,AR _⟩,hd D H p⟩
def lcL{K:PySem.W.Frag}{G:Hp->Prop}{B:(Hp->Prop)->V->Hp->Prop}(D:Nat->Hp->Prop)(J:D 0 H)(L: ∀i H,i<=xs.length->D i H->Ip K H a xs)(hs: ∀i x H,xs[i]? =U x->D i H->B (D (i+1)) x H)(hd: ∀H,D xs.length H->G H):
  ∃W:Nat->Nat->Hp->Prop,(∃m,W 0 m H)/\ ∀i m H,W i m H->((l6 K a).stop i H/\G H)\/((l6 K a).go i H/\ ∃N:Hp->Prop,(∀E,N E-> ∃I,I<m/\W (i+1) I E)/\ ∀x E,(l6 K a).eE i H x E->B N x E):=by
 refine⟨λi m H=>m=xs.length-i/\i<=xs.length/\D i H,⟨_,rfl,Ax _,J⟩,?_⟩;rintro i m H ⟨rfl,M,p⟩;have q:=L i H M p;obtain F|O:=Cv i xs.length
 .refine .inr ⟨⟨xs,xs[i],q,by simp[F]⟩,D (i+1),λE S=>⟨xs.length-(i+1),!3,rfl,F,S⟩,?_⟩;rintro x E ⟨rfl,y⟩;exact hs i x _ (y xs q) p
 obtain rfl:i=xs.length:=!3
 exact .inl ⟨⟨xs,q,AR _⟩,hd H p⟩
def lcT{K:PySem.W.Frag}{G:Hp->Prop}{B:(Hp->Prop)->V->Hp->Prop}(D:Nat->Hp->Prop)(J:D 0 H)(L: ∀i H,i<=xs.length->D i H->NR K H a xs)(hs: ∀i x H,xs[i]? =U x->D i H->B (D (i+1)) x H)(hd: ∀H,D xs.length H->G H):
  ∃W:Nat->Nat->Hp->Prop,(∃m,W 0 m H)/\ ∀i m H,W i m H->((ly K a).stop i H/\G H)\/((ly K a).go i H/\ ∃N:Hp->Prop,(∀E,N E-> ∃I,I<m/\W (i+1) I E)/\ ∀x E,(ly K a).eE i H x E->B N x E):=by
 refine⟨λi m H=>m=xs.length-i/\i<=xs.length/\D i H,⟨_,rfl,Ax _,J⟩,?_⟩;rintro i m H ⟨rfl,M,p⟩;have q:=L i H M p;obtain F|O:=Cv i xs.length
 .refine .inr ⟨⟨xs,xs[i],q,by simp[F]⟩,D (i+1),λE S=>⟨xs.length-(i+1),!3,rfl,F,S⟩,?_⟩;rintro x E ⟨rfl,y⟩;exact hs i x _ (y xs q) p
 obtain rfl:i=xs.length:=!3
 exact .inl ⟨⟨xs,q,AR _⟩,hd H p⟩
def lcS{G:Hp->Prop}{B:(Hp->Prop)->V->Hp->Prop}(E:Nat->Hp->Prop)(J:E 0 H)(hs: ∀i c H,x.cps[i]? =U c->E i H->B (E (i+1)) (.str ⟨#[c]⟩) H)(hd: ∀H,E x.cps.size H->G H):
  ∃W:Nat->Nat->Hp->Prop,(∃m,W 0 m H)/\ ∀i m H,W i m H->((uf x).stop i H/\G H)\/((uf x).go i H/\ ∃N:Hp->Prop,(∀D,N D-> ∃I,I<m/\W (i+1) I D)/\ ∀v D,(uf x).eE i H v D->B N v D):=by
 refine⟨λi m H=>m=x.cps.size-i/\i<=x.cps.size/\E i H,⟨_,rfl,Ax _,J⟩,?_⟩;rintro i m H ⟨rfl,S,p⟩;obtain F|L:=Cv i x.cps.size
 .refine .inr ⟨F,E (i+1),λD M=>⟨x.cps.size-(i+1),!4,rfl,F,M⟩,?_⟩;rintro v D ⟨rfl,c,O,rfl⟩;exact hs i c _ O p
 obtain rfl:i=x.cps.size:=!4
 exact .inl ⟨AR _,hd H p⟩
def II(h: ∀N:St->Hp->Prop,(∀B E,u D B E->N B E)->t {D with nx:=N} F H):rV t u D F H:=h _ λy y z=>z
end
end _L
local macro_rules
 |`(tactic|simp! [$xs,*])=>Z_ "_L.a9 _L.qA _L.uG _L.xw _L.sh _L.xt _L.si _L.xu _L.vB _L.wI _L.wQ _L.wipe _L.xI _L.xH _L.tFs _L.xK _S.cxK _S.vG _L.V.str.injEq if_true" xs.getElems "'only 1"
namespace _S
open PySem PySem.Spec PyProof.Rows _L
def T5(hr:Kz k A):A.units+64<cLine:=hr.units
structure SG(K:PySem.W.Frag)(mg:Str->Option Value):Prop where
 digits:GS mg "DIGITS" "0123456789abcdef"
 months: ∃a,mg "MONTH_LENGTHS"=U (.ref a)/\L9 K a [.int 31,.int 28,.int 31,.int 30,.int 31,.int 30,.int 31,.int 31,.int 30,.int 31,.int 30,.int 31]
 oR: ∃a,mg "POWER_SIGNS"=U (.ref a)/\L9 K a [.int 69,.int 101]
 nY: ∃a,mg "TRUTHS"=U (.ref a)/\L9 K a [.str "true",.str "false"]
 xY: ∃a a1 a2 a3 a4 a5 a6,mg "WITHOUT_DIGITS"=U (.ref a)/\L9 K a [.ref a1,.ref a2,.ref a3,.ref a4,.ref a5,.ref a6]/\L9 K a1 [.str "inf",.str "inf"]/\L9 K a2 [.str "+inf",.str "inf"]/\L9 K a3 [.str "-inf",.str "-inf"]∧
  L9 K a4 [.str "nan",.str "nan"]/\L9 K a5 [.str "+nan",.str "nan"]/\L9 K a6 [.str "-nan",.str "nan"]
def Fr.Z8(f:Fr W B H)(D:B p=AB):Fr W B (_L.Hu H p o):=λb u e n=>by
 rw[Hv (IJ e D)];exact f b u e n
section
variable{P:BB}{w:BJ}{K:PySem.W.Frag}{mg:Str->Option Value}{base:Heap}{A:JL}
noncomputable def zm(l:List Nat):Prop:= ∀x∈l,BY x=AF
inductive ZI (K:PySem.W.Frag)(vs:List V)(H:Hp)(Q:VK)(E:XK):Prop
 |mk (a:AK)(l:List Nat)(_:vs=[.ref a])(_:(Ip K H a (IH l)\/NR K H a (IH l)))(_:zm l)(_:l.length<=10)(_:Q (.int ((Ao 10 l:Nat):Int)) H)
def Xx{l:List Nat}(h:i<l.length):Ao 10 (l.take (i+1))=10*Ao 10 (l.take i)+HU l[i]:=by
 unfold Ao;rw[Br,List.getElem?_eq_getElem h,DS];rfl
noncomputable def rK(l:List Nat)(a:AK)(H:Hp)(i:Nat)(B:_L.St)(D:Hp):Prop:=D=H/\i<=l.length/\ ∃z,B=[U (.ref a),U (.int ((Ao 10 (l.take i):Nat):Int)),z]
def Ke(T:Txt K mg A): !20 1 "number_of" ["digits"] (ZI K):=by
 show 8 ["digits","number","digit"] 5;obtain⟨a,l,rfl,hs,hd,M,q⟩:=h;refine⟨_,(Gy (IA (i:=1) Ht)
   (Gy (LG Ag rfl (fk (pv 0)) (JO (i:=2) S.nd rfl (CW rfl)) (Hm (IA (i:=1) (Ij MM (Ij KA (Ij We (pv 1) Ht) (pv 2)) (Hx T.Ze)))))
   (Hm (Hy (pv 1))))),?_⟩
 simp![];have step: ∀i x B D,(IH l)[i]? =U x->rK l a H i B D->match(F2 B 2 (U x))[1]? with|some (U v)=>(match v with|.int J=>(l8 J 10/\match(F2 B 2 (U x))[2]? with|some (U v)=>(match v with|.int F=>rK l a H (i+1) ((F2 B 2 (U x)).set 1 (U (V.int (J*10+F-48)))) D|_=>False)|_=>False)|_=>False)|_=>False:=by
  rintro i x B D hx ⟨rfl,O,z,rfl⟩;unfold IH at hx;rw[List.getElem?_map]at hx;cases G:l[i]? with
  |none=>show 6 G hx
  |some c=>
   show 6 G hx;obtain⟨E,e⟩:=List.getElem?_eq_some_iff.mp G;refine⟨.inr ⟨!1,!1⟩,rfl,E,U (.int (c:Int)),?_⟩;rw[Xx E,e];have I:=hd c (e▸List.getElem_mem E);unfold BY at I;rw[Ak]at I;unfold HU;rw[AI I.2];show [U (V.ref a),U (V.int _),U (V.int _)]=_
   congr 4
   nofun
 have fin: ∀B D,rK l a H (IH l).length B D->match B[1]? with|some (U v)=>Q v D|_=>False:=by
  rintro B D ⟨rfl,_,z,rfl⟩;rw[Hw,BG];exact q
 have L:rK l a H 0 [U (V.ref a),U (V.int 0),AB] H:=⟨rfl,Ax _,AB,rfl⟩;obtain hs|hs:=hs
 .exact⟨IH l,.inl ⟨hs,forL (rK l a H) L (λi B D y p=>p.1▸hs) step fin⟩⟩
 exact⟨IH l,.inr ⟨hs,lF (rK l a H) L (λi B D y p=>p.1▸hs) step fin⟩⟩
inductive Xi (vs:List V)(H:Hp)(Q:VK)(E:XK):Prop
 |mk (z:Str)(_:vs=[.str z])(_:z.length<=10000)(_:VE H (IH z.cps.toList) Q):Xi vs H Q E
def Kd(T:Txt K mg A): !20 1 "octets_of" ["text"] Xi:=by
 show 8 ["text","sign"] 6;obtain⟨z,rfl,J,q⟩:=h;refine⟨_,(Hm (Hy ((aL rfl S.nd (oS (pv 0)) (Ou (N:=["text","sign"]) (sc:=IV (top 29)) (own:=[("sign",1)]) (!0)) (λy y y y y=>JO (i:=1) S.nd rfl (CW rfl) (HX rfl)) (λy y y y y=>QW) (λy y y y y=>IT Yd T.mh V2 (Hn (pv 1))))))),?_⟩;simp![];intro D F;refine lcS (λi B=>i<=z.cps.size/\B D=U (.lst (IH (z.cps.toList.take i)))/\Fr [] H B) ⟨Ax _,Hq,Fr.new F⟩ ?_ ?_
 .rintro i c B I ⟨L,E,G⟩;refine⟨_,rfl,rfl,_,E,?_,?_,?_,?_⟩
  .rw[Hw,AW];have:z.cps.size<=10000:=J;refine Bg (Cq _ _) (Bg (Aa L this) (!1))
  .obtain⟨M,_⟩:=Array.getElem?_eq_some_iff.mp I
   nofun
  .rw[Hq];have:z.cps.toList.take (i+1)=z.cps.toList.take i++[c]:=by
    rw[Br,<-Array.getElem?_toList]at*;rw[I];rfl
   rw[this,Iq];rfl
  exact G.Z8 F
 rintro B ⟨_,E,G⟩;have:z.cps.toList.take z.cps.size=z.cps.toList:=B2 (!2);rw[this]at E;exact q _ D F E G
noncomputable def qp(c:Nat):List Nat:=if c=34\/c=92 then [92,c]else if c<32 then [92,117,48,48,CP (c/16),CP (c%16)]else [c]
inductive ZG (vs:List V)(H:Hp)(Q:VK)(E:XK):Prop
 |mk (c:Nat)(_:vs=[.int (c:Int)])(_:VE H (IH (qp c)) Q):ZG vs H Q E
def tj(n:Nat)(h:n<16):((("0123456789abcdef":Str).cps)[n]?)=U (CP n):=by
 have: ∀n,n<16->((("0123456789abcdef":Str).cps)[n]?)=U (CP n):=!0
 exact this n h
def Yk(T:Txt K mg A)(C:SG K mg): !20 2 "sign_form" ["octet"] ZG:=by
 show 8 ["octet"] 8;obtain⟨c,rfl,q⟩:=h;refine⟨_,(Gy (IS (PW.pt (Mg (IB JB (pv 0) (Hx T.KH)) (LU (IB JB (pv 0) (Hx T.Ka))))) (Hm (Hy (Ib (Hz (Hx T.Ka) (Hn (pv 0)))))) IC)
   (Gy (IS (IB Kt (pv 0) Ht) (Hm (Hy (Hr (Kd T) (Hn (Ij Ta (Ij Ta P8 (KS gk (aM C.digits rfl) (Ij PK (pv 0) Ht) (λz z=>rfl))) (KS gk (aM C.digits rfl) (Ij OW (pv 0) Ht) (λz z=>rfl))))))) IC)
   (Hm (Hy (Ib (Hn (pv 0))))))),?_⟩
 simp![];unfold qp at q;by_cases E:c=34
 .refine dT (show(c:Int)=34 by nofun) ?_
  rw[AI (.inl E)]at q;exact⟨Iv (!1),λp B=>q.upd B⟩
 refine dF (show¬(c:Int)=34 by nofun) ?_
 by_cases F:c=92
 .refine dT (show(c:Int)=92 by nofun) ?_
  rw[AI (.inr F)]at q;exact⟨Iv (!1),λp B=>q.upd B⟩
 refine dF (show¬(c:Int)=92 by nofun) ?_
 rw[AD (!5)]at q;by_cases D:c<32
 .refine dT (show(c:Int)<32 by nofun) ?_
  rw[AI D]at q;refine⟨⟨!1,!1⟩,!1,CP (c/16),?_,show 4+1<=Ac by decide,!1,!1,CP (c%16),?_,show 5+1<=Ac by decide,?_⟩
  .rw[show(c:Int)/16=((c/16:Nat):Int)by nofun];exact KU (by rw[Array.getElem?_toList];exact tj _ (!5))
  .rw[show(c:Int)%16=((c%16:Nat):Int)by nofun];exact KU (by rw[Array.getElem?_toList];exact tj _ (!5))
  refine⟨_,rfl,?_,q⟩;show((_:Array Nat)++_++_).size<=_;simp;decide
 refine dF (show¬(c:Int)<32 by nofun) ?_
 rw[AD D]at q;exact⟨Iv (!1),λp B=>q.upd B⟩
def aG(c:Nat):(qp c).length<=6:=by
 unfold qp;split
 .simp
 split<;>simp
def Xn(l:List Nat):(l.flatMap qp).length<=6*l.length:=by
 induction l with
 |nil=>simp
 |cons c r B=>
  rw[BW,AG,AN];have:=aG c
  lia
def LH{i:Nat}(h:(IH l)[i]? =U x): ∃c:Nat,l[i]? =U c/\x=.int (c:Int):=by
 unfold IH at h;rw[List.getElem?_map]at h;cases B:l[i]? with
 |none=>show 6 B h
 |some c=>show 6 B h;exact⟨c,rfl,rfl⟩
def jB(h:Ip K H a xs)(f:Fr W H B)(ha:a∉W):Ip K B a xs:=by
 obtain h|h:=h
 .obtain h|⟨od,h⟩:=h
  .exact .inl (.inl (f _ _ h ha))
  exact .inl (.inr ⟨od,f _ _ h ha⟩)
 exact .inr h
def Z2(h:NR K H a xs)(f:Fr W H B)(ha:a∉W):NR K B a xs:=by
 obtain h|h:=h
 .obtain h|⟨od,h⟩:=h
  .exact .inl (.inl (f _ _ h ha))
  exact .inl (.inr ⟨od,f _ _ h ha⟩)
 exact .inr h
noncomputable def rJ(l:List Nat)(a p:AK)(H:Hp)(i:Nat)(D:_L.St)(B:Hp):Prop:=i<=l.length/\Fr [] H B/\B p=U (.lst (IH (34::(l.take i).flatMap qp)))/\ ∃z,D=[U (.ref a),U (.ref p),z]
inductive ZD (K:PySem.W.Frag)(vs:List V)(H:Hp)(Q:VK)(E:XK):Prop
 |mk (a:AK)(l:List Nat)(_:vs=[.ref a])(_:(Ip K H a (IH l)\/NR K H a (IH l)))(_:l.length<=2000000)(_:VE H (IH (By l)) Q)
def Rx(T:Txt K mg A)(C:SG K mg): !20 3 "text_form" ["octets"] (ZD K):=by
 show 8 ["octets","form","octet"] 7;obtain⟨a,l,rfl,hs,hl,q⟩:=h;refine⟨_,(Gy (IA (i:=1) (Ib (Hn (Hx T.KH))))
   (Gy (LG Ag rfl (fk (pv 0)) (JO (i:=2) S.nd rfl (CW rfl)) (Hm (IK (KZ PySem.F.plainAttrs_list PySem.F.slot_list_extend PySem.F.type_list_extend Kl (pv 1) (Hn (Hr (Yk T C) (Hn (pv 2))))))))
   (Gy (IK (KZ PySem.F.plainAttrs_list PySem.F.slot_list_append PySem.F.type_list_append Jg (pv 1) (Hn (Hx T.KH))))
   (Hm (Hy (pv 1)))))),?_⟩
 simp![];refine⟨Iv (!1),λp I=>?_⟩;have Vx:Fr [] H (_L.Hu H p (.lst [V.int 34])):=Fr.new I;have step: ∀i x B D,(IH l)[i]? =U x->rJ l a p H i B D->match(F2 B 2 (U x))[1]? with|some (U v)=>(ja K "list" v D/\match(F2 B 2 (U x))[2]? with|some (U J)=>ZG [J] D (λL H1=>match v with|.ref E=>(match L with|.ref M=>(Et H1 E M λH2=>rJ l a p H (i+1) (F2 B 2 (U x)) H2)|_=>False)|_=>False) E0|_=>False)|_=>False:=by
  rintro i x B D hx ⟨hi,f,G,z,rfl⟩;obtain⟨c,hc,rfl⟩:=LH hx;obtain⟨O,e⟩:=List.getElem?_eq_some_iff.mp hc;simp![];refine⟨Im G,c,rfl,λH1 p1 gy Y f1=>?_⟩;have Z:=f1 _ _ G (!2);refine⟨_,Z,_,Y,?_,O,(f.trans f1).Z8 I,?_,U (.int (c:Int)),rfl⟩
  .rw[Hw,Hw];have l1:=Xn (l.take i);have l2:=aG c;rw[AW]at l1;rw[AN];have:(12000100:Nat)<=Ac:=!1
   nofun
  rw[Hq,<-Iq]
  congr 3
  rw[Br,hc,Ce];simp
 have fin: ∀B D,rJ l a p H (IH l).length B D->match B[1]? with|some (U v)=>(ja K "list" v D/\match v with|.ref E=>(Ap D E (V.int 34) λH2=>match B[1]? with|some (U v)=>Q v H2|_=>False)|_=>False)|_=>False:=by
  rintro B D ⟨hi,f,G,z,rfl⟩;rw[Hw,BG]at G;simp![];refine⟨Im G,_,G,?_,?_⟩
  .rw[Hw,AN];have l1:=Xn l;have:(12000100:Nat)<=Ac:=!1
   nofun
  refine q _ p I ?_ (f.Z8 I)
  rw[Hq];unfold By IH;simp only[A8,Av,EF,Az];rfl
 have p0:rJ l a p H 0 [U (V.ref a),U (V.ref p),AB] (_L.Hu H p (.lst [V.int 34])):=⟨Ax _,Vx,Hq,AB,rfl⟩;obtain hs|hs:=hs
 .exact⟨IH l,.inl ⟨jB hs Vx (!2),forL (rJ l a p H) p0 (λi B D y p=>jB hs p.2.1 (!2)) step fin⟩⟩
 exact⟨IH l,.inr ⟨Z2 hs Vx (!2),lF (rJ l a p H) p0 (λi B D y p=>Z2 hs p.2.1 (!2)) step fin⟩⟩
end
noncomputable def Kf(K:PySem.W.Frag)(mg:Str->Option Value)(A:JL):Prop:=
 ∃(f:AK)(oc B kV doc pm Kg ct:Value)(od an:Option AK)(Xw:Array (Option Value))(t:Tok),K.lookup f=U ⟨oc,od,.func (PySem.W.fnOf "__init__" "Leaf.__init__" (J8 (IF (top 42) 0)) (J1 (IF (top 42) 0)) (IV (IF (top 42) 0)) B kV doc pm an Kg ct),Xw⟩∧
  PySem.W.codeIn K Kg "Leaf.__init__"=AF/\mg "Leaf"=U (.ref A.leaf)/\Mk K A.leaf f∧
  Binds K (PySem.W.fnOf "__init__" "Leaf.__init__" (J8 (IF (top 42) 0)) (J1 (IF (top 42) 0)) (IV (IF (top 42) 0)) B kV doc pm an Kg ct) ["self","kind","form","size"] []∧
  Binds K (PySem.W.fnOf "__init__" "Leaf.__init__" (J8 (IF (top 42) 0)) (J1 (IF (top 42) 0)) (IV (IF (top 42) 0)) B kV doc pm an Kg ct) ["self","kind","form","size"] [.int 0 t]
inductive Mr (C:AK)(n:Nat)(g:List V->List (Str×V))(vs:List V)(H:Hp)(Q:VK)(E:XK):Prop
 |mk (x a:AK)(b:List V)(_:vs=.ref x::b)(_:b.length=n)(_:H x=U (.ins C a []))(_:Q .Jm (_L.Hu H x (.ins C a (g b))))
def bZ:_L.Hu (_L.Hu H x o) x p=_L.Hu H x p:=by
 funext b
 by_cases h:b=x
 .rw[h,Hq,Hq]
 rw[Hv h,Hv h,Hv h]
noncomputable def AAt(H:Hp)(C:AK)(fs:List (Str×V))(Q:VK):Prop:= ∀B p,H p=AB->(∃dx,B p=U (.ins C dx fs))->Fr [] H B->Q (.ref p) B
def MO(hn:us.length=n)(h:AAt H C (g us) Q): ∀x dx,H x=AB->H dx=AB->dx≠x→
  Mr C n g (.ref x::us) (_L.Hu (_L.Hu H dx (.own x)) x (.ins C dx [])) (λv H2=>v=.Jm/\Q (.ref x) H2) E:=by
 intro x dx hx B D;refine⟨x,dx,us,rfl,hn,Hq,rfl,?_⟩;rw[bZ];refine h _ x hx ⟨dx,Hq⟩ ?_
 have F:Fr [] H (_L.Hu H dx (.own x)):=Fr.new B;exact F.Z8 hx
section
variable{P:BB}{w:BJ}{K:PySem.W.Frag}{mg:Str->Option Value}{base:Heap}{A:JL}
noncomputable def lf(us:List V):List (Str×V):=match us with
 |[k,f,n]=>[("kind",k),("form",f),("size",n)]
 |_=>[]
def WS:Ji ["self","kind","form","size"] ["self","kind","form","size"] (IV (IF (top 42) 0)):=⟨rfl,rfl,rfl,!0,rfl,!0,!0⟩
def aZ(T:Txt K mg A){kV:Value}(D:K.lookup f=U ⟨oc,od,.func (PySem.W.fnOf "__init__" "Leaf.__init__" (J8 (IF (top 42) 0)) (J1 (IF (top 42) 0)) (IV (IF (top 42) 0)) F kV doc pm an Kg ct),Xw⟩)(B:PySem.W.codeIn K Kg "Leaf.__init__"=AF):
  Lh P w K mg base (Q6 P w) 1 f (PySem.W.fnOf "__init__" "Leaf.__init__" (J8 (IF (top 42) 0)) (J1 (IF (top 42) 0)) (IV (IF (top 42) 0)) F kV doc pm an Kg ct) ["self","kind","form","size"] (Mr A.leaf 3 lf):=by
 refine m7 D B WS (λvs H Q E h=>?_) (λG outer s H vs Q E hr h=>?_)
 .obtain⟨x,dx,us,rfl,hn,_⟩:=h;rw[AN,hn];rfl
 obtain⟨x,dx,us,rfl,hn,hx,q⟩:=h;obtain⟨a,b,c,rfl⟩: ∃a b c,us=[a,b,c]:=⟨_,_,_,aS V.Jm _ _ hn⟩;refine⟨_,(Gy (Ko (pv 0) (pv 1) rfl)
  (Gy (Ko (pv 0) (pv 2) rfl)
  (Hm (Ko (pv 0) (pv 3) rfl)))),?_⟩
 simp![hx,Kc hx,T.PU,T.Qh,T.Nj,T.Ni];refine⟨!1,_,_,_,Hq,T.PU,T.Nj,show 1<1000 by decide,_,_,_,Hq,T.PU,T.Ni,show 2<1000 by decide,?_⟩;rw[bZ,bZ];exact q
def gQ(T:Txt K mg A)(L:Kf K mg A):VF P w K mg base 1 "Leaf" A.leaf ["self","kind","form","size"] [] (Mr A.leaf 3 lf):=by
 obtain⟨f,oc,F,kV,doc,pm,Kg,ct,od,an,Xw,t,D,B,hm,mk,E,G⟩:=L;exact⟨f,_,[],hm,mk,E,.nil,aZ T D B⟩
def NG(T:Txt K mg A)(L:Kf K mg A):VF P w K mg base 1 "Leaf" A.leaf ["self","kind","form","size"] [.int 0] (Mr A.leaf 3 lf):=by
 obtain⟨f,oc,F,kV,doc,pm,Kg,ct,od,an,Xw,t,D,B,hm,mk,G,E⟩:=L;exact⟨f,_,[.int 0 t],hm,mk,E,.cons ⟨t,rfl⟩ .nil,aZ T D B⟩
noncomputable def af(us:List V):List (Str×V):=match us with
 |[k,f]=>[("members",k),("by_headers",f)]
 |_=>[]
def Pq:Ji ["self","members","by_headers"] ["self","members","by_headers"] (IV (IF (top 43) 0)):=⟨rfl,rfl,rfl,!0,rfl,!0,!0⟩
def X1(T:Txt K mg A):VF P w K mg base 1 "Array" A.array ["self","members","by_headers"] [] (Mr A.array 2 af):=T.YG.at λF=>by
 have S:=Pq;refine F.ZU Pq (λvs H Q E h=>?_) (λKg B outer s H vs Q E hr h=>?_)
 .obtain⟨x,dx,us,rfl,hn,_⟩:=h;rw[AN,hn];rfl
 obtain⟨x,dx,us,rfl,hn,hx,q⟩:=h;obtain⟨a,b,rfl⟩: ∃a b,us=[a,b]:=⟨_,_,aS V.Jm _ _ hn⟩;refine⟨_,(Gy (Ko (pv 0) (pv 1) rfl)
  (Hm (Ko (pv 0) (pv 2) rfl))),?_⟩
 simp![hx,Kc hx,T.LM,T.JU,T.Kp];refine⟨!1,_,_,_,Hq,T.LM,T.Kp,show 1<1000 by decide,?_⟩;rw[bZ];exact q
noncomputable def zp(us:List V):List (Str×V):=match us with
 |[k]=>[("octets",k),("place",.int 0)]
 |_=>[]
def OT:Ji ["self","octets"] ["self","octets"] (IV (IF (top 64) 0)):=⟨rfl,rfl,rfl,!0,rfl,!0,!0⟩
def Vg(T:Txt K mg A):VF P w K mg base 1 "Cursor" A.Ic ["self","octets"] [] (Mr A.Ic 1 zp):=T.cw.at λF=>by
 have S:=OT;refine F.ZU OT (λvs H Q E h=>?_) (λKg B outer s H vs Q E hr h=>?_)
 .obtain⟨x,dx,us,rfl,hn,_⟩:=h;rw[AN,hn];rfl
 obtain⟨x,dx,us,rfl,hn,hx,q⟩:=h;obtain⟨a,rfl⟩: ∃a,us=[a]:=⟨_,aS V.Jm _ _ hn⟩;refine⟨_,(Gy (Ko (pv 0) (pv 1) rfl)
  (Hm (Ko (pv 0) Ht rfl))),?_⟩
 simp![hx,Kc hx,T.V1,T.RL,T.Nv];refine⟨!1,_,_,_,Hq,T.V1,T.Nv,show 1<1000 by decide,?_⟩;rw[bZ];exact q
noncomputable def bf(us:List V):List (Str×V):=match us with
 |[]=>[("root",.Jm)]
 |_=>[]
def QT:Ji ["self"] ["self"] (IV (IF (top 159) 0)):=⟨rfl,rfl,rfl,!0,rfl,!0,!0⟩
def ke(T:Txt K mg A):VF P w K mg base 1 "Book" A.book ["self"] [] (Mr A.book 0 bf):=T.kq.at λF=>by
 have S:=QT;refine F.ZU QT (λvs H Q E h=>?_) (λKg B outer s H vs Q E hr h=>?_)
 .obtain⟨x,dx,us,rfl,hn,_⟩:=h;rw[AN,hn];rfl
 obtain⟨x,dx,us,rfl,hn,hx,q⟩:=h;obtain rfl:us=[]:=Ej hn;refine⟨_,(Hm (Ko (pv 0) LW rfl)),?_⟩;simp![hx,Kc hx,T.Qw,T.LI];exact⟨!1,q⟩
noncomputable def caf(us:List V):List (Str×V):=match us with
 |[k]=>[("numbers",k),("place",.int 0)]
 |_=>[]
def Po:Ji ["self","numbers"] ["self","numbers"] (IV (IF (top 160) 0)):=⟨rfl,rfl,rfl,!0,rfl,!0,!0⟩
def gR(T:Txt K mg A):VF P w K mg base 1 "Calls" A.calls ["self","numbers"] [] (Mr A.calls 1 caf):=T.gq.at λF=>by
 have S:=Po;refine F.ZU Po (λvs H Q E h=>?_) (λKg B outer s H vs Q E hr h=>?_)
 .obtain⟨x,dx,us,rfl,hn,_⟩:=h;rw[AN,hn];rfl
 obtain⟨x,dx,us,rfl,hn,hx,q⟩:=h;obtain⟨a,rfl⟩: ∃a,us=[a]:=⟨_,aS V.Jm _ _ hn⟩;refine⟨_,(Gy (Ko (pv 0) (pv 1) rfl)
  (Hm (Ko (pv 0) Ht rfl))),?_⟩
 simp![hx,Kc hx,T.KQ,T.KG,T.Jw];refine⟨!1,_,_,_,Hq,T.KQ,T.Jw,show 1<1000 by decide,?_⟩;rw[bZ];exact q
inductive jt (A:JL)(vs:List V)(H:Hp)(Q:VK)(E:XK):Prop
 |mk (x a:AK)(m:V)(_:vs=[.ref x,m])(_:H x=U (.ins A.table a []))(_: ∀H' d,H d=AB->H' d=U (.dT [])->H' x=U (.ins A.table a [("made",m),("entries",.ref d)])->Fr [x] H H'->Q .Jm H')
def Qj(T:Txt K mg A):VF P w K mg base 1 "Table" A.table ["self","made"] [] (jt A):=T.YF.at λF=>by
 show 9 ["self","made"];obtain⟨x,dx,m,rfl,hx,q⟩:=h;refine⟨_,(Gy (Ko (pv 0) (pv 1) rfl)
   (Hm (Ko (pv 0) fu rfl))),?_⟩
 simp![hx,Kc hx,T.JQ,T.Ku,T.IZ,er];refine⟨!1,λd hd=>?_⟩;have B:x≠d:=λz=>by rw[<-z,Hq]at hd;cases hd
 refine⟨_,_,_,(Hv B).trans Hq,T.JQ,T.IZ,show 1<1000 by decide,?_⟩;rw[Hv (Ne.symm B)]at hd;refine q _ d hd ?_ Hq ?_
 .rw[Hv (Ne.symm B),Hq]
 intro b o e n;have D:b≠x:=by simpa using n
 rw[Hv D,Hv (IJ e hd),Hv D];exact e
noncomputable def KN(A:JL)(H:Hp)(p f:AK)(v:AU):Prop:=(∃dx,H p=U (.ins A.leaf dx [("kind",.int ((Ee v:Nat):Int)),("form",.ref f),("size",.int ((D8 v:Nat):Int))]))/\H f=U (.lst (IH (ES 1 v)))
noncomputable def lu(A:JL)(H:Hp)(a:AK)(g:Option AU)(Q:VK):Prop:=
 (g=AB-> ∀B,Fr [] H B->Q .Jm B)/\ ∀v,g=U v-> ∀B p f,H p=AB->(f=a\/H f=AB)->KN A B p f v->Fr [] H B->Q (.ref p) B
inductive RF (A:JL)(g:List Nat->Option AU)(vs:List V)(H:Hp)(Q:VK)(E:XK):Prop
 |mk (a:AK)(t:List Nat)(_:vs=[.ref a])(_:H a=U (.lst (IH t)))(_:t.length<=20000)(_:(∀x∈t,x<256))(_:lu A H a (g t) Q)
def Fr.none(f:Fr W H D)(B:D p=AB)(h:p∉W):H p=AB:=by
 cases e:H p with
 |none=>rfl
 |some o=>rw[f p o e h]at B;cases B
noncomputable def nO(H:Hp)(g:Option (List Nat))(Q:VK):Prop:=(g=AB-> ∀B,Fr [] H B->Q .Jm B)/\ ∀ws,g=U ws->VE H (IH ws) Q
inductive Xl (vs:List V)(H:Hp)(Q:VK)(E:XK):Prop
 |mk (a:AK)(t:List Nat)(b:Nat)(_:vs=[.ref a,.int (b:Int)])(_:H a=U (.lst (IH t)))(_:t.length<=20000)(_:(∀x∈t,x<256))(_:b<=16)(_:nO H (LC b t AJ) Q):Xl vs H Q E
def bY(c:Nat):Mq (c:Int)=((dw c:Nat):Int):=by
 unfold Mq dw Lx;by_cases B:48<=c/\c<=57
 .rw[AI B,AI (by simp only[AX,Ak];lia)];lia
 rw[AD B,AD (by simp only[AX,Ak];lia)];by_cases D:65<=c/\c<=70
 .rw[AI D,AI (!3)];lia
 rw[AD D,AD (!3)];by_cases E:97<=c/\c<=102
 .rw[AI E,AI (!3)];lia
 rw[AD E,AD (!3)];rfl
def iZ(b c:Nat)(r:List Nat)(a:Bool):LC b (c::r) a=if c=95/\a=AF then LC b r AJ else if b<=dw c then AB else(LC b r AF).map λl=>dw c::l:=rfl
def lO(b:Nat)(a:Bool):LC b [] a=if a=AF then U []else AB:=rfl
noncomputable def PvD(t:List Nat)(b:Nat)(a p:AK)(H:Hp)(i:Nat)(E:_L.St)(D:Hp):Prop:=i<=t.length/\Fr [] H D/\ ∃acc B F G,E=[U (.ref a),U (.int (b:Int)),U (.ref p),U (.bl B),F,G]/\D p=U (.lst (IH acc))/\acc.length<=i/\LC b t AJ=(LC b (t.drop i) B).map (acc++ ·)
def PY(T:Txt K mg A): !20 3 "digits_within" ["octets","base"] Xl:=by
 show 8 ["octets","base","worths","behind_digit","octet","worth"] 49;obtain⟨a,t,b,rfl,ha,hl,hb,h16,O,q2⟩:=h;refine⟨_,(Gy (IA (i:=2) (Ib ML))
   (Gy (IA (i:=3) ND)
   (Gy (LG Ag rfl (L7 (pv 0)) (JO (i:=4) S.nd rfl (CW rfl)) (Hm (IS (PW.pt (J2 (IB JB (pv 4) (Hx T.Qo)) (Jr (Ik (pv 3))))) (Hm (IA (i:=3) ND)) (Gy (IA (i:=5) (Hr (Oz T) (Hn (pv 4))))
   (Gy (IS (IB md (pv 5) (pv 1)) (Hm (Hy LW)) IC)
   (Gy (IK (KZ PySem.F.plainAttrs_list PySem.F.slot_list_append PySem.F.type_list_append Jg (pv 2) (Hn (pv 5))))
   (Hm (IA (i:=3) ND))))))))
   (Hm (Hy (NC (Ik (pv 3)) (pv 2) LW)))))),?_⟩
 simp![Ms];refine⟨Iv (!1),λp M=>?_⟩;have Y:Fr [] H (_L.Hu H p (.lst [])):=Fr.new M;refine⟨⟨_,Ip.of (Y _ _ ha (!2))⟩,?_⟩;refine forL (xs:=IH t) (PvD t b a p H) ⟨Ax _,Y,[],AJ,AB,AB,rfl,Hq,AR _,!2⟩ (λi Z I y h=>Ip.of (h.2.1 _ _ ha (!2))) ?_ ?_
 .rintro i x Z I hx ⟨hi,f,acc,D,z1,z2,rfl,B,J,hd⟩;obtain⟨c,hc,rfl⟩:=LH hx;obtain⟨E,e⟩:=List.getElem?_eq_some_iff.mp hc;simp![Ms];have G:t.drop i=c::t.drop (i+1):=by rw[<-EG E,e]
  rw[G,iZ]at hd;have other: ¬(c=95/\D=AF)->(if decide ((b:Int)<=Mq (c:Int))=AF then Q V.Jm I else ja K "list" (V.ref p) I/\Ap I p (V.int (Mq (c:Int))) λH2=>
    PvD t b a p H (i+1) [U (V.ref a),U (V.int (b:Int)),U (V.ref p),U (V.bl AF),U (V.int (c:Int)),U (V.int (Mq (c:Int)))] H2):=by
   intro hn;rw[AD hn]at hd;rw[bY];by_cases hw:b<=dw c
   .refine dT (show(b:Int)<=((dw c:Nat):Int)by nofun) ?_
    rw[AI hw]at hd;exact O (by rw[hd];rfl) _ f
   refine dF (show¬(b:Int)<=((dw c:Nat):Int)by nofun) ?_
   rw[AD hw]at hd;refine⟨Im B,_,B,?_,E,f.Z8 M,acc++[dw c],AF,_,_,rfl,?_,by simp;nofun,?_⟩
   .rw[Hw];exact Bg (Aa J (Aa hi hl)) (!1)
   .rw[Hq,Iq];rfl
   rw[hd];cases LC b (t.drop (i+1)) AF with
   |none=>rfl
   |some z=>simp
  by_cases L:c=95
  .refine dT (show(c:Int)=95 by nofun) ?_
   cases D with
   |true=>
    refine WJ rfl ?_
    rw[AI ⟨L,rfl⟩]at hd;exact⟨E,f,acc,AJ,_,_,rfl,B,!5,hd⟩
   |false=>
    refine W5 AH ?_
    exact other (!2)
  rw[AM (show¬(c:Int)=95 by nofun),AD AH,AD AH];exact other (λz=>L z.1)
 rintro Z I ⟨hi,f,acc,D,z1,z2,rfl,B,J,hd⟩;simp![Ms];rw[Hw,EX,lO]at hd;cases D with
 |true=>
  rw[AI rfl]at hd⊢;refine q2 acc (by rw[hd];simp) _ p M B f
 |false=>
  rw[AD AH]at hd⊢;exact O (by rw[hd];rfl) _ f
inductive fI (g:List Nat->Option (List Nat))(vs:List V)(H:Hp)(Q:VK)(E:XK):Prop
 |mk (a:AK)(t:List Nat)(_:vs=[.ref a])(_:H a=U (.lst (IH t)))(_:t.length<=20000)(_:(∀x∈t,x<256))(_:nO H (g t) Q)
def Ud(T:Txt K mg A): !20 4 "leading_digits" ["octets"] (fI lead):=by
 show 8 ["octets","worths"] 50;obtain⟨a,t,rfl,ha,M,O,D,E⟩:=h;refine⟨_,(Gy (IA (i:=1) (Hr (PY T) (Hz (pv 0) (Hn Ht))))
   (Gy (IS (PW.pt (Mg (KY (MJ (pv 1))) (LU (PW.pt (J2 (IB L1 (IT IP T.Jf PySem.boot_len (Hn (pv 1))) Ht) (Jr (IB JB (KS Jh (pv 1) Ht (λy y=>rfl)) Ht))))))) (Hm (Hy LW)) IC)
   (Hm (Hy (pv 1))))),?_⟩
 simp![];unfold lead at D E;refine⟨a,t,10,rfl,ha,M,O,!1,λen S F=>?_,λws Y S p J B F=>?_⟩
 .simp![];refine dT trivial ?_
  exact D (by rw[en];rfl) _ F
 simp![];refine dF (by intro z;cases z) ?_
 refine⟨_,.inl (Ip.of B),?_⟩;rw[Hw];rw[Y]at D E;replace D:(if 1<ws.length/\ws.head?=U 0 then AB else U ws)=AB-> ∀L,Fr [] H L->Q V.Jm L:=D;replace E: ∀us,(if 1<ws.length/\ws.head?=U 0 then AB else U ws)=U us->VE H (IH us) Q:=E;by_cases G:1<ws.length
 .refine dT (show(1:Int)<(ws.length:Int)by lia) ?_
  cases ws with
  |nil=>simp at G
  |cons c r=>
   refine⟨_,Ip.of B,.int (c:Int),KU (j:=0) rfl,?_⟩;show 4;by_cases I:c=0
   .subst I;refine dT (show((0:Nat):Int)=0 from rfl) ?_
    exact D (AI ⟨G,rfl⟩) _ F
   refine dF (λz=>I (!3)) ?_
   exact E _ (AD (λz=>I (!8 z.2))) _ p J B F
 rw[AM (show¬(1:Int)<(ws.length:Int)by lia),AD AH,AD AH];exact E _ (AD (λz=>G z.1)) _ p J B F
def JV(D:H p=AB): ∃B,_L.Hu H p (.lst xs)=B/\Fr [] H B/\B p=U (.lst xs):=⟨_,rfl,Fr.new D,Hq⟩
def Lz(t:List Nat)(i:Int)(k:Nat)(e:i=(k:Int)):Ma (IH t) AB (U i)=IH (t.take k):=by
 subst e;unfold Ma;rw[HT.QU,HT.Mf,Hw];unfold IH;rw[<-Dr,<-Dq]
 congr 1
 rw[DB,Gf];obtain h|h:=Fb k t.length
 .rw[DJ h]
 rw[EW h,BG,B2 h]
def KI(t:List Nat)(i:Int)(k:Nat)(e:i=(k:Int)):Ma (IH t) (U i) AB=IH (t.drop k):=by
 subst e;unfold Ma;rw[HT.QU,HT.Mf,Hw];unfold IH;rw[<-Dr,<-Dq]
 congr 1
 obtain h|h:=Fb k t.length
 .rw[DJ h,B2 (by rw[AS];nofun)]
 rw[EW h,EX,EH h];simp
def PR(t:List Nat)(a b:Int)(i j:Nat)(e1:a=(i:Int))(e2:b=(j:Int)):Ma (IH t) (U a) (U b)=IH ((t.drop i).take (j-i)):=by
 subst e1 e2;unfold Ma;rw[HT.Mf,HT.Mf,Hw];unfold IH;rw[<-Dr,<-Dq]
 congr 1
 obtain h|h:=Fb i t.length
 .rw[DJ h];obtain B|B:=Fb j t.length
  .rw[DJ B]
  rw[EW B,B2 (by rw[AS];lia),B2 (by rw[AS];lia)]
 rw[EW h,EX,EH h];simp
def UQ(t:List Nat)(i:Int)(k:Nat)(e:i= -(k:Int))(B:0<k):Ma (IH t) (U i) AB=IH (t.drop (t.length-k)):=by
 subst e;unfold Ma;rw[HT.QU,Hw];have:HT.Va t.length 0 (U (-(k:Int)))=t.length-k:=by
  show(if-(k:Int)<0 then(-(k:Int)+(t.length:Int)).toNat else _)=_;rw[AI (!5)]
  nofun
 rw[this];unfold IH;rw[<-Dr,<-Dq,B2 (by rw[AS];nofun)]
noncomputable def Ut(l:List Nat):List PyData:=l.map λ(n:Nat)=>PyData.int (n:Int)
theorem UM: ∀l:List Nat,Um K H (IH l) (Ut l)
 |[]=>.nil
 |x::r=>.cons (.int _) (UM r)
def JJ(h:H p=U (.lst (IH l))):Dp K H (.ref p) (.list (Ut l)):=.lst (Ip.of h) (UM l)
theorem QG: ∀l:List Nat,EA (Ut l)=AF
 |[]=>rfl
 |x::r=>by
  show(PyData.canLay0 (.int _)&&EA (Ut r))=AF;rw[QG r];rfl
theorem V0: ∀l:List Nat,Du (Ut l)=0
 |[]=>rfl
 |x::r=>by
  show max (PyData.depth (.int _)) (Du (Ut r))=0;rw[V0 r];rfl
def I0(l:List Nat):D7 (.list (Ut l))=AF:=by
 unfold D7;show(EA (Ut l)&&decide (Du (Ut l)+1<=64))=AF;rw[QG,V0];rfl
theorem Vz: ∀a b:List Nat,AAA (Ut a) (Ut b)=decide (a=b)
 |[],[]=>rfl
 |[],_::_=>rfl
 |_::_,[]=>rfl
 |x::a,y::b=>by
  show(((x:Int)==(y:Int))&&AAA (Ut a) (Ut b))=_;rw[Vz a b,A9];simp only[AX,BL,Ak,Dy];exact and_congr_left λz=>by omega
def Lc(a b:List Nat):GP (.list (Ut a)) (.list (Ut b))=decide (a=b):=Vz a b
def take1(t:List Nat)(c:Nat):t.take 1=[c]↔t.head?=U c:=by
 cases t with
 |nil=>simp
 |cons x r=>simp
inductive fO (g:List Nat->Bool)(vs:List V)(H:Hp)(Q:VK)(E:XK):Prop
 |mk (a:AK)(t:List Nat)(_:vs=[.ref a])(_:H a=U (.lst (IH t)))(_: ∀H',Fr [] H H'->Q (.bl (g t)) H')
def Ug(T:Txt K mg A): !20 1 "is_negative" ["word"] (fO Iw):=by
 show 8 ["word"] 51;obtain⟨a,t,rfl,ha,q⟩:=h;refine⟨_,(Hm (Hy (KD (Nd (T5 hr)) (IY Ii (pv 0) Iz (IX Ht)) (Ib (Hn (Hx T.SV)))))),?_⟩;simp![];refine⟨_,Ip.of ha,λp E=>?_⟩;rw[Lz t 1 1 rfl];obtain⟨J,e1,F,G⟩:=JV (xs:=IH (t.take 1)) E;rw[e1];refine⟨Iv (!1),λL B=>?_⟩;obtain⟨H2,e2,D,I⟩:=JV (xs:=[V.int 45]) B;rw[e2];refine⟨_,JJ (D _ _ G (!2)),_,JJ (l:=[45]) I,I0 _,I0 _,?_⟩;rw[Lc];have:decide (t.take 1=[45])=Iw t:=by
  unfold Iw;rw[A9,Ak,take1,BL]
 rw[this];exact q _ (F.trans D)
inductive Sz (vs:List V)(H:Hp)(Q:VK)(E:XK):Prop
 |mk (a:AK)(t:List Nat)(_:vs=[.ref a])(_:H a=U (.lst (IH t)))(_: ∀H' p,(p=a\/H p=AB)->H' p=U (.lst (IH (IW t)))->Fr [] H H'->Q (.ref p) H'):Sz vs H Q E
def Rb(T:Txt K mg A): !20 1 "without_sign" ["word"] Sz:=by
 show 8 ["word"] 52;obtain⟨a,t,rfl,ha,q⟩:=h;refine⟨_,(Hm (Hy (NC (PW.pt (Mg (IB (Nd (T5 hr)) (IY Ii (pv 0) Iz (IX Ht)) (Ib (Hn (Hx T.SV)))) (LU (IB (Nd (T5 hr)) (IY Ii (pv 0) Iz (IX Ht)) (Ib (Hn (Hx T.pO))))))) (IY Ii (pv 0) (IX Ht) Iz) (pv 0)))),?_⟩;simp![];refine⟨_,Ip.of ha,λp S=>?_⟩;rw[Lz t 1 1 rfl];obtain⟨H1,e1,Y,Z⟩:=JV (xs:=IH (t.take 1)) S;rw[e1];refine⟨Iv (!1),λp2 I=>?_⟩;obtain⟨H2,e2,L,h2⟩:=JV (xs:=[V.int 45]) I;rw[e2];have B:=Y.trans L;refine⟨_,JJ (L _ _ Z (!2)),_,JJ (l:=[45]) h2,I0 _,I0 _,?_⟩;rw[Lc];unfold IW at q;by_cases c1:t.take 1=[45]
 .refine dT c1 ?_
  rw[AI (.inl ((take1 t 45).mp c1))]at q;refine⟨_,Ip.of (B _ _ ha (!2)),λM E=>?_⟩;rw[KI t 1 1 rfl];exact q _ M (.inr (B.none E (!2))) Hq (B.trans (Fr.new E))
 refine dF c1 ?_
 refine⟨_,Ip.of (B _ _ ha (!2)),λM E=>?_⟩;rw[Lz t 1 1 rfl];obtain⟨H3,e3,f3,h3⟩:=JV (xs:=IH (t.take 1)) E;rw[e3];refine⟨Iv (!1),λp4 J=>?_⟩;obtain⟨H4,e4,O,h4⟩:=JV (xs:=[V.int 43]) J;rw[e4];have D:=(B.trans f3).trans O;refine⟨_,JJ (O _ _ h3 (!2)),_,JJ (l:=[43]) h4,I0 _,I0 _,?_⟩;rw[Lc];by_cases G:t.take 1=[43]
 .refine dT G ?_
  rw[AI (.inr ((take1 t 43).mp G))]at q;refine⟨_,Ip.of (D _ _ ha (!2)),λp5 F=>?_⟩;rw[KI t 1 1 rfl];exact q _ p5 (.inr (D.none F (!2))) Hq (D.trans (Fr.new F))
 refine dF G ?_
 rw[AD (by rintro(z|z);exact c1 ((take1 t 45).mpr z);exact G ((take1 t 43).mpr z))]at q;exact q _ a (.inl rfl) (D _ _ ha (!2)) D
noncomputable def jS:Nat:=9223372036854775808
inductive S9 (vs:List V)(H:Hp)(Q:VK)(E:XK):Prop
 |mk (a:AK)(c:List Nat)(b:Nat)(_:vs=[.ref a,.int (b:Int)])(_:H a=U (.lst (IH c)))(_:1<=b)(_:b<=16)(_: ∀n:Nat,(nb b c<=jS->n=nb b c)->(jS<nb b c->jS<n)->Q (.int (n:Int)) H):S9 vs H Q E
noncomputable def PvB(t:List Nat)(b:Nat)(a:AK)(H:Hp)(i:Nat)(B:_L.St)(D:Hp):Prop:=D=H/\i<=t.length/\nb b (t.take i)<=jS/\ ∃z,B=[U (.ref a),U (.int (b:Int)),U (.int ((nb b (t.take i):Nat):Int)),z]
def R1(T:Txt K mg A): !20 1 "number_by" ["worths","base"] S9:=by
 show 8 ["worths","base","number","worth"] 53;obtain⟨a,t,b,rfl,ha,D,Y,q⟩:=h;refine⟨_,(Gy (IA (i:=2) Ht)
   (Gy (LG Ag rfl (L7 (pv 0)) (JO (i:=3) S.nd rfl (CW rfl)) (Gy (IA (i:=2) (Ij KA (Ij We (pv 2) (pv 1)) (pv 3)))
   (Hm (IS (IB L1 (pv 2) (Hx T.Mx)) (Hm (Hy (pv 2))) IC))))
   (Hm (Hy (pv 2))))),?_⟩
 simp![];refine⟨⟨_,Ip.of ha⟩,?_⟩;refine forL (xs:=IH t) (PvB t b a H) ⟨rfl,Ax _,Ax _,AB,rfl⟩ (λi L M y h=>Ip.of (h.1▸ha)) ?_ ?_
 .rintro i x L M hx ⟨rfl,Z,hB,z,rfl⟩;obtain⟨c,O,rfl⟩:=LH hx;obtain⟨E,e⟩:=List.getElem?_eq_some_iff.mp O;simp![];have F:nb b (t.take (i+1))=b*nb b (t.take i)+c:=by
   rw[Br,O];exact Qg _ _ _
  have B:((nb b (t.take i):Nat):Int)*(b:Int)+(c:Int)=((nb b (t.take (i+1)):Nat):Int):=by
   rw[F,Ep,Int.natCast_mul,Int.mul_comm]
  rw[B];refine⟨.inr ⟨!5,!5⟩,?_⟩;have I:nb b (t.take (i+1))<=nb b t:=by
   conv=>rhs;rw[<-As (i+1) t,PN]
   have:1<=b^(t.drop (i+1)).length:=Nat.one_le_pow _ _ D;exact Aa (Nat.le_mul_of_pos_right _ this) (DA _ _)
  generalize hG:(9223372036854775808:Int)=G;have hG':G=((jS:Nat):Int):=by rw[<-hG];rfl
  by_cases J:jS<nb b (t.take (i+1))
  .refine dT (show G<((nb b (t.take (i+1)):Nat):Int)by nofun) ?_
   exact q _ (λz=>by nofun) (λy=>J)
  refine dF (show¬G<((nb b (t.take (i+1)):Nat):Int)by nofun) ?_
  exact⟨rfl,E,!5,_,rfl⟩
 rintro L M ⟨rfl,Z,hB,z,rfl⟩;simp![];rw[Hw,BG]at*;exact q _ (λy=>rfl) (λz=>z)
inductive jq (K:PySem.W.Frag)(vs:List V)(H:Hp)(Q:VK)(E:XK):Prop
 |mk (a g:AK)(t b:List Nat)(_:vs=[.ref a,.ref g])(_:H a=U (.lst (IH t)))(_:NR K H g (IH b))(_: ∀H',Fr [] H H'->Q (.int ((Lr (λc=>b.contains c) t:Nat):Int)) H')
noncomputable def PvP(B t:List Nat)(a g:AK)(H:Hp)(i:Nat)(D:_L.St)(E:Hp):Prop:=Fr [] H E/\i<=t.length/\(∀x∈t.take i,B.contains x=AJ)/\ ∃F G,D=[U (.ref a),U (.ref g),F,G]
theorem RS: ∀l:List Nat,(IH l).all Oj=AF
 |[]=>rfl
 |x::r=>by
  show(Oj (.int _)&&(IH r).all Oj)=AF;rw[RS r];rfl
theorem Qn(c:Nat): ∀l:List Nat,vM (.int (c:Int)) (IH l)=l.contains c
 |[]=>rfl
 |x::r=>by
  show(lM (.int (x:Int)) (.int (c:Int))||vM (.int (c:Int)) (IH r))=_;rw[Qn c r,FA]
  congr 1
  show decide _=_;rw[A9,BL,Ak]
  lia
def P6(t:List Nat):(IW t).length<=t.length:=by
 unfold IW;split
 .rw[AS];omega
 exact AR _
def P5{t:List Nat}(h:x∈IW t):x∈t:=by
 unfold IW at h;split at h
 .exact CD h
 exact h
def Uc(T:Txt K mg A): !20 1 "place_of" ["octets","signs"] (jq K):=by
 show 8 ["octets","signs","place","octet"] 55;obtain⟨a,g,t,D,rfl,ha,Y,q⟩:=h;refine⟨_,(Gy (LG Ag rfl (kL rfl T.X0 (Hn (pv 0))) (WY rfl (Ls (JO (i:=2) S.nd rfl (CW rfl)) (Ls (JO (i:=3) S.nd rfl (CW rfl)) SN))) (Hm (IS (IB Vd (pv 3) (pv 1) (hm:=rfl)) (Hm (Hy (pv 2))) IC)))
   (Hm (Hy (IT IP T.Jf PySem.boot_len (Hn (pv 0)))))),?_⟩
 simp![];refine⟨_,Ip.of ha,?_⟩;refine zU (xs:=IH t) (PvP D t a g H) ⟨Fr.refl,Ax _,!2,AB,AB,rfl⟩ (λi L M y h=>Ip.of (h.1 _ _ ha (!2))) ?_ ?_
 .rintro i x L M T hx ⟨f,Z,B,z1,z2,rfl⟩ hT;obtain⟨c,O,rfl⟩:=LH hx;obtain⟨I,e⟩:=List.getElem?_eq_some_iff.mp O;have J:=f.trans (Fr.new (o:=.tup [V.int (i:Int),V.int (c:Int)]) hT);refine⟨_,rfl,_,NR.of Hq,rfl,?_⟩;simp![];refine⟨g,_,rfl,.inr (Z2 Y J (!2)),rfl,RS D,?_⟩;rw[Qn];simp![];have G: ∀x∈t.take i,(!D.contains x)=AF:=λx hx=>by rw[B x hx];rfl
  by_cases F:D.contains c=AF
  .rw[F];simp only[Ai,BX,BS];have:Lr (λc=>D.contains c) t=i:=by
    unfold Lr;have e2:t=t.take i++(c::t.drop (i+1)):=by rw[<-e,EG,As]
    conv=>lhs;rw[e2]
    rw[BD G,Aw,AD (by rw[F];decide),An,AW]
    lia
   rw[this]at q;exact q _ J
  have E:D.contains c=AJ:=by simpa using F
  rw[E];refine Ol ?_
  refine⟨J,I,?_,_,_,rfl⟩;intro x hx;rw[Br,O]at hx;obtain z|z:=AQ.mp hx
  .exact B x z
  obtain rfl:x=c:=by simpa using z
  exact E
 rintro L M ⟨f,Z,B,z1,z2,rfl⟩;simp![];refine⟨_,.inl (Ip.of (f _ _ ha (!2))),?_⟩;rw[Hw]at*;rw[BG]at B;have:Lr (λc=>D.contains c) t=t.length:=by
  unfold Lr;have:t.takeWhile (λc=>!D.contains c)=t:=by
   have:=BD (p:=λc=>!D.contains c) (l₁:=t) (l₂:=[]) (λx hx=>by rw[B x hx];rfl);simpa using this
  rw[this]
 rw[this]at q;exact q _ f
inductive mL (vs:List V)(H:Hp)(Q:VK)(E:XK):Prop
 |mk (a:AK)(t:List Nat)(_:vs=[.ref a])(_:H a=U (.lst (IH t)))(_:t.length<=20000)(_:(∀x∈t,x<256))(_:(MW t=AB-> ∀H',Fr [] H H'->Q .Jm H'))(_:(∀i,MW t=U i-> ∀H',Fr [] H H'->Q (.int i) H')):mL vs H Q E
def iq(T:Txt K mg A): !20 4 "power_of_ten" ["octets"] mL:=by
 show 8 ["octets","worths","power"] 57;obtain⟨a,t,rfl,ha,hl,hb,F,G⟩:=h;refine⟨_,(Gy (IA (i:=1) (Hr (PY T) (Hz (Hr (Rb T) (Hn (pv 0))) (Hn Ht))))
   (Gy (IS (PW.pt (Mg (KY (MJ (pv 1))) (LU (IB L1 (IT IP T.Jf PySem.boot_len (Hn (pv 1))) (Hx T.Pe))))) (Hm (Hy LW)) IC)
   (Gy (IA (i:=2) (Hr (R1 T) (Hz (pv 1) (Hn Ht))))
   (Hm (Hy (NC (Ik (Hr (Ug T) (Hn (pv 0)))) (Kr J9 (pv 2)) (pv 2))))))),?_⟩
 simp![];unfold MW at F G;refine⟨a,t,rfl,ha,λH1 p hp hu M=>?_⟩;simp![];refine⟨p,IW t,10,rfl,hu,Aa (P6 t) hl,λx hx=>hb x (P5 hx),!1,λen H2 I=>?_,λws O H2 p2 kx E I=>?_⟩
 .simp![];refine dT trivial ?_
  exact F (by rw[en];rfl) _ (M.trans I)
 simp![];refine dF (by intro z;cases z) ?_
 refine⟨_,.inl (Ip.of E),?_⟩;rw[Hw];rw[O]at F G;have B:=M.trans I;by_cases S:9<ws.length
 .refine dT (show(9:Int)<(ws.length:Int)by nofun) ?_
  exact F (by show(if 9<ws.length then AB else _)=AB;rw[AI S]) _ B
 refine dF (show¬(9:Int)<(ws.length:Int)by nofun) ?_
 have Y: ∀i,(if Iw t=AF then-(nb 10 ws:Int)else(nb 10 ws:Int))=i-> ∀Z,Fr [] H Z->Q (.int i) Z:=λi hi=>G i (by show(if 9<ws.length then AB else _)=_;rw[AD S,hi]);refine⟨p2,ws,10,rfl,E,!1,!1,λn J hn2=>?_⟩;have L:nb 10 ws<=jS:=by
  have h1:=gK (Mz O);have h2:10^ws.length<=10^9:=Eg (!1) (!5);have h3:10^9<=jS:=!1
  nofun
 rw[J L];simp![];refine⟨a,t,rfl,B _ _ ha (!2),λH3 f3=>?_⟩;simp![];by_cases D:Iw t=AF
 .refine WJ D ?_
  exact Y _ (AI D) _ (B.trans f3)
 refine W5 D ?_
 exact Y _ (AD D) _ (B.trans f3)
end
end _S
local macro_rules
 |`(tactic|simp! [$xs,*])=>Z_ "_L.a9 _L.qA _L.uG _L.xw _L.sh _L.xt _L.si _L.xu _L.vB _L.wI _L.wQ _L.wipe _L.xI _L.xH _L.tFs _L.xK _L.kD _S.cxK _S.vG _L.V.str.injEq if_true" xs.getElems "'only 1"
namespace _S
open PySem PySem.Spec PyProof.Rows _L
section
variable{P:BB}{w:BJ}{K:PySem.W.Frag}{mg:Str->Option Value}{base:Heap}{A:JL}
def Ya(ws:List Nat)(e:Int):List Nat:=ES 1 (OJ AJ (ws,e))
inductive fN (vs:List V)(H:Hp)(Q:VK)(E:XK):Prop
 |mk (a:AK)(b:List Nat)(e:Int)(_:vs=[.ref a,.int e])(_:H a=U (.lst (IH b)))(_:b.length<=40000)(_:(∀x∈b,x<10))(_:(-2000000000<=e/\e<=2000000000))(_:VE H (IH (Ya b e)) Q):fN vs H Q E
noncomputable def WL1(ws:List Nat)(a:AK)(e:Int)(H:Hp)(m:Nat)(B:_L.St)(D:Hp):Prop:=D=H/\ ∃k,k<=ws.length/\m=ws.length-k/\(∀x∈ws.take k,x=0)/\B=[U (.ref a),U (.int e),U (.int (k:Int)),AB,AB,AB,AB]
def LY(s:String):(BK s).cps.toList=Bh s:=by
 rw[PySem.Str.ofString_eq_toList];unfold Bh;simp
noncomputable def WL2(ws:List Nat)(a:AK)(e:Int)(k:Nat)(H:Hp)(m:Nat)(B:_L.St)(D:Hp):Prop:=D=H/\ ∃j,k<j/\j<=ws.length/\m=j/\(∀x∈ws.drop j,x=0)/\B=[U (.ref a),U (.int e),U (.int (k:Int)),U (.int (j:Int)),AB,AB,AB]
def SR{i c:Nat}(h:l[i]? =U c):(IH l)[i]? =U (V.int (c:Int)):=by
 unfold IH;rw[List.getElem?_map,h];rfl
def dP(I:k<j)(hj:j<=ws.length)(J: ∀x∈ws.take k,x=0)(F: ∀x∈ws.drop j,x=0)(L:ws[k]? =U c)(M: ¬c=0)(hd:ws[j-1]? =U d)(d0: ¬d=0)(O: ∀x∈ws,x<10):
  Ya ws e=((ws.drop k).take (j-k)).map (48+ ·)++(101::Bh (toString (e+(ws.length:Int)-(j:Int)))):=by
 generalize B:(ws.drop k).take (j-k)=E;have D:E.length=j-k:=by rw[<-B,AW,AS];lia
 have e1:ws.take k=Ad k 0:=DO.mpr ⟨by rw[AW];lia,J⟩;have e2:ws.drop j=Ad (ws.length-j) 0:=DO.mpr ⟨by rw[AS],F⟩;have e3:ws=Ad k 0++(E++Ad (ws.length-j) 0):=by
  conv=>lhs;rw[<-As k ws,e1,<-As (j-k) (ws.drop k),B,BR,show k+(j-k)=j by lia,e2]
 have S:E≠ []:=λz=>by rw[z]at D;simp at D;lia
 have Y:E.head?≠U 0:=by
  rw[List.head?_eq_getElem?,<-B,List.getElem?_take_of_lt (!3),List.getElem?_drop,E1,L];exact λz=>M (by injection z)
 have Z:E.getLast?≠U 0:=by
  rw[List.getLast?_eq_getElem?,D,<-B,List.getElem?_take_of_lt (!3),List.getElem?_drop,show k+(j-k-1)=j-1 by lia,hd];exact λz=>d0 (by injection z)
 have g4: ∀w∈E,w<10:=λx hx=>by
  rw[<-B]at hx;exact O x (CD (Eh hx))
 obtain⟨G,d2⟩:=UP (i:=k) (k:=ws.length-j) S Y Z g4 e;rw[<-e3]at G;unfold Ya OJ;show 4;rw[G];show([]:List Nat)++(Bh (toString (nb 10 E))++(101::Bh (toString (e+((ws.length-j:Nat):Int)))))=_;rw[d2,A6,show e+((ws.length-j:Nat):Int)=e+(ws.length:Int)-(j:Int)by lia]
noncomputable def PvC(B:List Nat)(H3:Hp)(D:AK)(i:Nat)(E:Hp):Prop:=i<=B.length/\Fr [] H3 E/\E D=U (.lst (IH ((B.take i).map (48+ ·))))
def lZ(T:Txt K mg A): !20 2 "decimal_form" ["worths","power"] fN:=by
 show 8 ["worths","power","first","behind_last","digits","shifted","worth"] 58;obtain⟨a,ws,e,rfl,ha,hl,hb,he,q⟩:=h;refine⟨_,(Gy (IA (i:=2) Ht)
   (Gy (JS Ag (PW.pt (J2 (IB Kt (pv 2) (IT IP T.Jf PySem.boot_len (Hn (pv 0)))) (Jr (IB JB (KS Jh (pv 0) (pv 2) (λy y=>rfl)) Ht)))) (Hm (WX (i:=2) S.nd rfl (CW rfl) Ht Zd)))
   (Gy (IS (IB JB (pv 2) (IT IP T.Jf PySem.boot_len (Hn (pv 0)))) (Hm (Hy (Hr (Kd T) (Hn P8)))) IC)
   (Gy (IA (i:=3) (IT IP T.Jf PySem.boot_len (Hn (pv 0))))
   (Gy (JS Ag (IB JB (KS Jh (pv 0) (Ij MM (pv 3) Ht) (λy y=>rfl)) Ht) (Hm (WX (i:=3) S.nd rfl (CW rfl) Ht pK)))
   (Gy (fb (i:=4) rfl S.nd rfl rfl (jn rfl rfl rfl rfl) (L7 (IY Ii (pv 0) (IX (pv 2)) (IX (pv 3)))) (Ou (N:=["worths","power","first","behind_last","digits","shifted","worth"]) (sc:=IV (top 126)) (own:=[("worth",6)]) (!0)) (λy y y y y=>JO (i:=6) S.nd rfl (CW rfl) (HX rfl)) (λy y y y y=>QW) (λy y y y y=>Ij KA (Hx T.Ze) (pv 6)))
   (Gy (IA (i:=5) (Ij MM (Ij KA (pv 1) (IT IP T.Jf PySem.boot_len (Hn (pv 0)))) (pv 3)))
   (Hm (Hy (Ij Mv (pv 4) (Hr (Kd T) (Hn (kN (!1) (pv 5)))))))))))))),?_⟩
 simp![];refine⟨WL1 ws a e H,⟨_,rfl,0,Ax _,rfl,!2,rfl⟩,?_⟩;rintro m σ H1 ⟨rfl,k,hk,rfl,hz,rfl⟩;simp![];refine⟨_,.inl (Ip.of ha),?_⟩;rw[Hw];have O:k=ws.length->Ya ws e=[48,101,48]:=by
  intro h;rw[h,BG]at hz;unfold Ya OJ;show 4;rw[UO hz e];decide
 by_cases J:k<ws.length
 .refine dT (show(k:Int)<(ws.length:Int)by nofun) ?_
  obtain⟨c,Y⟩: ∃c,ws[k]? =U c:=⟨_,List.getElem?_eq_getElem J⟩
  refine⟨_,Ip.of ha,.int (c:Int),KU (SR Y),?_⟩;show 4;by_cases h0:c=0
  .subst h0;refine dT (show((0:Nat):Int)=0 from rfl) ?_
   refine⟨λE F=>F=H1/\E=[U (V.ref a),U (V.int e),U (V.int ((k:Int)+1)),AB,AB,AB,AB],?_,rfl,rfl⟩;rintro E F ⟨rfl,rfl⟩;refine⟨ws.length-(k+1),!5,rfl,k+1,J,rfl,?_,rfl⟩;intro x hx;rw[Br,Y]at hx;obtain z|z:=AQ.mp hx
   .exact hz x z
   simpa using z
  refine dF (λz=>h0 (!5)) ?_
  refine⟨_,.inl (Ip.of ha),?_⟩;rw[Hw,AM (show¬(k:Int)=(ws.length:Int)by nofun),AD AH];refine⟨_,.inl (Ip.of ha),?_⟩;rw[Hw];refine⟨WL2 ws a e k H1,⟨_,rfl,ws.length,J,AR _,rfl,!2,rfl⟩,?_⟩;rintro m σ H2 ⟨rfl,j,hj1,hj2,hm,Z,rfl⟩;simp![];obtain⟨d,hd⟩: ∃d,ws[j-1]? =U d:=⟨_,List.getElem?_eq_getElem (!5)⟩
  refine⟨_,Ip.of ha,.int (d:Int),?_,?_⟩
  .rw[show(j:Int)-1=((j-1:Nat):Int)by nofun];exact KU (SR hd)
  show 4;by_cases d0:d=0
  .subst d0;refine dT (show((0:Nat):Int)=0 from rfl) ?_
   have hkj:k≠j-1:=λz=>by rw[z,hd]at Y;cases Y;exact h0 rfl
   refine⟨λE F=>F=H2/\E=[U (V.ref a),U (V.int e),U (V.int (k:Int)),U (V.int ((j:Int)-1)),AB,AB,AB],?_,rfl,rfl⟩;rintro E F ⟨rfl,rfl⟩;refine⟨j-1,!5,rfl,j-1,!5,!5,rfl,?_,by rw[show(j:Int)-1=((j-1:Nat):Int)by nofun]⟩;intro x hx;have hjl:j-1<ws.length:=!5
   rw[<-EG hjl,show j-1+1=j by nofun]at hx;obtain z|z:=AO.mp hx
   .have:=(List.getElem?_eq_some_iff.mp hd).2;rw[z,this]
   exact Z x z
  refine dF (λz=>d0 (!5)) ?_
  refine⟨_,Ip.of ha,λp hp=>?_⟩;rw[PR ws _ _ k j rfl rfl];obtain⟨H3,e3,f3,h3⟩:=JV (xs:=IH ((ws.drop k).take (j-k))) hp;rw[e3];generalize mw:(ws.drop k).take (j-k)=cc at*;refine⟨⟨_,Ip.of h3⟩,λD hD=>?_⟩;have vh:cc.length<=40000:=by rw[<-mw,AW,AS];nofun
  have G:=dP (e:=e) hj1 hj2 hz Z Y h0 hd d0 hb;rw[mw]at G;have hpD:D≠p:=λz=>by rw[z,h3]at hD;cases hD
  refine lcL (xs:=IH cc) (PvC cc H3 D) ⟨Ax _,Fr.new hD,Hq⟩ (λi F y h=>Ip.of (h.2.1 _ _ h3 (!2))) ?_ ?_
  .rintro i x F hx ⟨hi,f,B⟩;obtain⟨u,hu,rfl⟩:=LH hx;obtain⟨x9,_⟩:=List.getElem?_eq_some_iff.mp hu;refine⟨_,B,?_,x9,f.Z8 hD,?_⟩
   .rw[Hw,AY,AW];exact Bg (Aa (De _ _) vh) (!1)
   rw[Hq,Br,hu,A8,Iq];rfl
  rintro F ⟨hi,f,B⟩;rw[Hw,BG]at B;have L:=f3.trans f;refine⟨_,.inl (Ip.of (L _ _ ha (!2))),?_⟩;rw[Hw];have qz:(e+(ws.length:Int)-(j:Int)).natAbs<10^10:=!5
  generalize e+(ws.length:Int)-(j:Int)=I at*;have yB:(toString I).length<=11:=Eb (k:=10) (!1) qz;have mq:(BK "e"++BK (toString I)).length<=12:=by
   rw[strLen_append,PySem.ofString_length,PySem.ofString_length];have:("e":String).length=1:=rfl
   nofun
  refine⟨?_,Aa mq (!1),_,rfl,Aa mq (!1),?_⟩
  .have h1:I.natAbs<2^1920:=A0 qz (!0);obtain z|z:=GR I.natAbs
   .rw[z];decide
   exact(AAY (!5)).mpr h1
  have y4:(BK "e"++BK (toString I)).cps.toList=101::Bh (toString I):=by
   show((BK "e").cps++(BK (toString I)).cps).toList=_;rw[Array.toList_append,LY,LY];rfl
  rw[y4];intro H4 p4 au YL f4;have M:=f4 _ _ B (!2);refine⟨_,M,_,YL,?_,λp5 mr=>?_⟩
  .rw[Hw,Hw,AY,AN];have:(Bh (toString I)).length<=11:=by
    unfold Bh;rw[AY];exact yB
   have:(50000:Nat)<=Ac:=!1
   nofun
  rw[G]at q;refine q _ p5 ?_ ?_ ?_
  .exact(L.trans f4).none mr (!2)
  .rw[Hq,Iq]
  exact(L.trans f4).trans (Fr.new mr)
 rw[AM (show¬(k:Int)<(ws.length:Int)by nofun),AD AH,AD AH];refine⟨_,.inl (Ip.of ha),?_⟩;rw[Hw,Af (show(k:Int)=(ws.length:Int)by nofun),AI rfl];rw[O (!5)]at q;exact⟨_,rfl,!1,q⟩
def NI{Q:VK}(D:k=((Ee v:Nat):Int))(F:D8 v=0)(G:H f=U (.lst (IH (ES 1 v))))(h: ∀B p,H p=AB->KN A B p f v->Fr [] H B->Q (.ref p) B):
  ∀x dx,H x=AB->H dx=AB->dx≠x->Mr A.leaf 3 lf [.ref x,.int k,.ref f,.int 0] (_L.Hu (_L.Hu H dx (.own x)) x (.ins A.leaf dx [])) (λv H2=>v=.Jm/\Q (.ref x) H2) E:=by
 refine MO (us:=[.int k,.ref f,.int 0]) rfl ?_
 rintro B p I ⟨dx,hx⟩ fr;refine h B p I ⟨⟨dx,?_⟩,fr _ _ G (!2)⟩ fr;rw[hx,D,F];rfl
set_option tactic.hygienic true
def Yi(c:Nat)(r:List Nat):tabAt [(120,16),(111,8),(98,2)] (c:Int)=(baseOf (48::c::r)).map λ(b:Nat)=>(b:Int):=by
 by_cases B:c=120
 .subst B;rfl
 by_cases D:c=111
 .subst D;rfl
 by_cases E:c=98
 .subst E;rfl
 rw[Jj,AD (!3),Jj,AD (!3),Jj,AD (!3),RD];have:baseOf (48::c::r)=AB:=by
  unfold baseOf;split<;>first|rfl|(rename_i e;injection e with _ e;injection e with e _;lia)
 rw[this];rfl
def ip(T:Txt K mg A)(TT:LN K mg)(L:Kf K mg A): !20 5 "whole_number" ["word"] (RF A Jq):=(T.fn 54 rfl).at λF=>by
 obtain⟨d3,g3,t3⟩:=TT.bases;show 9 ["word","base","worths","number"];obtain⟨a,t,rfl,ha,hl,hb,q1,q2⟩:=h;refine⟨_,(Gy (IS (PW.pt (J2 (IB (Nd (T5 hr)) (IY Ii (pv 0) Iz (IX Ht)) (Ib (Hn (Hx T.Ze)))) (J2 (IB L1 (IT IP T.Jf PySem.boot_len (Hn (pv 0))) Ht) (Jr (IB (TZ t3) (KS Jh (pv 0) Ht (λu u=>rfl)) (Je g3 rfl) (hm:=rfl)))))) (Gy (IA (i:=1) (ZR t3 (Je g3 rfl) (KS Jh (pv 0) Ht (λu u=>rfl)) (λu u=>rfl)))
   (Hm (IA (i:=2) (Hr (PY T) (Hz (IY Ii (pv 0) (IX Ht) Iz) (Hn (pv 1))))))) (Gy (IA (i:=1) Ht)
   (Hm (IA (i:=2) (Hr (Ud T) (Hn (Hr (Rb T) (Hn (pv 0)))))))))
   (Gy (IS (KY (MJ (pv 2))) (Hm (Hy LW)) IC)
   (Gy (IA (i:=3) (Hr (R1 T) (Hz (pv 2) (Hn (pv 1)))))
   (Gy (IS (Ik (Hr (Ug T) (Hn (pv 0)))) (Hm (IA (i:=3) (Kr J9 (pv 3)))) IC)
   (Gy (IS (LV (MH J6 Kt (Kr J9 (Hx T.Mx)) (pv 3) (Hx T.Mx))) (Hm (Hy LW)) IC)
   (Hm (Hy (Jl (NG T L) (Hz (Hx T.Ws) (Hn (Hr (Kd T) (Hn (RI XC rfl T.sO df (Hn (pv 3))))))))))))))),?_⟩
 refine II λN hN=>?_;have rest: ∀(b:Nat)(H':Hp)(v:V),Fr [] H H'->1<=b->b<=16->(v=.Jm/\QX t=AB\/ ∃p ws,v=.ref p/\H' p=U (.lst (IH ws))/\QX t=U (nb b ws))->N [U (.ref a),U (.int (b:Int)),U v,AB] H':=by
  intro b H' v f ph vj hv;refine hN _ _ (II λN2 Pg=>?_);obtain⟨rfl,hp⟩|⟨p,ws,rfl,hp,hw⟩:=hv
  .simp![];refine dT trivial ?_
   exact q1 (by unfold Jq;rw[hp];rfl) _ f
  simp![];refine dF (by intro z;cases z) ?_
  refine Pg _ _ (II λN3 Rq=>?_);simp![];refine⟨p,ws,b,rfl,hp,ph,vj,λn pS hn2=>?_⟩;simp![];refine Rq _ _ (II λN4 Yz=>?_);simp![];refine⟨a,t,rfl,f _ _ ha (!2),λH2 f2=>?_⟩;have U0:=f.trans f2;have last: ∀z:Int,z=(if Iw t=AF then-(n:Int)else(n:Int))->N4 [U (.ref a),U (.int (b:Int)),U (.ref p),U (.int z)] H2:=by
   intro z hz;refine Yz _ _ ?_
   simp![KL];generalize hG:(9223372036854775808:Int)=G;have hB:G=2^63:=by rw[<-hG];decide
   have hBN:G=((jS:Nat):Int):=by rw[<-hG];rfl
   have yn: ∀y:Int,y=(if Iw t=AF then-((nb b ws:Nat):Int)else((nb b ws:Nat):Int))->((-G<=z/\z<G)↔(-G<=y/\y<G))/\(-G<=z/\z<G->z=y):=by
    intro y hy;obtain h|h:=Cv jS (nb b ws)
    .have:=hn2 h;by_cases E:Iw t=AF
     .rw[AI E]at hz hy
      lia
     rw[AD E]at hz hy
     lia
    have:=pS h;rw[this]at hz;rw[hz,hy];exact⟨Iff.rfl,λu=>rfl⟩
   obtain⟨h1,h2⟩:=yn _ rfl;have I:Jq t=HR (if Iw t=AF then-((nb b ws:Nat):Int)else((nb b ws:Nat):Int)):=by unfold Jq;rw[hw];rfl
   generalize hy:(if Iw t=AF then-((nb b ws:Nat):Int)else((nb b ws:Nat):Int))=y at h1 h2 I;have h64:HR y=if-G<=y/\y<G then U (.int y)else AB:=by unfold HR;rw[hB]
   rw[h64]at I;by_cases J: -G<=z/\z<G
   .rw[Af J.1,AI rfl,Af J.2];refine bB ?_
    rw[AI (h1.mp J),<-h2 J]at I;have hzb:z.natAbs<10^20:=!3
    refine⟨?_,_,rfl,?_,?_⟩
    .obtain e|e:=GR z.natAbs
     .rw[e];decide
     exact(AAY (!3)).mpr (A0 hzb (!0))
    .rw[PySem.ofString_length];exact Aa (Eb (k:=20) (!1) hzb) (!1)
    intro H3 p3 Y Z f3;have Y0:=U0.trans f3;rw[LY]at Z;refine NI (A:=A) (v:=.int z) rfl rfl Z λH4 p4 au hL f4=>?_;exact q2 _ I _ p4 p3 (Y0.none au (!2)) (.inr (U0.none Y (!2))) hL (Y0.trans f4)
   rw[AD (λw=>J (h1.mpr w))]at I;have:=q1 I _ U0;by_cases g1: -G<=z
   .rw[Af g1,AI rfl,AM (λg2=>J ⟨g1,g2⟩)];exact this
   refine dF g1 ?_
   exact this
  simp![];by_cases E:Iw t=AF
  .refine WJ E ?_
   exact last _ (by rw[AI E])
  refine W5 E ?_
  exact last _ (by rw[AD E])
 clear hN q1 q2;simp![ej];refine⟨_,Ip.of ha,λp hp=>?_⟩;rw[Lz t 1 1 rfl];obtain⟨H1,e1,f1,h1⟩:=JV (xs:=IH (t.take 1)) hp;rw[e1];refine⟨Iv (!1),λp2 kx=>?_⟩;obtain⟨H2,e2,f2,h2⟩:=JV (xs:=[V.int 48]) kx;rw[e2];have M:=f1.trans f2;have O:=M _ _ ha (!2);refine⟨_,JJ (f2 _ _ h1 (!2)),_,JJ (l:=[48]) h2,I0 _,I0 _,?_⟩;rw[Lc];have B:baseOf t=AB->Sz [V.ref a] H2 (λx H1=>fI lead [x] H1 (λx H1=>N [U (V.ref a),U (V.int 10),U x,AB] H1) E0) E0:=by
  intro vk;refine⟨a,t,rfl,O,λH3 p3 Y Z f3=>?_⟩;refine⟨p3,IW t,rfl,Z,Aa (P6 t) hl,λx hx=>hb x (P5 hx),λen H4 f4=>?_,λws es H4 p4 au YL f4=>?_⟩
  .exact rest 10 H4 .Jm ((M.trans f3).trans f4) (!1) (!1) (.inl ⟨rfl,by unfold QX;rw[vk];show(lead (IW t)).map _=_;rw[en];rfl⟩)
  exact rest 10 H4 (.ref p4) ((M.trans f3).trans f4) (!1) (!1) (.inr ⟨p4,ws,rfl,YL,by unfold QX;rw[vk];show(lead (IW t)).map _=_;rw[es];rfl⟩)
 cases t with
 |nil=>
  rw[AM (!2),AD AH,AD AH];exact B rfl
 |cons c0 t=>
  by_cases zM:c0=48
  .subst zM;refine dT (!2) ?_
   refine⟨_,.inl (Ip.of O),?_⟩;rw[Hw];cases t with
   |nil=>
    rw[AM (!2),AD AH,AD AH];exact B rfl
   |cons c t=>
    refine dT (by simp;lia) ?_
    refine⟨_,Ip.of O,.int (c:Int),KU (j:=1) rfl,_,rfl,?_⟩;rw[Yi c t];cases S:baseOf (48::c::t)with
    |none=>
     simp only[HB,Bp,Ai,BX];exact B S
    |some b=>
     simp only[Bq,Bf,BS];have D:1<=b/\b<=16:=by
      obtain⟨_,_,_,h⟩:=Lw S
      lia
     refine⟨_,Ip.of O,.int (c:Int),KU (j:=1) rfl,_,rfl,(b:Int),by rw[Yi c t,S];rfl,_,Ip.of O,λp3 Y=>?_⟩;rw[KI _ 2 2 rfl];obtain⟨H3,e3,f3,h3⟩:=JV (xs:=IH ((48::c::t).drop 2)) Y;rw[e3];refine⟨p3,_,b,rfl,h3,by simp at hl⊢;lia,λx hx=>hb x (CD hx),D.2,λen H4 f4=>?_,λws es H4 p4 au YL f4=>?_⟩
     .exact rest b H4 .Jm ((M.trans f3).trans f4) D.1 D.2 (.inl ⟨rfl,by unfold QX;rw[S];show(LC b _ AJ).map _=_;rw[en];rfl⟩)
     exact rest b H4 (.ref p4) ((M.trans f3).trans f4) D.1 D.2 (.inr ⟨p4,ws,rfl,YL,by unfold QX;rw[S];show(LC b _ AJ).map _=_;rw[es];rfl⟩)
  rw[AM (!8 zM),AD AH,AD AH];refine B ?_
  unfold baseOf;split<;>first|rfl|(rename_i e;injection e with e _;exact absurd e zM)
noncomputable def OL(H:Hp)(v:V)(g:Option (List Nat)):Prop:=(v=.Jm/\g=AB)\/ ∃p ws,v=.ref p/\H p=U (.lst (IH ws))/\g=U ws
def OL.fr(h:OL H v g)(f:Fr [] H B):OL B v g:=by
 obtain h|⟨p,ws,e,D,E⟩:=h
 .exact .inl h
 exact .inr ⟨p,ws,e,f _ _ D (!2),E⟩
noncomputable def OI(v:V)(g:Option Int):Prop:=(v=.Jm/\g=AB)\/ ∃i,v=.int i/\g=U i
def Rk(t:List Nat):Option AU:=(Mu t).map (OJ (Iw t))
def pJ:(λc=>([69,101]:List Nat).contains c)=LO:=by
 funext c
 unfold LO;simp[FA];rfl
def kJ{x:List Nat}(h:MW x=U i): -1000000000<=i/\i<=1000000000:=by
 unfold MW at h;cases e:LC 10 (IW x) AJ with
 |none=>show 6 e h
 |some y=>
  rw[e]at h;replace h:(if 9<y.length then AB else U (if Iw x=AF then-(nb 10 y:Int)else(nb 10 y:Int)))=U i:=h;split at h
  .cases h
  rename_i B;have D:=gK (Mz e);have E:10^y.length<=10^9:=Eg (!1) (!5);have F:(10:Nat)^9=1000000000:=!1
  injection h with h
  split at h<;>nofun
set_option tactic.hygienic false
def ib(B:ws.length<=40000)(D: ∀x∈ws,x<10)(M: -2000000000<=e/\e<=2000000000):(Ya ws e).length<=50000:=by
 obtain h|⟨i,k,c,rfl,E,F,G⟩:=Nq ws
 .unfold Ya OJ;show 4;rw[UO h e];decide
 have I: ∀w∈c,w<10:=λx hx=>D x (by simp[hx]);obtain⟨J,L⟩:=UP (i:=i) (k:=k) E F G I e;unfold Ya OJ;show 4;rw[J];show(([]:List Nat)++(Bh (toString (nb 10 c))++(101::Bh (toString (e+(k:Int)))))).length<=_;rw[L,A6,AG,AY,AN];simp only[AG,B6]at B;have:(Bh (toString (e+(k:Int)))).length<=11:=by
  unfold Bh;rw[AY];exact Eb (k:=10) (!1) (!4)
 omega
def Zz(T:Txt K mg A)(C:SG K mg)(L:Kf K mg A): !20 5 "decimal" ["word"] (RF A Rk):=(T.fn 56 rfl).at λF=>by
 obtain⟨aP,gP,tP⟩:=C.oR;show 9 ["word","unsigned","power_place","point_place","whole","behind_point","power","form"];obtain⟨a,t,rfl,ha,hl,hb,q1,q2⟩:=h;refine⟨_,(Gy (IA (i:=1) (Hr (Rb T) (Hn (pv 0))))
   (Gy (IA (i:=2) (Hr (Uc T) (Hz (pv 1) (Hn (Je gP rfl)))))
   (Gy (IA (i:=3) (Hr (Uc T) (Hz (IY Ii (pv 1) Iz (IX (pv 2))) (Hn (TX (Hn (Hx T.SU)))))))
   (Gy (IS (IB JB (pv 3) (IT IP T.Jf PySem.boot_len (Hn (pv 1)))) (Hm (Hy LW)) IC)
   (Gy (IA (i:=4) (Hr (Ud T) (Hn (IY Ii (pv 1) Iz (IX (pv 3))))))
   (Gy (IA (i:=5) (Ib ML))
   (Gy (IS (IB Kt (pv 3) (pv 2)) (Hm (IA (i:=5) (Hr (PY T) (Hz (IY Ii (pv 1) (IX (Ij KA (pv 3) Ht)) (IX (pv 2))) (Hn Ht))))) IC)
   (Gy (IA (i:=6) Ht)
   (Gy (IS (IB Kt (pv 2) (IT IP T.Jf PySem.boot_len (Hn (pv 1)))) (Hm (IA (i:=6) (Hr (iq T) (Hn (IY Ii (pv 1) (IX (Ij KA (pv 2) Ht)) Iz))))) IC)
   (Gy (IS (PW.pt (Mg (KY (MJ (pv 4))) (Mg (KY (MJ (pv 5))) (LU (KY (MJ (pv 6))))))) (Hm (Hy LW)) IC)
   (Gy (IA (i:=7) (Hr (lZ T) (Hz (Ij Mv (pv 4) (pv 5)) (Hn (Ij MM (pv 6) (IT IP T.Jf PySem.boot_len (Hn (pv 5))))))))
   (Gy (IS (Ik (Hr (Ug T) (Hn (pv 0)))) (Hm (IA (i:=7) (Ij Mv (Ib (Hn (Hx T.SV))) (pv 7)))) IC)
   (Hm (Hy (Jl (NG T L) (Hz (Hx T.Oi) (Hn (pv 7)))))))))))))))))),?_⟩
 refine II λN1 Nw=>?_;simp![];refine⟨a,t,rfl,ha,λH1 u hu0 hu f1=>?_⟩;simp![];refine Nw _ _ (II λN2 Pg=>?_);clear Nw;generalize hr:IW t=r at*;have tG:r.length<=20000:=by rw[<-hr];exact Aa (P6 t) hl
 have yH: ∀x∈r,x<256:=λx hx=>hb x (P5 (by rw[hr];exact hx));simp![];refine⟨u,aP,r,[69,101],rfl,hu,tP.sq,λH2 f2=>?_⟩;rw[pJ];generalize yK:Lr LO r=pw;have ABG:pw<=r.length:=by rw[<-yK];exact OU _ _
 simp![];refine Pg _ _ (II λN3 Rq=>?_);clear Pg;simp![];have U0:=f1.trans f2;have tD:=f2 _ _ hu (!2);refine⟨_,Ip.of tD,λp3 SD=>?_⟩;rw[Lz r _ pw rfl];obtain⟨H3,e3,f3,h3⟩:=JV (xs:=IH (r.take pw)) SD;rw[e3];refine⟨Iv (!1),λp4 au=>?_⟩;generalize hH4:_L.Hu H3 p4 (.tup [V.int 46])=H4;have f4:Fr [] H3 H4:=by rw[<-hH4];exact Fr.new au
 have h4:H4 p4=U (.tup (IH [46])):=by rw[<-hH4];exact Hq
 refine⟨p3,p4,r.take pw,[46],rfl,f4 _ _ h3 (!2),NR.of h4,λH5 f5=>?_⟩;have e46:(λc=>([46]:List Nat).contains c)=λc=>c==46:=by
  funext c
  simp;rfl
 rw[e46];generalize vT:Lr (λc=>c==46) (r.take pw)=pt;have yL:pt<=pw:=by
  rw[<-vT];exact Aa (OU _ _) (by rw[AW];nofun)
 simp![];have f05:=((U0.trans f3).trans f4).trans f5;have f25:=(f3.trans f4).trans f5;have yA:=f25 _ _ tD (!2);refine Rq _ _ (II λN4 Yz=>?_);clear Rq;simp![];refine⟨_,.inl (Ip.of yA),?_⟩;rw[Hw];have aq:Mu t=if pt=r.length then AB else(lead (r.take pt)).bind λa=>(if pt<pw then LC 10 ((r.take pw).drop (pt+1)) AJ else U []).bind λb=>(if pw<r.length then MW (r.drop (pw+1))else U 0).bind λe=>U (a++b,e-b.length):=by
  unfold Mu;show 4;rw[hr,yK,vT]
 by_cases pY:pt=r.length
 .refine dT (show(pt:Int)=(r.length:Int)by nofun) ?_
  exact q1 (by unfold Rk;rw[aq,AI pY];rfl) _ f05
 refine dF (show¬(pt:Int)=(r.length:Int)by nofun) ?_
 rw[AD pY]at aq;refine Yz _ _ (II λN5 jP=>?_);clear Yz;simp![];refine⟨_,Ip.of yA,λp6 gw=>?_⟩;rw[Lz r _ pt rfl];obtain⟨H6,e6,f6,h6⟩:=JV (xs:=IH (r.take pt)) gw;rw[e6];have vx:=f05.trans f6;have go: ∀(v:V)(H7:Hp),Fr [] H6 H7->OL H7 v (lead (r.take pt))->N5 [U (V.ref a),U (V.ref u),U (V.int (pw:Int)),U (V.int (pt:Int)),U v,AB,AB,AB] H7:=by
  intro v H7 f7 ov;refine jP _ _ (II λN6 px=>?_);clear jP;simp![];refine⟨Iv (!1),λp8 yR=>px _ _ (II λN7 uA=>?_)⟩;clear px;obtain⟨H8,e8,f8,h8⟩:=JV (xs:=IH []) yR;rw[show _L.Hu H7 p8 (.lst [])=H8 from e8];have vw:=(vx.trans f7).trans f8;have f58:=(f6.trans f7).trans f8;have hu8:=f58 _ _ yA (!2);replace ov:=ov.fr f8;have O: ∀(v2:V)(H9:Hp),Fr [] H8 H9->OL H9 v2 (if pt<pw then LC 10 ((r.take pw).drop (pt+1)) AJ else U [])->N7 [U (V.ref a),U (V.ref u),U (V.int (pw:Int)),U (V.int (pt:Int)),U v,U v2,AB,AB] H9:=by
   intro v2 H9 f9 xV;generalize S:(if pt<pw then LC 10 ((r.take pw).drop (pt+1)) AJ else U [])=gb at*;refine uA _ _ (II λN8 t9=>?_);clear uA;simp![];refine t9 _ _ (II λN9 t7=>?_);clear t9;have hu9:=f9 _ _ hu8 (!2);have zZ:=vw.trans f9;replace ov:=ov.fr f9;have Y: ∀(v3:V)(Z:Hp),Fr [] H9 Z->OI v3 (if pw<r.length then MW (r.drop (pw+1))else U 0)->N9 [U (V.ref a),U (V.ref u),U (V.int (pw:Int)),U (V.int (pt:Int)),U v,U v2,U v3,AB] Z:=by
    intro v3 Z D oi;have E:=zZ.trans D;generalize tZ:(if pw<r.length then MW (r.drop (pw+1))else U 0)=ge at*;refine t7 _ _ (II λN10 uD=>?_);clear t7;replace ov:=ov.fr D;replace xV:=xV.fr D;have G:lead (r.take pt)=AB\/gb=AB\/ge=AB->Rk t=AB:=by
     unfold Rk;rw[aq];rintro(z|z|z)
     .rw[z];rfl
     .rw[z];cases lead (r.take pt)<;>rfl
     rw[z];cases lead (r.take pt)<;>cases gb<;>rfl
    obtain⟨rfl,e1⟩|⟨pa,wa,rfl,zH,ea⟩:=ov
    .simp![];exact q1 (G (.inl e1)) _ E
    obtain⟨rfl,e1⟩|⟨pb,M,rfl,ph,eb⟩:=xV
    .simp![];rw[AM (by intro z;cases z)];exact q1 (G (.inr (.inl e1))) _ E
    obtain⟨rfl,e1⟩|⟨ev,rfl,ee⟩:=oi
    .simp![];rw[AM (by intro z;cases z),AM (by intro z;cases z)];exact q1 (G (.inr (.inr e1))) _ E
    simp![];rw[AM (by intro z;cases z),AM (by intro z;cases z),AM (by intro z;cases z),AD AH,AD AH,AD AH];have hpv:Rk t=U (OJ (Iw t) (wa++M,ev-M.length)):=by
     unfold Rk;rw[aq,ea];show(gb.bind _).map _=_;rw[eb];show(ge.bind _).map _=_;rw[ee];rfl
    refine uD _ _ (II λN11 uC=>?_);clear uD;simp![];have da:=MQ ea;have la:wa.length<=20000:=Aa (Le da) (by rw[AW];nofun);have lb:M.length<=20000/\ ∀x∈M,x<10:=by
     rw[eb]at S;split at S
     .exact⟨Aa (Le S) (by rw[AS,AW];nofun),Mz S⟩
     cases S;simp
    have le: -1000000000<=ev/\ev<=1000000000:=by
     rw[ee]at tZ;split at tZ
     .exact kJ tZ
     cases tZ;decide
    refine⟨_,zH,_,ph,?_,λsF kz=>?_⟩
    .rw[Hw,Hw];have:(50000:Nat)<=Ac:=!1
     nofun
    rw[<-Iq];obtain⟨um,zg,B,zQ⟩:=JV (xs:=IH (wa++M)) kz;rw[zg];refine⟨_,.inl (Ip.of (B _ _ ph (!2))),?_⟩;rw[Hw];refine⟨sF,wa++M,_,rfl,zQ,by rw[AG];nofun,?_,!5,λH12 p12 yZ yj lJ=>?_⟩
    .intro x hx;obtain z|z:=AQ.mp hx
     .exact Mz da x z
     exact lb.2 x z
    simp![];have uM:=(E.trans B).trans lJ;refine uC _ _ (II λN12 uB=>?_);clear uC;simp![];refine⟨a,t,rfl,uM _ _ ha (!2),λuk nD=>?_⟩;have qK:=uM.trans nD;have tS:=nD _ _ yj (!2);have fin: ∀(f:AK)(uj:Hp),Fr [] uk uj->uk f=AB\/f=p12->uj f=U (.lst (IH (ES 1 (OJ (Iw t) (wa++M,ev-M.length)))))->N12 [U (V.ref a),U (V.ref u),U (V.int (pw:Int)),U (V.int (pt:Int)),U (V.ref pa),U (V.ref pb),U (V.int ev),U (V.ref f)] uj:=by
     intro f uj J hf yh;refine uB _ _ ?_
     clear uB;simp![KL];have jM:H f=AB:=by
      obtain z|z:=hf
      .exact qK.none z (!2)
      rw[z];exact(E.trans B).none yZ (!2)
     refine NI (A:=A) (v:=OJ (Iw t) (wa++M,ev-M.length)) rfl rfl yh λH15 sE I hL qJ=>?_;exact q2 _ hpv _ sE f ((qK.trans J).none I (!2)) (.inr jM) hL ((qK.trans J).trans qJ)
    simp![];by_cases vU:Iw t=AF
    .refine WJ vU ?_
     rw[vU]at fin;refine⟨Iv (!1),λxU pR=>?_⟩;obtain⟨uj,ze,J,zP⟩:=JV (xs:=[V.int 45]) pR;rw[ze];refine⟨_,zP,_,J _ _ tS (!2),?_,λsE I=>?_⟩
     .rw[Hw];have:=ib (e:=ev-M.length) (ws:=wa++M) (by rw[AG];nofun) (by
       intro x hx;obtain z|z:=AQ.mp hx
       .exact Mz da x z
       exact lb.2 x z) (!5)
      have:(60000:Nat)<=Ac:=!1
      rw[Am]
      nofun
     refine fin sE _ (J.trans (Fr.new I)) (.inl (J.none I (!2))) ?_
     rw[Hq];rfl
    have yd:Iw t=AJ:=by simpa using vU
    refine W5 vU ?_
    rw[yd]at fin;exact fin p12 _ Fr.refl (.inr rfl) tS
   simp![];refine⟨_,.inl (Ip.of hu9),?_⟩;rw[Hw];by_cases YK:pw<r.length
   .refine dT (show(pw:Int)<(r.length:Int)by nofun) ?_
    refine⟨_,Ip.of hu9,λqr gx=>?_⟩;rw[KI r _ (pw+1) (!5)];obtain⟨Z,uS,D,uE⟩:=JV (xs:=IH (r.drop (pw+1))) gx;rw[uS];rw[AI YK]at Y;refine⟨qr,_,rfl,uE,by rw[AS];nofun,λx hx=>yH x (CD hx),λen um B=>?_,λi ei um B=>?_⟩
    .exact Y _ _ (D.trans B) (.inl ⟨rfl,en⟩)
    exact Y _ _ (D.trans B) (.inr ⟨i,rfl,ei⟩)
   refine dF (show¬(pw:Int)<(r.length:Int)by nofun) ?_
   rw[AD YK]at Y;exact Y _ _ Fr.refl (.inr ⟨0,rfl,rfl⟩)
  simp![];by_cases YK:pt<pw
  .refine dT (show(pt:Int)<(pw:Int)by nofun) ?_
   refine⟨_,Ip.of hu8,λqr gx=>?_⟩;rw[PR r _ _ (pt+1) pw (!5) rfl];obtain⟨Z,uS,D,uE⟩:=JV (xs:=IH ((r.drop (pt+1)).take (pw-(pt+1)))) gx;rw[uS];have mv:(r.take pw).drop (pt+1)=(r.drop (pt+1)).take (pw-(pt+1)):=by rw[F3]
   rw[AI YK,mv]at O;refine⟨qr,_,10,rfl,uE,by rw[AW,AS];nofun,λx hx=>yH x (CD (Eh hx)),!1,λen um B=>?_,λws es um sF kz yk B=>?_⟩
   .exact O _ _ (D.trans B) (.inl ⟨rfl,en⟩)
   exact O _ _ (D.trans B) (.inr ⟨sF,ws,rfl,yk,es⟩)
  refine dF (show¬(pt:Int)<(pw:Int)by nofun) ?_
  rw[AD YK]at O;exact O _ _ Fr.refl (.inr ⟨p8,[],rfl,h8,rfl⟩)
 refine⟨p6,r.take pt,rfl,h6,by rw[AW];nofun,λx hx=>yH x (Eh hx),λen H7 f7=>?_,λws es H7 p7 yS hl7 f7=>?_⟩
 .simp![];exact go _ _ f7 (.inl ⟨rfl,en⟩)
 simp![];exact go _ _ f7 (.inr ⟨p7,ws,rfl,hl7,es⟩)
end
end _S
namespace _L
open PySem PySem.Spec PyProof.Rows
structure Up(z a b i j l:AK):Prop where
 az:a≠z
 bz:b≠z
 iz:i≠z
 jz:j≠z
 ab:a≠b
 ai:a≠i
 aj:a≠j
 bi:b≠i
 bj:b≠j
 ij:i≠j
 lz:l≠z
 lb:l≠b
 li:l≠i
 lj:l≠j
section
variable{prog:BB}{w:BJ}{A:CA}{E:Value->AZ->Prop}{s:AZ}
def jT{Q:Value->AZ->Prop}(D:Up z a b i j l)(G:IsZip s.heap z a b .none)(ha:IsPair s.heap a (.ref i) (.ref j))(hb:IsPair s.heap b u v)(hi:s.heap.IsListIter i l k)(hj:s.heap.IsStrIter j "str_ascii_iterator" y t k)(hl:s.heap.IsList l xs)(hx:xs[k]? =U x)(hc:y.cps[k]? =U c)(hQ: ∀h' r,IsZip h' z a b (rawInt s.heap.objs.size)->IsPair h' b x (.str ⟨#[c]⟩ r)->h'.IsListIter i l (k+1)->h'.IsStrIter j "str_ascii_iterator" y t (k+1)->IsPair h' s.heap.objs.size x (.str ⟨#[c]⟩ r)->h'.objs.size=s.heap.objs.size+1→
   (∀q o,q≠z->q≠b->q≠i->q≠j->s.heap.get? q=U o->h'.get? q=U o)->Q (.ref s.heap.objs.size) {s with heap:=h',toks:=s.toks+1}):
  Ar (Ay prog w) A (Builtin.«zip.__next__» ⟨[.ref z],[]⟩) (λfin s'=> ∃r,fin=.done (.ret r)/\Q r s') E s:=by
 show Ar _ _ (field (.ref z) 2>>= λp=>_) _ _ _;refine AL (CU (x:=.bool AJ) G rfl rfl ?_);show Ar _ _ (field (.ref z) 3>>= λp=>_) _ _ _;refine AL (CU (x:=.ref a) G rfl rfl (AL (DV ha rfl ?_)));show Ar _ _ (B7 (.ref z)>>= λp=>_) _ _ _;refine AL ?_
 unfold B7;refine AL (CU (x:=.none) G rfl rfl (Ab ?_));simp only[BS];refine AL (wpAny_rule (AL (CU (x:=.ref b) G rfl rfl (AL (Bn G (!2) λg1 z1 F=>?_)))));replace z1:IsZip g1 z a b .ellipsis:=z1;refine AL ?_
 simp only[G1,HD,Fs,E9];refine AL (AL (GF ?_));show Ar _ _ (Df (.ref i)>>= λp=>_) _ _ _;refine AL (wpAny_nextOf_list_item (hi.extBut F.extBut D.iz) (hl.extBut F.extBut D.lz) hx λg2 i2 I=>Ab ?_);have b2:IsPair g2 b u v:=I.extBut _ _ D.bi (F.extBut _ _ D.bz hb);refine AL (DV b2 rfl (AL (Fy b2 λg3 b3 J=>?_)));replace b3:IsPair g3 b x v:=b3;refine AL (FE (Ab (AL (AL (GF ?_)))));show Ar _ _ (Df (.ref j)>>= λp=>_) _ _ _;have hj3:g3.IsStrIter j "str_ascii_iterator" y t k:=by
  obtain⟨o,L,r⟩:=hj;exact⟨o,J.extBut _ _ D.bj.symm (I.extBut _ _ D.ij.symm (F.extBut _ _ D.jz L)),r⟩
 refine AL (wpAny_nextOf_ascii_item hj3 hc λg4 j4 M=>Ab ?_);have b4:IsPair g4 b x v:=M.extBut _ _ D.bj b3;refine AL (DV b4 rfl (AL (Fy b4 λB Z O=>?_)));replace Z:IsPair B b x (.str ⟨#[c]⟩ s.toks):=Z;refine AL (FE (Ab (Ab ?_)));refine AL (DV Z rfl (AL (HJ ?_)));have hsz:B.objs.size=s.heap.objs.size:=by rw[O.1,M.1,J.1,I.1,F.1]
 have z5:IsZip B z a b .ellipsis:=O.extBut _ _ D.bz.symm (M.extBut _ _ D.jz.symm (J.extBut _ _ D.bz.symm (I.extBut _ _ D.iz.symm z1)));have kp: ∀q o,q≠z->q≠b->q≠i->q≠j->s.heap.get? q=U o->B.get? q=U o:=λq o c1 c2 c3 c4 e=>
  O.extBut _ _ c2 (M.extBut _ _ c4 (J.extBut _ _ c2 (I.extBut _ _ c3 (F.extBut _ _ c1 e))))
 have i5:B.IsListIter i l (k+1):=((i2.extBut J.extBut D.bi.symm).extBut M.extBut D.ij).extBut O.extBut D.bi.symm;have j5:B.IsStrIter j "str_ascii_iterator" y t (k+1):=by
  obtain⟨o,L,r⟩:=j4;exact⟨o,O.extBut _ _ D.bj.symm L,r⟩
 have S:z<B.objs.size:=Aj z5;show Ar _ _ (Dj (.ref z) (.ref B.objs.size)>>= λp=>_) _ _ _;refine AL ?_
 unfold Dj;have z6:IsZip (B.push {cls:=.type "tuple",data:=.seq #[x,.str ⟨#[c]⟩ s.toks]}) z a b .ellipsis:=Heap.get?_push_of_some _ z5;refine AL (Bn z6 (!2) λg7 z7 s7=>?_);replace z7:IsZip g7 z a b (rawInt B.objs.size):=z7;refine Bn z7 (!2) λY z8 s8=>?_;replace z8:IsZip Y z a b (rawInt B.objs.size):=z8;have up: ∀q o,q≠z->B.get? q=U o->Y.get? q=U o:=λq o c1 e=>s8.extBut _ _ c1 (s7.extBut _ _ c1 (Heap.get?_push_of_some _ e));have t8:IsPair Y B.objs.size x (.str ⟨#[c]⟩ s.toks):=s8.extBut _ _ (Cu S) (s7.extBut _ _ (Cu S) (Heap.get?_push_size _ rfl));have n8:Y.objs.size=B.objs.size+1:=by rw[s8.1,s7.1,BM]
 rw[hsz]at z8 t8 n8;refine Ab ⟨_,rfl,?_⟩;show Q (.ref B.objs.size) _;rw[hsz];refine hQ Y s.toks z8 (up _ _ D.bz Z) (i5.at λo e=>up _ o D.iz e) ?_ t8 n8 λq o c1 c2 c3 c4 e=>up q o c1 (kp q o c1 c2 c3 c4 e);obtain⟨o,L,r⟩:=j5;exact⟨o,up _ o D.jz L,r⟩
def nU(S:A.handled=AB)(D:Up z a b i j l)(B:IsZip s.heap z a b .none)(ha:IsPair s.heap a (.ref i) (.ref j))(Y:s.heap.IsListIter i l k)(Z:s.heap.IsList l xs)(hx:xs[k]? =AB)(hE: ∀h' e,(∀q o,q≠z->q≠i->s.heap.get? q=U o->h'.get? q=U o)->(∃o,h'.get? e=U o/\o.cls=.type "StopIteration")->E (.ref e) {s with heap:=h'}):
  Ar (Ay prog w) A (Builtin.«zip.__next__» ⟨[.ref z],[]⟩) Q E s:=by
 show Ar _ _ (field (.ref z) 2>>= λy=>_) _ _ _;refine AL (CU (x:=.bool AJ) B rfl rfl ?_);show Ar _ _ (field (.ref z) 3>>= λy=>_) _ _ _;refine AL (CU (x:=.ref a) B rfl rfl (AL (DV ha rfl ?_)));show Ar _ _ (B7 (.ref z)>>= λy=>_) _ _ _;refine AL ?_
 unfold B7;refine AL (CU (x:=.none) B rfl rfl (Ab ?_));simp only[BS];refine AL (wpAny_rule (AL (CU (x:=.ref b) B rfl rfl (AL (Bn B (!2) λg1 G I=>?_)))));replace G:IsZip g1 z a b .ellipsis:=G;refine AL ?_
 simp only[G1,HD,Fs,E9];refine AL (AL (GF ?_));show Ar _ _ (Df (.ref i)>>= λy=>_) _ _ _;refine AL (wpAny_nextOf_list_end S (Y.extBut I.extBut D.iz) (Z.extBut I.extBut D.lz) hx λg2 e L he=>?_);obtain⟨oe,J,F⟩:=he;have M:IsZip g2 z a b .ellipsis:=L _ _ D.iz.symm G;have ez:e≠z:=λx=>by subst x;show 6 M J;simp at F
 exact Bn M (!2) λg3 y O=>hE g3 e (λq o c1 c3 x=>O.extBut _ _ c1 (L _ _ c3 (I.extBut _ _ c1 x))) ⟨oe,O.extBut _ _ ez J,F⟩
noncomputable abbrev u7(h:Heap)(l:AK):Heap:=h.push {cls:=.type "list_iterator",data:=.fields #[.ref l,.int 0 0]}
abbrev u4(h:Heap)(l:AK)(y:Str)(t:Tok):Heap:=(u7 h l).push {cls:=.type "str_ascii_iterator",data:=.fields #[.str y t,.int 0 0]}
abbrev u0(h:Heap)(l:AK)(y:Str)(t:Tok):Heap:=(u4 h l y t).push {cls:=.type "tuple",data:=.seq #[.ref h.objs.size,.ref (u7 h l).objs.size]}
abbrev uz(h:Heap)(l:AK)(y:Str)(t:Tok):Heap:=(u0 h l y t).push {cls:=.type "tuple",data:=.seq #[.none,.none]}
abbrev qo(h:Heap)(l:AK)(y:Str)(t:Tok):Heap:=(uz h l y t).push {cls:=.type "zip",data:=.fields #[.none,.bool AJ,.bool AJ,.ref (u4 h l y t).objs.size,.ref (u0 h l y t).objs.size]}
def nS(l:AK)(xs:Array Value)(y:Str)(t:Tok)(D:y.cps.all (· <128)=AF):
  Meets (Builtin.«zip.__new__» ⟨[.type "zip",.ref l,.str y t],[]⟩) (λz R s=>s.heap.IsList l xs/\R (.ok (.ret (.ref (uz s.heap l y t).objs.size))) {s with heap:=qo s.heap l y t}):=
 .of_wp λprog w A R s h=>by
  obtain⟨F,g,d,tk,os⟩:=s;obtain⟨G,h⟩:=h;have B:=sub_zip;have I:Heap.IsList (Shared.heap ⟨F,g,d,tk,os⟩) l xs:=G
  wp_walk using D4 I,GL D
  exact⟨_,rfl,h⟩
def jU(S:y.cps.all (· <128)=AF)(Y:s.heap.IsList l xs)(h: ∀h',IsZip h' (s.heap.objs.size+4) (s.heap.objs.size+2) (s.heap.objs.size+3) .none->IsPair h' (s.heap.objs.size+2) (.ref s.heap.objs.size) (.ref (s.heap.objs.size+1))->IsPair h' (s.heap.objs.size+3) .none .none→
   h'.IsListIter s.heap.objs.size l 0->h'.IsStrIter (s.heap.objs.size+1) "str_ascii_iterator" y t 0->(∀q o,s.heap.get? q=U o->h'.get? q=U o)->Q (.ref (s.heap.objs.size+4)) {s with heap:=h'}):
  Ar (Ay prog w) A (call (.type "zip") [.ref l,.str y t]) Q E s:=by
 refine callType_new F.called_zip (!1) (F.typeCall_zip_2 _ _) (F.newCall_zip_2 _ _) (λobj=>F.args_object_init_3 obj _ _) F.entry_zip_new (nS l xs y t S) ⟨Y,?_⟩;have B:(u7 s.heap l).objs.size=s.heap.objs.size+1:=BM ..;have D:(u4 s.heap l y t).objs.size=s.heap.objs.size+2:=by rw[BM,B]
 have G:(u0 s.heap l y t).objs.size=s.heap.objs.size+3:=by rw[BM,D]
 have J:(uz s.heap l y t).objs.size=s.heap.objs.size+4:=by rw[BM,G]
 have I:(qo s.heap l y t).get? (uz s.heap l y t).objs.size=U _:=Heap.get?_push_size _ rfl;have L:(qo s.heap l y t).get? (u0 s.heap l y t).objs.size=U _:=Heap.get?_push_of_some _ (Heap.get?_push_size _ rfl);have M:(qo s.heap l y t).get? (u4 s.heap l y t).objs.size=U _:=Heap.get?_push_of_some _ (Heap.get?_push_of_some _ (Heap.get?_push_size _ rfl));have O:(qo s.heap l y t).get? (u7 s.heap l).objs.size=U _:=Heap.get?_push_of_some _ (Heap.get?_push_of_some _ (Heap.get?_push_of_some _ (Heap.get?_push_size _ rfl)));have Z:(qo s.heap l y t).get? s.heap.objs.size=U _:=Heap.get?_push_of_some _ (Heap.get?_push_of_some _ (Heap.get?_push_of_some _ (Heap.get?_push_of_some _ (Heap.get?_push_size _ rfl))));show _/\_;rw[D,G,J]at I;rw[B,D]at M;rw[G]at L;rw[B]at O;rw[J];exact⟨⟨_,I,rfl⟩,h _ I M L ⟨_,Z,rfl,rfl⟩ ⟨_,O,rfl,rfl⟩ λq o x=>Heap.get?_push_of_some _ (Heap.get?_push_of_some _ (Heap.get?_push_of_some _ (Heap.get?_push_of_some _ (Heap.get?_push_of_some _ x))))⟩
end
def neA{n:Nat}(h: ¬m=n):(m:AK)≠n:=h
def dz(n l:Nat)(h:l<n):Up (n+4) (n+2) (n+3) n (n+1) l:=by
 constructor<;>(refine neA ?_;nofun)
def jD(K:PySem.W.Frag)(a:AK)(y:Str):It:=
 ⟨λi H=> ∃(xs:List V)(x:V)(c:Nat),Ip K H a xs/\xs[i]? =U x/\y.cps[i]? =U c,
  λi H v B=> ∃T x c,v=.ref T/\H T=AB/\B=Hu H T (.tup [x,.str ⟨#[c]⟩])/\(∀xs,Ip K H a xs->xs[i]? =U x)/\y.cps[i]? =U c,
  λi H=> ∃xs:List V,Ip K H a xs/\xs.length<=i⟩
theorem jc{K:PySem.W.Frag}(D:Up z a b i j l):
  Turn P w K (.Tuple elts kk Y7) (jD K l y) [z,a,b,i,j] z (λk h=>IsZip h z a b .none/\IsPair h a (.ref i) (.ref j)/\(∃u v,IsPair h b u v)/\h.IsListIter i l k/\h.IsStrIter j "str_ascii_iterator" y t k)where
 mem:=!2
 obj:=λk h st c hc=>by
  obtain⟨hz,ha,⟨u,v,hb⟩,⟨o1,e1,_,d1⟩,⟨o2,e2,_,d2⟩⟩:=st;have e':c=z\/c=a\/c=b\/c=i\/c=j:=by simpa using hc
  obtain rfl|rfl|rfl|rfl|rfl:=e'
  .exact⟨_,hz,λv q=>nomatch q⟩
  .exact⟨_,ha,λv q=>nomatch q⟩
  .exact⟨_,hb,λv q=>nomatch q⟩
  .exact⟨o1,e1,λv q=>by rw[d1]at q;cases q⟩
  exact⟨o2,e2,λv q=>by rw[d2]at q;cases q⟩
 keep:=λk h h' st kp=>by
  obtain⟨hz,ha,⟨u,v,hb⟩,hi,⟨o,ho,r⟩⟩:=st;exact⟨kp z (!2) _ hz,kp a (!2) _ ha,⟨u,v,kp b (!2) _ hb⟩,hi.at λo q=>kp i (!2) o q,⟨o,kp j (!2) _ ho,r⟩⟩
 item:=by
  intro X hP hw hK hc k Ho s σ H E I hf st hg;subst hP hw hK;obtain⟨hz,ha,⟨u,v,hb⟩,hi,hj⟩:=st;obtain⟨xs,x,c,hq,hx,mw⟩:=hg;obtain⟨Vk,rv,p,_⟩:=I.list hq;obtain⟨w',hu,ru⟩:=rv.get hx;have zl:z<s.heap.objs.size:=Aj hz;have hT:s.TypeIs (.ref z) "zip":=⟨_,hz,rfl⟩;unfold pyNext;refine AL (FJ (wpAny_callSpecial?_slot (name:=BK "__next__") hT Es (C5 Es hT G3
   (jT D hz ha hb hi hj p.isList (x:=w') (!8 hu) mw λh' r z' b' i' j' pr hs hk=>Ab ?_) (Gp _))))
  refine⟨_,rfl,wpAny_letOwnedTupleGo_zip (s:={s with heap:=h',toks:=s.toks+1}) z' λpz z'' sb=>?_⟩;have zI:pz.get? s.heap.objs.size=U {cls:=.type "tuple",data:=.seq #[w',.str ⟨#[c]⟩ r]}:=(sb.2 _ (Cu zl)).trans pr;have new:Jp X.prog X.w (Hu H s.heap.objs.size (.tup [x,.str ⟨#[c]⟩])) pz s.heap.objs.size (.tup [x,.str ⟨#[c]⟩]):=
   ⟨by show 2<=Ac;decide,[w',.str ⟨#[c]⟩ r],.cons ru (.cons ⟨_,rfl⟩ .nil),⟨_,zI,rfl,_,rfl⟩⟩
  have I1:Hs X Ho σ (Hu H s.heap.objs.size (.tup [x,.str ⟨#[c]⟩])) {s with heap:=pz,toks:=s.toks+1}:=
   I.O6 (t':=s.toks+1) (ch:=[z,a,b,i,j]) (λq o iC e=>(sb.2 q (λe'=>iC (by simp[e']))).trans (hk q o (λe'=>iC (by simp[e'])) (λe'=>iC (by simp[e'])) (λe'=>iC (by simp[e'])) (λe'=>iC (by simp[e'])) e)) hf (AR _) new
  refine⟨.ref s.heap.objs.size,_,I1,rfl,⟨_,x,c,rfl,I.JM.fresh (AR _),rfl,λm hm=>by rw[I.Tj hm hq];exact hx,mw⟩,⟨z'',?_,⟨w',.str ⟨#[c]⟩ r,?_⟩,?_,?_⟩,λq vS=>?_⟩
  .exact(sb.2 _ D.az).trans (hk _ _ D.az D.ab D.ai D.aj ha)
  .exact(sb.2 _ D.bz).trans b'
  .exact i'.at λo e=>(sb.2 _ D.iz).trans e
  .obtain⟨o,ho,rr⟩:=j';exact⟨o,(sb.2 _ D.jz).trans ho,rr⟩
  have YK:q<s.heap.objs.size:=by
   have e':q=z\/q=a\/q=b\/q=i\/q=j:=by simpa using vS
   obtain rfl|rfl|rfl|rfl|rfl:=e'
   .exact zl
   .exact Aj ha
   .exact Aj hb
   .obtain⟨_,e1,_⟩:=hi;exact Aj e1
   obtain⟨_,e2,_⟩:=hj;exact Aj e2
  rw[Hv (BH YK)];exact(hf q vS).1
 done:=by
  intro X hP hw hK hc k Ho s σ H E I hf st hg;subst hP hw hK;obtain⟨hz,ha,⟨u,v,hb⟩,hi,hj⟩:=st;obtain⟨xs,hq,pY⟩:=hg;obtain⟨Vk,rv,p,_⟩:=I.list hq;have l1:=rv.length;have hT:s.TypeIs (.ref z) "zip":=⟨_,hz,rfl⟩;unfold pyNext;refine AL (FJ (wpAny_callSpecial?_slot (name:=BK "__next__") hT Es (C5 Es hT G3
   (nU (I.ok.hd hc) D hz ha hi p.isList (by simp;nofun) λh' e hk he=>?_) (Gp _))))
  obtain⟨o,ho,vh⟩:=he;refine AL (FO (T:="StopIteration") (b:=AF) ⟨o,ho,vh⟩ HN (Ab ⟨rfl,?_⟩));exact I.jb (t':=s.toks) (ch:=[z,a,b,i,j]) (λq o iC e=>hk q o (λe'=>iC (by simp[e'])) (λe'=>iC (by simp[e'])) e) hf
 self:=λA i s Q E st h=>Gw st.1 h
def iZs(K:PySem.W.Frag)(ta:TA):TI:=λD H R=>ta D H λvs B=> ∃a xs y,vs=[.ref a,.str y]/\Ip K B a xs/\y.cps.all (· <128)=AF/\R (jD K a y) B
def sD(hg:Gl X "zip")(hm:X.mg "zip"=AB)(ha:PA X [e,e2] ta)(hs:autoParam (BC [e,e2] X.env=(AJ,eval e X.env)::BC [e2] X.env) KJ)(G:autoParam ((backTo pos (BC [e2] X.env)).any (·.1)=AJ) KJ):
  PI X (.Tuple elts kk S) (.Call (.Name "zip" p) [e,e2] [] pos) (iZs X.K ta):=by
 intro Ho s Y H R I h;refine Call_ (Od I hg hm de (Bv (Jv (ha pos Ho s Y H _ I h) λus B ⟨vs,Z,F,r1,q1⟩=>?_) hs G));obtain⟨a,xs,y,ex,hq,ya,q⟩:=q1;subst ex;cases r1 with
 |cons r J=>
  cases J with
  |cons r' J=>
   cases J;cases r;obtain⟨t,rfl⟩:=r';obtain⟨Vk,rv,p1,_⟩:=F.list hq;have la:a<B.heap.objs.size:=p1.lt;refine jU ya p1.isList λh' hz L M h1 h2 hk=>Gw hz ?_;have I2:Hs X Ho Y Z {B with heap:=h'}:=F.kept (t':=B.toks) hk;have D:Up (B.heap.objs.size+4) (B.heap.objs.size+2) (B.heap.objs.size+3) B.heap.objs.size (B.heap.objs.size+1) a:=dz _ _ la;refine⟨B.heap.objs.size+4,[B.heap.objs.size+4,B.heap.objs.size+2,B.heap.objs.size+3,B.heap.objs.size,B.heap.objs.size+1],_,_,Z,rfl,I2,jc D,⟨hz,L,⟨_,_,M⟩,h1,h2⟩,λc O=>?_,q⟩;have e':c=B.heap.objs.size+4\/c=B.heap.objs.size+2\/c=B.heap.objs.size+3\/c=B.heap.objs.size\/c=B.heap.objs.size+1:=by simpa using O
   have E:B.heap.objs.size<=c:=by
    obtain rfl|rfl|rfl|rfl|rfl:=e'
    .exact DA _ _
    .exact DA _ _
    .exact DA _ _
    .exact AR _
    exact DA _ _
   exact F.W2 E (F.JM.fresh E)
def lcZ{K:PySem.W.Frag}{I:Hp->Prop}{B:(Hp->Prop)->V->Hp->Prop}(G:xs.length=y.cps.size)(D:Nat->Hp->Prop)(L:D 0 H)(M: ∀i H,i<=xs.length->D i H->Ip K H a xs)(hs: ∀i x c T H,xs[i]? =U x->y.cps[i]? =U c->D i H->H T=AB->B (D (i+1)) (.ref T) (Hu H T (.tup [x,.str ⟨#[c]⟩])))(hd: ∀H,D xs.length H->I H):
  ∃W:Nat->Nat->Hp->Prop,(∃m,W 0 m H)/\ ∀i m H,W i m H->((jD K a y).stop i H/\I H)\/((jD K a y).go i H/\ ∃N:Hp->Prop,(∀E,N E-> ∃J,J<m/\W (i+1) J E)/\ ∀x E,(jD K a y).eE i H x E->B N x E):=by
 refine⟨λi m H=>m=xs.length-i/\i<=xs.length/\D i H,⟨_,rfl,Ax _,L⟩,?_⟩;rintro i m H ⟨rfl,O,p⟩;have q:=M i H O p;obtain F|S:=Cv i xs.length
 .refine .inr ⟨⟨xs,xs[i],y.cps[i],q,by simp[F],by simp[<-G,F]⟩,D (i+1),λE Y=>⟨xs.length-(i+1),!5,rfl,F,Y⟩,?_⟩;rintro x E ⟨T,v,c,rfl,Z,rfl,hv,hc⟩;exact hs i v c T H (hv xs q) hc p Z
 obtain rfl:i=xs.length:=!5
 exact .inl ⟨⟨xs,q,AR _⟩,hd H p⟩
end _L
local macro_rules
 |`(tactic|simp! [$xs,*])=>Z_ "_L.a9 _L.qA _L.uG _L.xw _L.sh _L.xt _L.si _L.xu _L.iZs _L.vB _L.wI _L.wQ _L.wipe _L.xI _L.xH _L.tFs _L.xK _L.kD _S.cxK _S.vG _L.V.str.injEq if_true" xs.getElems "'only 1"
namespace _S
open PySem PySem.Spec PyProof.Rows _L
section
variable{P:BB}{w:BJ}{K:PySem.W.Frag}{mg:Str->Option Value}{base:Heap}{A:JL}
def NV(c:Nat):Lx (c:Int)=BY c:=by
 unfold Lx BY;rw[A9];simp only[AX,Ak];omega
noncomputable def qC(c d:Nat):Bool:=if d=48 then BY c else decide (c=d)
def TB:Sp:=λvs H Q z=> ∃c d:Nat,vs=[.int (c:Int),.str ⟨#[d]⟩]/\Q (.bl (qC c d)) H
def Yt(T:Txt K mg A): !20 2 "fits_sign" ["octet","sign"] TB:=by
 show 8 ["octet","sign"] 39;obtain⟨c,d,rfl,q⟩:=h;refine⟨_,(Hm (Hy (NC (IB JB (pv 1) P8) (Hr (LA T) (Hn (pv 0))) (KD JB (pv 0) (IT Yd T.mh V2 (Hn (pv 1))))))),?_⟩;simp![Ms];unfold qC at q;by_cases h:d=48
 .subst h;rw[Af (show(⟨#[48]⟩:Str)="0" by decide),AI rfl,NV];rw[AI rfl]at q;exact q
 rw[AM (show¬(⟨#[d]⟩:Str)="0" from λz=>h (by
  have:(⟨#[d]⟩:Str)=⟨#[48]⟩:=z;injection this with this
  simpa using this)),AD AH]
 rw[AD h]at q;refine⟨rfl,?_⟩;have:decide ((c:Int)=((((⟨#[d]⟩:Str).cps.getD 0 0:Nat)):Int))=decide (c=d):=by
  rw[A9,Ak,Ak];show(c:Int)=(d:Int)↔_
  lia
 rw[this];exact q
inductive fM (vs:List V)(H:Hp)(Q:VK)(E:XK):Prop
 |mk (a:AK)(t:List Nat)(z:String)(_:vs=[.ref a,.str (BK z)])(_:H a=U (.lst (IH t)))(_:z.length<=100)(_:(BK z).cps.all (· <128)=AF)(_: ∀H',Fr [] H H'->Q (.bl (B9 z t)) H'):fM vs H Q E
noncomputable def PvF(t:List Nat)(z:List Nat)(H:Hp)(D:AK)(i:Nat)(B:Hp):Prop:=i<=t.length/\Fr [] H B/\B D=U (.lst (((t.take i).zipWith qC (z.take i)).map V.bl))
theorem VW: ∀(cs:List Char)(t:List Nat),cs.length=t.length->(Cg qC t (cs.map λc=>c.toNat)).all id=(cs.zip t).all λx=>if x.1='0' then BY x.2 else x.1.toNat==x.2
 |[],[],_=>rfl
 |c::cs,x::t,h=>by
  rw[Av,List.zipWith_cons_cons,GU,CT,CT,VW cs t (!8 h)]
  congr 1
  show qC x c.toNat=_;unfold qC;show 4;by_cases B:c='0'
  .subst B;rfl
  rw[AD B,AD (λz=>B (by
   apply Char.ext;apply UInt32.toNat_inj.mp;exact z))]
  rw[A9,Ak,BL];exact eq_comm
def Sa(T:Txt K mg A): !20 3 "fits" ["octets","pattern"] fM:=by
 show 8 ["octets","pattern","octet","sign"] 38;obtain⟨a,t,z,rfl,ha,Y,L,q⟩:=h;refine⟨_,(Gy (IS (IB L0 (IT IP T.Jf PySem.boot_len (Hn (pv 0))) (IT XD T.Jf PySem.boot_len (Hn (pv 1)))) (Hm (Hy ND)) IC)
   (Hm (Hy (IT (Zq rfl) T.gM RZ (Hn ((aL (g:=uG K 2 (a9 (UG 2) (a9 (UG 3) qA))) rfl S.nd (sD rfl T.sN (Hz (pv 0) (Hn (pv 1)))) (Ou (N:=["octets","pattern","octet","sign"]) (sc:=IV (top 101)) (own:=[("octet",2),("sign",3)]) (!0)) (λy y y y y=>(WY (n:=2) rfl (Ls (JO (i:=2) S.nd rfl (CW rfl) (HX rfl)) (Ls (JO (i:=3) S.nd rfl (CW rfl) (HX rfl)) SN)))) (λy y y y y=>QW) (λy y y y y=>Hr (Yt T) (Hz (pv 2) (Hn (pv 3))))))))))),?_⟩
 simp![TB];refine⟨_,.inl (Ip.of ha),?_,?_⟩
 .rw[PySem.ofString_length];exact Aa Y (!1)
 have G:(BK z).length=z.length:=PySem.ofString_length z;rw[G,Hw];have F:B9 z t=(decide (t.length=z.length)&&(z.toList.zip t).all λx=>if x.1='0' then BY x.2 else x.1.toNat==x.2):=rfl;by_cases B:t.length=z.length
 .refine nF (show(t.length:Int)=(z.length:Int)by lia) ?_
  rw[Af B,BZ,<-VW z.toList t B.symm]at F;refine⟨_,Ip.of ha,L,λD Z=>?_⟩;refine lcZ (xs:=IH t) (by rw[Hw,B,<-G];rfl) (PvF t (Bh z) H D) ⟨Ax _,Fr.new Z,Hq⟩ (λi H' y h=>Ip.of (h.2.1 _ _ ha (!2))) ?_ ?_
  .rintro i x c Tt H' hx hc ⟨hi,f,E⟩ M;obtain⟨u,hu,rfl⟩:=LH hx;obtain⟨I,_⟩:=List.getElem?_eq_some_iff.mp hu;have f2:=f.trans (Fr.new (o:=.tup [V.int (u:Int),V.str ⟨#[c]⟩]) M);have O:D≠Tt:=λe=>by rw[<-e,E]at M;cases M
   refine⟨_,rfl,_,NR.of Hq,rfl,u,rfl,c,rfl,_,(Hv O).trans E,?_,?_⟩
   .rw[AY,List.length_zipWith,AW];exact Bg (Aa (Cq _ _) (Cq _ _)) (A0 I (by rw[B];exact Aa Y (!1)))
   refine⟨I,f2.Z8 Z,?_⟩;have J:(Bh z)[i]? =U c:=by
    rw[<-LY,Array.getElem?_toList];exact hc
   rw[Hq,Br,Br,hu,J,List.zipWith_append (by
    obtain⟨vh,_⟩:=List.getElem?_eq_some_iff.mp J;rw[AW,AW];lia),A8]
   rfl
  rintro H' ⟨hi,f,E⟩;rw[Hw,BG,B2 (by unfold Bh;rw[AY];exact Ez B.symm)]at E;refine⟨D,_,rfl,Ip.of E,?_⟩;have:(Cg qC t (Bh z)).all id=B9 z t:=F.symm;rw[this];exact q _ f
 refine nT (show¬(t.length:Int)=(z.length:Int)by lia) ?_
 rw[AM B,Be]at F;rw[F]at q;exact q _ Fr.refl
inductive aE (vs:List V)(H:Hp)(Q:VK)(E:XK):Prop
 |mk (y m:Nat)(_:vs=[.int (y:Int),.int (m:Int)])(_:1<=m)(_:m<=12)(_:Q (.int ((FF y m:Nat):Int)) H):aE vs H Q E
def ir(T:Txt K mg A)(C:SG K mg): !20 1 "month_length" ["year","month"] aE:=(T.fn 40 rfl).at λF=>by
 obtain⟨G,I,J⟩:=C.months;show 9 ["year","month"];obtain⟨y,m,rfl,O,L,q⟩:=h;refine⟨_,(Gy (IS (PW.pt (J2 (IB JB (pv 1) Ht) (J2 (IB JB (Ij OW (pv 0) Ht) Ht) (Jr (PW.pt (Mg (IB L0 (Ij OW (pv 0) Ht) Ht) (LU (IB JB (Ij OW (pv 0) Ht) Ht)))))))) (Hm (Hy Ht)) IC)
   (Hm (Hy (KS gj (Je I rfl) (Ij MM (pv 1) Ht) (λx x=>rfl))))),?_⟩
 simp![];have tab: ∀d:Nat,([31,28,31,30,31,30,31,31,30,31,30,31]:List Nat)[m-1]? =U d->d=FF y m->IxT K H G ((m:Int)-1) (λv=>Q v H):=by
  intro d hd e;refine⟨_,J.sq,.int (d:Int),?_,by rw[e];exact q⟩;rw[show(m:Int)-1=((m-1:Nat):Int)by nofun];exact KU (SR hd)
 by_cases M:m=2
 .subst M;have hd:FF y 2=if y%4=0/\(y%100≠0\/y%400=0)then 29 else 28:=rfl
  refine dT (show((2:Nat):Int)=2 from rfl) ?_
  refine⟨!1,?_⟩;by_cases E:y%4=0
  .refine dT (show(y:Int)%4=0 by nofun) ?_
   refine⟨!1,?_⟩;by_cases B:y%100=0
   .refine nF (show(y:Int)%100=0 by nofun) ?_
    refine⟨!1,?_⟩;by_cases D:y%400=0
    .refine dT (show(y:Int)%400=0 by nofun) ?_
     rw[hd,AI ⟨E,.inr D⟩]at q;exact q
    refine dF (show¬(y:Int)%400=0 by nofun) ?_
    exact tab 28 rfl (by rw[hd,AD (λz=>by nofun)])
   refine nT (show¬(y:Int)%100=0 by nofun) ?_
   rw[hd,AI ⟨E,.inl B⟩]at q;exact q
  rw[AM (show¬(y:Int)%4=0 by nofun),AD AH,AD AH];exact tab 28 rfl (by rw[hd,AD (λz=>E z.1)])
 rw[AM (show¬(m:Int)=2 by nofun),AD AH,AD AH];have hm:m=1\/m=3\/m=4\/m=5\/m=6\/m=7\/m=8\/m=9\/m=10\/m=11\/m=12:=!5
 obtain e|e|e|e|e|e|e|e|e|e|e:=hm<;>subst e<;>exact tab _ rfl rfl
def Uh(T:Txt K mg A)(C:SG K mg): !20 4 "is_day" ["octets"] (fO DH):=by
 show 8 ["octets","year","month","day"] 41;obtain⟨a,t,rfl,ha,q⟩:=h;refine⟨_,(Gy (IS (LV (Ik (Hr (Sa T) (Hz (pv 0) (Hn P8))))) (Hm (Hy ND)) IC)
   (Gy (IA (i:=1) (Hr (Ke T) (Hn (IY Ii (pv 0) Iz (IX Ht)))))
   (Gy (IA (i:=2) (Hr (Ke T) (Hn (IY Ii (pv 0) (IX Ht) (IX Ht)))))
   (Gy (IA (i:=3) (Hr (Ke T) (Hn (IY Ii (pv 0) (IX Ht) Iz))))
   (Hm (Hy (RJ (Ks J6 J6 Ht (pv 2) Ht) (MI (Ks J6 J6 Ht (pv 3) (Hr (ir T C) (Hz (pv 1) (Hn (pv 2))))))))))))),?_⟩
 simp![];refine⟨a,t,"0000-00-00",rfl,ha,!1,!0,λH1 S=>?_⟩;simp![];unfold DH at q;by_cases hs:B9 "0000-00-00" t=AF
 .rw[hs]at q⊢;simp only[BO,Ai,BX,BZ]at q⊢;obtain⟨B,D,E,F,G,I,J,L,rfl,d1,d2,d3,d4,d5,d6,d7,d8⟩:=(WR t).mp hs;have O:=S _ _ ha (!2);refine⟨_,Ip.of O,λp2 Y=>?_⟩;rw[Lz _ 4 4 rfl,show([B,D,E,F,45,G,I,45,J,L]:List Nat).take 4=[B,D,E,F]from rfl];obtain⟨H2,e2,Z,h2⟩:=JV (xs:=IH [B,D,E,F]) Y;rw[show _L.Hu H1 p2 _=H2 from e2];refine⟨p2,[B,D,E,F],rfl,.inl (Ip.of h2),by intro x hx;simp at hx;obtain rfl|rfl|rfl|rfl:=hx<;>assumption,show 4<=10 by decide,?_⟩;simp![];refine⟨_,Ip.of (Z _ _ O (!2)),λp3 SD=>?_⟩;rw[PR _ 5 7 5 7 rfl rfl,show(([B,D,E,F,45,G,I,45,J,L]:List Nat).drop 5).take (7-5)=[G,I]from rfl];obtain⟨H3,e3,f3,h3⟩:=JV (xs:=IH [G,I]) SD;rw[show _L.Hu H2 p3 _=H3 from e3];refine⟨p3,[G,I],rfl,.inl (Ip.of h3),by intro x hx;simp at hx;obtain rfl|rfl:=hx<;>assumption,show 2<=10 by decide,?_⟩;simp![];refine⟨_,Ip.of (f3 _ _ (Z _ _ O (!2)) (!2)),λp4 au=>?_⟩;rw[KI _ 8 8 rfl,show([B,D,E,F,45,G,I,45,J,L]:List Nat).drop 8=[J,L]from rfl];obtain⟨H4,e4,f4,h4⟩:=JV (xs:=IH [J,L]) au;rw[show _L.Hu H3 p4 _=H4 from e4];refine⟨p4,[J,L],rfl,.inl (Ip.of h4),by intro x hx;simp at hx;obtain rfl|rfl:=hx<;>assumption,show 2<=10 by decide,?_⟩;simp![];have e5:Dk [B,D,E,F,45,G,I,45,J,L] 5=Ao 10 [G,I]:=rfl;have e8:Dk [B,D,E,F,45,G,I,45,J,L] 8=Ao 10 [J,L]:=rfl;have e0:([B,D,E,F,45,G,I,45,J,L]:List Nat).take 4=[B,D,E,F]:=rfl;rw[e5,e8,e0]at q;have M:=(S.trans Z).trans (f3.trans f4);generalize Ao 10 [B,D,E,F]=y at*;generalize Ao 10 [G,I]=m at*;generalize Ao 10 [J,L]=dd at*;by_cases c1:1<=m
  .refine dT (show(1:Int)<=(m:Int)by lia) ?_
   by_cases c2:m<=12
   .refine dT (show(m:Int)<=12 by lia) ?_
    simp![];by_cases c3:1<=dd
    .refine dT (show(1:Int)<=(dd:Int)by lia) ?_
     refine⟨y,m,rfl,c1,c2,?_⟩;show 4;have:decide ((dd:Int)<=((FF y m:Nat):Int))=decide (1<=m/\m<=12/\1<=dd/\dd<=FF y m):=by
      rw[A9,Ak,Ak]
      lia
     rw[this];exact q _ M
    refine dF (show¬(1:Int)<=(dd:Int)by lia) ?_
    rw[AM (λz=>c3 z.2.2.1)]at q;exact q _ M
   refine dF (show¬(m:Int)<=12 by lia) ?_
   rw[AM (λz=>c2 z.2.1)]at q;exact q _ M
  refine dF (show¬(1:Int)<=(m:Int)by lia) ?_
  rw[AM (λz=>c1 z.1)]at q;exact q _ M
 have yF:B9 "0000-00-00" t=AJ:=by simpa using hs
 rw[yF]at q⊢;simp only[Bd,BS,Be]at q⊢;exact q _ S
noncomputable def jN(t:List Nat):Bool:=decide (Ao 10 (t.take 2)<24/\Ao 10 (t.drop 3)<60)
inductive oK (vs:List V)(H:Hp)(Q:VK)(E:XK):Prop
 |mk (a:AK)(t:List Nat)(_:vs=[.ref a])(_:H a=U (.lst (IH t)))(_:B9 "00:00" t=AF)(_: ∀H',Fr [] H H'->Q (.bl (jN t)) H'):oK vs H Q E
def nM(T:Txt K mg A): !20 2 "is_hour_and_minute" ["octets"] oK:=by
 show 8 ["octets"] 42;obtain⟨a,t,rfl,ha,hs,q⟩:=h;refine⟨_,(Hm (Hy (RJ (KD Kt (Hr (Ke T) (Hn (IY Ii (pv 0) Iz (IX Ht)))) Ht) (MI (KD Kt (Hr (Ke T) (Hn (IY Ii (pv 0) (IX Ht) Iz))) Ht))))),?_⟩;simp![];obtain⟨B,D,E,F,rfl,d1,d2,d3,d4⟩:=(Mt t).mp hs;refine⟨_,Ip.of ha,λL G=>?_⟩;rw[Lz _ 2 2 rfl,show([B,D,58,E,F]:List Nat).take 2=[B,D]from rfl];obtain⟨H2,e2,I,M⟩:=JV (xs:=IH [B,D]) G;rw[e2];refine⟨L,[B,D],rfl,.inl (Ip.of M),by intro x hx;simp at hx;obtain rfl|rfl:=hx<;>assumption,show 2<=10 by decide,?_⟩;simp![];have e1:([B,D,58,E,F]:List Nat).drop 3=[E,F]:=rfl;have O:([B,D,58,E,F]:List Nat).take 2=[B,D]:=rfl;unfold jN at q;rw[O,e1]at q;generalize Ao 10 [B,D]=h at*;by_cases c1:h<24
 .refine dT (show(h:Int)<24 by omega) ?_
  refine⟨_,Ip.of (I _ _ ha (!2)),λS J=>?_⟩;rw[KI _ 3 3 rfl,e1];obtain⟨H3,e3,Y,Z⟩:=JV (xs:=IH [E,F]) J;rw[e3];refine⟨S,[E,F],rfl,.inl (Ip.of Z),by intro x hx;simp at hx;obtain rfl|rfl:=hx<;>assumption,show 2<=10 by decide,?_⟩;simp![];generalize Ao 10 [E,F]=m at*;have:decide ((m:Int)<60)=decide (h<24/\m<60):=by
   rw[A9,Ak,Ak];omega
  rw[this];exact q _ (I.trans Y)
 refine dF (show¬(h:Int)<24 by omega) ?_
 rw[AM (λz=>c1 z.1)]at q;exact q _ I
noncomputable def sL(t:List Nat):Bool:=t== []||(t.head?==U 46&&(decide (2<=t.length)&&(t.drop 1).all BY))
inductive WN (g:List Nat->Bool)(vs:List V)(H:Hp)(Q:VK)(E:XK):Prop
 |mk (a:AK)(t:List Nat)(_:vs=[.ref a])(_:H a=U (.lst (IH t)))(_:t.length<=20000)(_: ∀H',Fr [] H H'->Q (.bl (g t)) H')
noncomputable def PvA(t:List Nat)(H:Hp)(D:AK)(i:Nat)(B:Hp):Prop:=i<=t.length/\Fr [] H B/\B D=U (.lst (((t.take i).map BY).map V.bl))
def qX(T:Txt K mg A): !20 2 "is_nothing_or_fraction" ["octets"] (WN sL):=by
 show 8 ["octets","octet"] 44;obtain⟨a,t,rfl,ha,hl,q⟩:=h;refine⟨_,(Gy (IS (IB JB (IT IP T.Jf PySem.boot_len (Hn (pv 0))) Ht) (Hm (Hy ND)) IC)
   (Hm (Hy (RJ (KD JB (KS Jh (pv 0) Ht (λy y=>rfl)) (Hx T.SU)) (RJ (KD L1 (IT IP T.Jf PySem.boot_len (Hn (pv 0))) Ht) (MI (IT (Zq rfl) T.gM RZ (Hn ((aL rfl S.nd (L7 (IY Ii (pv 0) (IX Ht) Iz)) (Ou (N:=["octets","octet"]) (sc:=IV (top 107)) (own:=[("octet",1)]) (!0)) (λy y y y y=>JO (i:=1) S.nd rfl (CW rfl) (HX rfl)) (λy y y y y=>QW) (λy y y y y=>Hr (LA T) (Hn (pv 1))))))))))))),?_⟩
 simp![Ms];refine⟨_,.inl (Ip.of ha),?_⟩;rw[Hw];cases t with
 |nil=>
  refine dT (show((([]:List Nat).length:Nat):Int)=0 from rfl) ?_
  exact q _ Fr.refl
 |cons c r=>
  refine dF (by simp;nofun) ?_
  refine⟨_,Ip.of ha,.int (c:Int),KU (j:=0) rfl,?_⟩;show 4;have hn:sL (c::r)=(decide (c=46)&&(decide (1<(c::r).length)&&r.all BY)):=by
   unfold sL;rw[A9];simp only[BE,AX,BL,Ak,List.head?_cons,Ca,GC,DB];constructor
   .rintro(z|⟨F,G,I⟩)
    .cases z
    exact⟨F,G,I⟩
   rintro⟨F,G,I⟩;exact .inr ⟨F,G,I⟩
  rw[hn]at q;by_cases E:c=46
  .refine dT (show(c:Int)=46 by rw[E];rfl) ?_
   refine⟨_,.inl (Ip.of ha),?_⟩;rw[Hw];rw[Af E,BZ]at q;by_cases L:1<(c::r).length
   .refine dT (show(1:Int)<(((c::r).length:Nat):Int)by nofun) ?_
    rw[Af L,BZ]at q;refine⟨_,Ip.of ha,λp hp=>?_⟩;rw[KI _ 1 1 rfl,show(c::r).drop 1=r from rfl];obtain⟨H2,e2,f2,M⟩:=JV (xs:=IH r) hp;rw[e2];refine⟨⟨_,Ip.of M⟩,λD O=>?_⟩;refine lcL (xs:=IH r) (PvA r H2 D) ⟨Ax _,Fr.new O,Hq⟩ (λi Y y h=>Ip.of (h.2.1 _ _ M (!2))) ?_ ?_
    .rintro i x Y hx ⟨hi,f,B⟩;obtain⟨u,Z,rfl⟩:=LH hx;obtain⟨J,_⟩:=List.getElem?_eq_some_iff.mp Z;refine⟨_,B,?_,J,f.Z8 O,?_⟩
     .rw[AY,AY,AW];have:r.length<20000:=by simp at hl;nofun
      exact Bg (De _ _) (AAL this (!1))
     rw[Hq,Br,Z,A8,A8,NV];rfl
    rintro Y ⟨hi,f,B⟩;rw[Hw,BG]at B;refine⟨D,_,rfl,Ip.of B,?_⟩;rw[show(r.map BY).all id=r.all BY by rw[Gk];rfl];exact q _ (f2.trans f)
   refine dF (show¬(1:Int)<(((c::r).length:Nat):Int)by nofun) ?_
   rw[AM L]at q;exact q _ Fr.refl
  refine dF (show¬(c:Int)=46 from λz=>E (!5)) ?_
  rw[AM E]at q;exact q _ Fr.refl
def Zc(t:List Nat):DC t=(B9 "00:00:00" (t.take 8)&&decide (Dk t 0<24/\Dk t 3<60/\Dk t 6<60)&&sL (t.drop 8)):=by
 unfold DC sL;rw[BR]
def V8(T:Txt K mg A): !20 4 "is_hour" ["octets"] (WN DC):=by
 show 8 ["octets","whole"] 43;obtain⟨a,t,rfl,ha,hl,q⟩:=h;refine⟨_,(Gy (IA (i:=1) (IY Ii (pv 0) Iz (IX (Hx T.Px))))
   (Gy (IS (LV (Ik (Hr (Sa T) (Hz (pv 1) (Hn P8))))) (Hm (Hy ND)) IC)
   (Gy (IS (PW.pt (Mg (LV (Ik (Hr (nM T) (Hn (IY Ii (pv 1) Iz (IX Ht)))))) (LU (IB md (Hr (Ke T) (Hn (IY Ii (pv 1) (IX Ht) Iz))) Ht)))) (Hm (Hy ND)) IC)
   (Hm (Hy (Hr (qX T) (Hn (IY Ii (pv 0) (IX (Hx T.Px)) Iz)))))))),?_⟩
 simp![];rw[Zc]at q;refine⟨_,Ip.of ha,λp1 S=>?_⟩;rw[Lz _ 8 8 rfl];obtain⟨H1,e1,f1,h1⟩:=JV (xs:=IH (t.take 8)) S;rw[e1];refine⟨p1,t.take 8,"00:00:00",rfl,h1,!1,!0,λH2 Y=>?_⟩;simp![];by_cases hs:B9 "00:00:00" (t.take 8)=AF
 .rw[hs]at q⊢;simp only[BO,Ai,BX,BZ]at q⊢;have J:=Y _ _ h1 (!2);refine⟨_,Ip.of J,λp3 Z=>?_⟩;obtain⟨B,D,E,F,G,I,O,d1,d2,d3,d4,d5,d6⟩:=(ZM (t.take 8)).mp hs;rw[O]at J⊢;rw[Lz _ 5 5 rfl,show([B,D,58,E,F,58,G,I]:List Nat).take 5=[B,D,58,E,F]from rfl];obtain⟨H3,e3,f3,h3⟩:=JV (xs:=IH [B,D,58,E,F]) Z;rw[e3];have nD:=(f1.trans Y).trans f3;have t0:Dk t 0=Ao 10 [B,D]:=by
   unfold Dk;rw[DB,show t.take 2=(t.take 8).take 2 by rw[EE];rfl,O];rfl
  have t3:Dk t 3=Ao 10 [E,F]:=by
   unfold Dk;rw[show(t.drop 3).take 2=((t.take 8).drop 3).take 2 by rw[F3,EE];rfl,O];rfl
  have t6:Dk t 6=Ao 10 [G,I]:=by
   unfold Dk;rw[show(t.drop 6).take 2=((t.take 8).drop 6).take 2 by rw[F3,EE];rfl,O];rfl
  rw[t0,t3,t6]at q;refine⟨p3,_,rfl,h3,(Mt _).mpr ⟨B,D,E,F,rfl,d1,d2,d3,d4⟩,λH4 f4=>?_⟩;have hh:jN [B,D,58,E,F]=decide (Ao 10 [B,D]<24/\Ao 10 [E,F]<60):=rfl;rw[hh];simp![];have M:=nD.trans f4;by_cases c1:Ao 10 [B,D]<24/\Ao 10 [E,F]<60
  .refine nF c1 ?_
   refine⟨_,Ip.of (f4 _ _ (f3 _ _ J (!2)) (!2)),λp5 mr=>?_⟩;rw[KI _ 6 6 rfl,show([B,D,58,E,F,58,G,I]:List Nat).drop 6=[G,I]from rfl];obtain⟨H5,e5,f5,h5⟩:=JV (xs:=IH [G,I]) mr;rw[e5];refine⟨p5,[G,I],rfl,.inl (Ip.of h5),by intro x hx;simp at hx;obtain rfl|rfl:=hx<;>assumption,show 2<=10 by decide,?_⟩;simp![];have L:=M.trans f5;by_cases c2:Ao 10 [G,I]<60
   .refine dF (show¬(60:Int)<=((Ao 10 [G,I]:Nat):Int)by lia) ?_
    rw[Af ⟨c1.1,c1.2,c2⟩,BZ]at q;refine⟨_,Ip.of (L _ _ ha (!2)),λp6 gw=>?_⟩;rw[KI _ 8 8 rfl];obtain⟨H6,e6,f6,h6⟩:=JV (xs:=IH (t.drop 8)) gw;rw[e6];exact⟨p6,_,rfl,h6,by rw[AS];lia,λH7 f7=>q _ ((L.trans f6).trans f7)⟩
   refine dT (show(60:Int)<=((Ao 10 [G,I]:Nat):Int)by lia) ?_
   rw[AM (λz=>c2 z.2.2),Be]at q;exact q _ L
  refine nT c1 ?_
  rw[AM (λz=>c1 ⟨z.1,z.2.1⟩),Be]at q;exact q _ M
 have yF:B9 "00:00:00" (t.take 8)=AJ:=by simpa using hs
 rw[yF]at q⊢;simp only[Bd,BS,Be]at q⊢;exact q _ (f1.trans Y)
def dm(T:Txt K mg A): !20 4 "is_zone" ["octets"] (WN ag):=by
 show 8 ["octets"] 45;obtain⟨a,t,rfl,ha,hl,q⟩:=h;refine⟨_,(Gy (IS (PW.pt (J2 (LV (Ik (Hr (Sa T) (Hz (pv 0) (Hn P8))))) (Jr (LV (Ik (Hr (Sa T) (Hz (pv 0) (Hn P8)))))))) (Hm (Hy ND)) IC)
   (Hm (Hy (Hr (nM T) (Hn (IY Ii (pv 0) (IX Ht) Iz)))))),?_⟩
 simp![];unfold ag at q;refine⟨a,t,"+00:00",rfl,ha,!1,!0,λO J=>?_⟩;simp![];have L:=J _ _ ha (!2);have go: ∀H2,Fr [] H H2->(B9 "+00:00" t||B9 "-00:00" t)=AF-> ∃x,Ip K H2 a x/\ ∀p,H2 p=AB->oK [V.ref p] (_L.Hu H2 p (HO.lst (Ma x (U 1) AB))) Q E0:=by
  intro H2 E B;rw[B,BZ]at q;refine⟨_,Ip.of (E _ _ ha (!2)),λS M=>?_⟩;rw[KI _ 1 1 rfl];obtain⟨H3,e3,Y,Z⟩:=JV (xs:=IH (t.drop 1)) M;rw[e3];have hr: ∃c r,t=c::r/\B9 "00:00" r=AF:=by
   rw[BE]at B;obtain z|z:=B
   .obtain⟨r,e,h⟩:=(OR "+00:00" '+' (!1) (!1) t).mp z;exact⟨_,r,e,h⟩
   obtain⟨r,e,h⟩:=(OR "-00:00" '-' (!1) (!1) t).mp z;exact⟨_,r,e,h⟩
  obtain⟨c,r,rfl,F⟩:=hr;refine⟨S,r,rfl,Z,F,λH4 f4=>?_⟩;obtain⟨a1,a2,a3,a4,rfl,_⟩:=(Mt r).mp F;exact q _ ((E.trans Y).trans f4)
 by_cases hs:B9 "+00:00" t=AF
 .have:=go O J (by rw[hs];rfl);rw[hs];refine bB ?_
  exact this
 have G:B9 "+00:00" t=AJ:=by simpa using hs
 rw[G]at q⊢;refine Xc ?_
 refine⟨a,t,"-00:00",rfl,L,!1,!0,λH2 E=>?_⟩;simp![];by_cases D:B9 "-00:00" t=AF
 .have:=go H2 (J.trans E) (by rw[D,G];rfl);rw[D];refine bB ?_
  exact this
 have I:B9 "-00:00" t=AJ:=by simpa using D
 rw[I]at q⊢;refine Xc ?_
 exact q _ (J.trans E)
def ae(t:List Nat)(c:Nat):t.drop (t.length-1)=[c]↔t.getLast?=U c:=by
 obtain rfl|⟨u,x,rfl⟩:=EM t
 .simp
 rw[Fv,List.getLast?_append];have:(u++[x]).length-1=u.length:=!2
 rw[this,F4];simp
inductive ri (vs:List V)(H:Hp)(Q:VK)(E:XK):Prop
 |mk (a:AK)(t:List Nat)(_:vs=[.ref a])(_:H a=U (.lst (IH t)))(_:t.length<=20000)(_: ∀H',Fr [] H H'->Q (.int ((zl t:Nat):Int)) H'):ri vs H Q E
def U5(T:Txt K mg A): !20 5 "zone_length" ["octets"] ri:=by
 show 8 ["octets"] 46;obtain⟨a,t,rfl,ha,hl,q⟩:=h;refine⟨_,(Gy (IS (PW.pt (Mg (IB (Nd (T5 hr)) (IY Ii (pv 0) (IX (Kr J9 Ht)) Iz) (Ib (Hn (Hx T.Vo)))) (LU (IB (Nd (T5 hr)) (IY Ii (pv 0) (IX (Kr J9 Ht)) Iz) (Ib (Hn (Hx T.Vn))))))) (Hm (Hy Ht)) IC)
   (Hm (Hy (NC (Ik (Hr (dm T) (Hn (IY Ii (pv 0) (IX (Kr J9 (Hx T.Pw))) Iz)))) (Hx T.Pw) Ht)))),?_⟩
 simp![];unfold zl at q;refine⟨_,Ip.of ha,λp Z=>?_⟩;rw[UQ t (-1) 1 rfl (!1)];obtain⟨H1,e1,f1,h1⟩:=JV (xs:=IH (t.drop (t.length-1))) Z;rw[e1];refine⟨Iv (!1),λp2 F=>?_⟩;obtain⟨H2,e2,L,h2⟩:=JV (xs:=[V.int 90]) F;rw[e2];have D:=f1.trans L;refine⟨_,JJ (L _ _ h1 (!2)),_,JJ (l:=[90]) h2,I0 _,I0 _,?_⟩;rw[Lc];by_cases c1:t.drop (t.length-1)=[90]
 .refine dT c1 ?_
  rw[AI (.inl ((ae t 90).mp c1))]at q;exact q _ D
 refine dF c1 ?_
 refine⟨_,Ip.of (D _ _ ha (!2)),λp3 G=>?_⟩;rw[UQ t (-1) 1 rfl (!1)];obtain⟨H3,e3,f3,h3⟩:=JV (xs:=IH (t.drop (t.length-1))) G;rw[e3];refine⟨Iv (!1),λp4 I=>?_⟩;obtain⟨H4,e4,M,h4⟩:=JV (xs:=[V.int 122]) I;rw[e4];have B:=(D.trans f3).trans M;refine⟨_,JJ (M _ _ h3 (!2)),_,JJ (l:=[122]) h4,I0 _,I0 _,?_⟩;rw[Lc];by_cases E:t.drop (t.length-1)=[122]
 .refine dT E ?_
  rw[AI (.inr ((ae t 122).mp E))]at q;exact q _ B
 refine dF E ?_
 rw[AD (by rintro(z|z);exact c1 ((ae t 90).mpr z);exact E ((ae t 122).mpr z))]at q;refine⟨_,Ip.of (B _ _ ha (!2)),λp5 J=>?_⟩;rw[UQ t (-6) 6 rfl (!1)];obtain⟨H5,e5,O,h5⟩:=JV (xs:=IH (t.drop (t.length-6))) J;rw[e5];refine⟨p5,_,rfl,h5,by rw[AS];omega,λH6 S=>?_⟩;simp![];by_cases Y:ag (t.drop (t.length-6))=AF
 .rw[AI Y]at q⊢;exact q _ ((B.trans O).trans S)
 rw[AD Y]at q⊢;exact q _ ((B.trans O).trans S)
set_option tactic.hygienic true
def qa(T:Txt K mg A)(C:SG K mg)(L:Kf K mg A): !20 6 "day_with_hour" ["word"] (RF A λt=>(Zm t).map AAy):=by
 show 8 ["word","day","between","behind","hour_length","hour","zone"] 48;obtain⟨a,t,rfl,ha,hl,hb,q1,q2⟩:=h;refine⟨_,(Gy (IA (i:=1) (IY Ii (pv 0) Iz (IX (Hx T.L8))))
   (Gy (IA (i:=2) (IY Ii (pv 0) (IX (Hx T.L8)) (IX (Ij KA (Hx T.L8) Ht))))
   (Gy (IA (i:=3) (IY Ii (pv 0) (IX (Ij KA (Hx T.L8) Ht)) Iz))
   (Gy (IS (PW.pt (Mg (LV (Ik (Hr (Uh T C) (Hn (pv 1))))) (LU (IB (cN (T5 hr)) (pv 2) (TX (Hz (Ib (Hn (Hx T.Vp))) (Hz (Ib (Hn (Hx T.cx))) (Hn (Ib (Hn (Hx T.Qp))))))) (hm:=rfl))))) (Hm (Hy LW)) IC)
   (Gy (IA (i:=4) (Ij MM (IT IP T.Jf PySem.boot_len (Hn (pv 3))) (Hr (U5 T) (Hn (pv 3)))))
   (Gy (IA (i:=5) (IY Ii (pv 3) Iz (IX (pv 4))))
   (Gy (IA (i:=6) (IY Ii (pv 3) (IX (pv 4)) Iz))
   (Gy (IS (LV (Ik (Hr (V8 T) (Hn (pv 5))))) (Hm (Hy LW)) IC)
   (Gy (IS (IB (Nd (T5 hr)) (pv 6) (Ib (Hn (Hx T.Vn)))) (Hm (IA (i:=6) (Ib (Hn (Hx T.Vo))))) IC)
   (Hm (Hy (Jl (NG T L) (Hz (Hx T.T4) (Hn (Ij Mv (Ij Mv (Ij Mv (pv 1) (Ib (Hn (Hx T.Vp)))) (pv 5)) (pv 6)))))))))))))))),?_⟩
 refine II λN1 Nw=>?_;simp![];refine⟨_,Ip.of ha,λp1 gy=>?_⟩;rw[Lz t 10 10 rfl];obtain⟨H1,e1,f1,h1⟩:=JV (xs:=IH (t.take 10)) gy;rw[e1];refine Nw _ _ (II λN2 Pg=>?_);clear Nw;simp![];refine⟨_,Ip.of (f1 _ _ ha (!2)),λp2 kx=>?_⟩;rw[PR t 10 (10+1) 10 11 rfl rfl];obtain⟨H2,e2,f2,h2⟩:=JV (xs:=IH ((t.drop 10).take (11-10))) kx;rw[e2];refine Pg _ _ (II λN3 Rq=>?_);clear Pg;have U0:=f1.trans f2;simp![];refine⟨_,Ip.of (U0 _ _ ha (!2)),λp3 SD=>?_⟩;rw[KI t (10+1) 11 rfl];obtain⟨H3,e3,f3,h3⟩:=JV (xs:=IH (t.drop 11)) SD;rw[e3];refine Rq _ _ (II λN4 Yz=>?_);clear Rq;have Y0:=U0.trans f3;have g1:=f3 _ _ (f2 _ _ h1 (!2)) (!2);have g2:=f3 _ _ h2 (!2);simp![];refine⟨p1,_,rfl,g1,λH4 f4=>?_⟩;simp![];have f04:=Y0.trans f4;have B:Zm t=if DH (t.take 10)=AJ\/ ¬((t.drop 10).take 1=[84]\/(t.drop 10).take 1=[116]\/(t.drop 10).take 1=[32])then AB else
   if DC ((t.drop 11).take ((t.drop 11).length-zl (t.drop 11)))=AJ then AB else U (t.take 10++([84]++((t.drop 11).take ((t.drop 11).length-zl (t.drop 11))++(if(t.drop 11).drop ((t.drop 11).length-zl (t.drop 11))=[122]then [90]else(t.drop 11).drop ((t.drop 11).length-zl (t.drop 11)))))):=rfl
 by_cases F:DH (t.take 10)=AF
 .rw[F];refine bB ?_
  refine⟨Iv (!1),λp5 mr=>?_⟩;obtain⟨H5,e5,f5,h5⟩:=JV (xs:=[V.int 84]) mr;rw[e5];refine⟨Iv (!1),λp6 gw=>?_⟩;obtain⟨H6,e6,f6,h6⟩:=JV (xs:=[V.int 116]) gw;rw[e6];refine⟨Iv (!1),λp7 yS=>?_⟩;obtain⟨H7,e7,f7,h7⟩:=JV (xs:=[V.int 32]) yS;rw[e7];refine⟨Iv (!1),λp8 yR=>?_⟩;generalize hH8:_L.Hu H7 p8 (.tup [V.ref p5,V.ref p6,V.ref p7])=H8;have f8:Fr [] H7 H8:=by rw[<-hH8];exact Fr.new yR
  have h8:H8 p8=U (.tup [V.ref p5,V.ref p6,V.ref p7]):=by rw[<-hH8];exact Hq
  have k5:=f8 _ _ (f7 _ _ (f6 _ _ h5 (!2)) (!2)) (!2);have k6:=f8 _ _ (f7 _ _ h6 (!2)) (!2);have k7:=f8 _ _ h7 (!2);have M:=(f5.trans f6).trans (f7.trans f8);have vw:=f04.trans M;have k2:=M _ _ (f4 _ _ g2 (!2)) (!2);have k3:=M _ _ (f4 _ _ h3 (!2)) (!2);have k1:=M _ _ (f4 _ _ g1 (!2)) (!2);refine⟨[.list (Ut [84]),.list (Ut [116]),.list (Ut [32])],.tup (NR.of h8) (.cons (JJ (l:=[84]) k5) (.cons (JJ (l:=[116]) k6) (.cons (JJ (l:=[32]) k7) .nil))),_,JJ k2,!1,QG _,!1,?_⟩;have pq:([.list (Ut [84]),.list (Ut [116]),.list (Ut [32])]:List PyData).any (λy=>y.eqv (.list (Ut ((t.drop 10).take (11-10)))))=decide ((t.drop 10).take 1=[84]\/(t.drop 10).take 1=[116]\/(t.drop 10).take 1=[32]):=by
   rw[CS,CS,CS,List.any_nil,Lc,Lc,Lc,A9];simp only[BE,Ak,Ai,C6];constructor
   .rintro(z|z|z)
    .exact .inl z.symm
    .exact .inr (.inl z.symm)
    exact .inr (.inr z.symm)
   rintro(z|z|z)
   .exact .inl z.symm
   .exact .inr (.inl z.symm)
   exact .inr (.inr z.symm)
  rw[pq];by_cases O:(t.drop 10).take 1=[84]\/(t.drop 10).take 1=[116]\/(t.drop 10).take 1=[32]
  .refine nF O ?_
   rw[AD (by rintro(z|z);show 6 F z;exact z O)]at B;refine Yz _ _ (II λN5 jP=>?_);clear Yz;generalize hrr:t.drop 11=r at*;have tG:r.length<=20000:=by rw[<-hrr,AS];nofun
   simp![];refine⟨_,.inl (Ip.of k3),?_⟩;rw[Hw];refine⟨p3,r,rfl,k3,tG,λH9 f9=>?_⟩;simp![];have zZ:=vw.trans f9;have vN:zl r<=r.length:=by
    unfold zl;split
    .rename_i z;obtain rfl|⟨u,x,rfl⟩:=EM r
     .simp at z
     simp
    split
    .rename_i z;have:=Nm z;rw[AS]at this
     nofun
    nofun
   rw[show(r.length:Int)-((zl r:Nat):Int)=((r.length-zl r:Nat):Int)by nofun];generalize hk:r.length-zl r=k at*;refine jP _ _ (II λN6 px=>?_);clear jP;simp![];refine⟨_,Ip.of (f9 _ _ k3 (!2)),λqr gx=>?_⟩;rw[Lz r (k:Int) k rfl];obtain⟨H10,uS,zY,uE⟩:=JV (xs:=IH (r.take k)) gx;rw[uS];refine px _ _ (II λN7 uA=>?_);clear px;simp![];refine⟨_,Ip.of (zY _ _ (f9 _ _ k3 (!2)) (!2)),λsF kz=>?_⟩;rw[KI r (k:Int) k rfl];obtain⟨um,zg,zX,zQ⟩:=JV (xs:=IH (r.drop k)) kz;rw[zg];have j10:=zX _ _ uE (!2);have zb:=(zZ.trans zY).trans zX;refine uA _ _ (II λN8 t9=>?_);clear uA;simp![];refine⟨qr,r.take k,rfl,j10,by rw[AW];nofun,λH12 S=>?_⟩;simp![];have G:=zb.trans S;by_cases yo:DC (r.take k)=AF
   .rw[yo];refine bB ?_
    rw[AD (by rw[yo];decide)]at B;refine t9 _ _ (II λN9 t7=>?_);clear t9;have j11:=S _ _ zQ (!2);have xq:=S _ _ j10 (!2);have j1:=S _ _ (zX _ _ (zY _ _ (f9 _ _ k1 (!2)) (!2)) (!2)) (!2);have fin: ∀(zz:List Nat)(f:AK)(D:Hp),Fr [] H12 D->D f=U (.lst (IH zz))->zz=(if r.drop k=[122]then [90]else r.drop k)->N9 [U (V.ref a),U (V.ref p1),U (V.ref p2),U (V.ref p3),U (V.int (k:Int)),U (V.ref qr),U (V.ref f)] D:=by
     intro zz f D E hf hzz;rw[<-hzz]at B;refine t7 _ _ ?_
     clear t7;simp![KL];have i1:=E _ _ j1 (!2);have i10:=E _ _ xq (!2);have ABD:zz.length<=20000:=by
      rw[hzz];split
      .simp
      rw[AS];nofun
     have big:(80000:Nat)<=Ac:=!1
     refine⟨Iv (!1),λsE yX=>?_⟩;obtain⟨H15,e15,I,h15⟩:=JV (xs:=IH [84]) yX;rw[show _L.Hu D sE (.lst [V.int 84])=H15 from e15];refine⟨_,I _ _ i1 (!2),_,h15,?_,λp16 yW=>?_⟩
     .rw[Hw,Hw,AW,Am]
      nofun
     rw[<-Iq];obtain⟨H16,e16,Y,h16⟩:=JV (xs:=IH (t.take 10++[84])) yW;rw[e16];refine⟨_,h16,_,Y _ _ (I _ _ i10 (!2)) (!2),?_,λp17 yV=>?_⟩
     .rw[Hw,Hw,AG,AW,AW,Am]
      nofun
     rw[<-Iq];obtain⟨H17,e17,zW,h17⟩:=JV (xs:=IH (t.take 10++[84]++r.take k)) yV;rw[e17];refine⟨_,h17,_,zW _ _ (Y _ _ (I _ _ hf (!2)) (!2)) (!2),?_,λp18 tJ=>?_⟩
     .rw[Hw,Hw,AG,AG,AW,AW,Am]
      nofun
     rw[<-Iq];obtain⟨H18,e18,f18,h18⟩:=JV (xs:=IH (t.take 10++[84]++r.take k++zz)) tJ;rw[e18];have uL:=((G.trans E).trans (I.trans Y)).trans (zW.trans f18);have ef:t.take 10++[84]++r.take k++zz=t.take 10++([84]++(r.take k++zz)):=!2
     rw[ef]at h18;refine NI (A:=A) (v:=.time (t.take 10++([84]++(r.take k++zz)))) rfl rfl h18 λH19 p19 yU hL f19=>?_;exact q2 _ (by rw[B];rfl) _ p19 p18 (uL.none yU (!2)) (.inr (((G.trans E).trans (I.trans Y)).trans zW|>.none tJ (!2))) hL (uL.trans f19)
    simp![];refine⟨Iv (!1),λp13 yY=>?_⟩;obtain⟨uk,uQ,Z,h13⟩:=JV (xs:=[V.int 122]) yY;rw[uQ];refine⟨_,JJ (Z _ _ j11 (!2)),_,JJ (l:=[122]) h13,I0 _,I0 _,?_⟩;rw[Lc];by_cases cz:r.drop k=[122]
    .refine dT cz ?_
     refine⟨Iv (!1),λxU pR=>?_⟩;obtain⟨D,ze,E,zP⟩:=JV (xs:=IH [90]) pR;rw[show _L.Hu uk xU (.lst [V.int 90])=D from ze];exact fin [90] xU D (Z.trans E) zP (by rw[AI cz])
    refine dF cz ?_
    exact fin (r.drop k) sF uk Z (Z _ _ j11 (!2)) (by rw[AD cz])
   have tU:DC (r.take k)=AJ:=by simpa using yo
   rw[tU];refine Xc ?_
   rw[AI tU]at B;exact q1 (by rw[B];rfl) _ G
  refine nT O ?_
  rw[AI (.inr O)]at B;exact q1 (by rw[B];rfl) _ vw
 have J:DH (t.take 10)=AJ:=by simpa using F
 rw[J];refine Xc ?_
 rw[AI (.inl J)]at B;exact q1 (by rw[B];rfl) _ f04
set_option tactic.hygienic false
def aB(t:List Nat):Option AU:=if DH t=AF\/DC t=AF then U (.time t)else(Zm t).map .time
def XJ(T:Txt K mg A)(C:SG K mg)(L:Kf K mg A): !20 7 "day_or_hour" ["word"] (RF A aB):=by
 show 8 ["word"] 47;obtain⟨a,t,rfl,ha,Z,hb,I,D⟩:=h;refine⟨_,(Gy (IS (PW.pt (Mg (Ik (Hr (Uh T C) (Hn (pv 0)))) (LU (Ik (Hr (V8 T) (Hn (pv 0))))))) (Hm (Hy (Jl (NG T L) (Hz (Hx T.T4) (Hn (pv 0)))))) IC)
   (Hm (Hy (Hr (qa T C L) (Hn (pv 0)))))),?_⟩
 refine II λN1 J=>?_;simp![KL];unfold aB at I D;have mk: ∀H2,Fr [] H H2->(DH t=AF\/DC t=AF)-> ∀x dx,H2 x=AB->H2 dx=AB->dx≠x->Mr A.leaf 3 lf [V.ref x,V.int 5,V.ref a,V.int 0] (_L.Hu (_L.Hu H2 dx (HO.own x)) x (HO.ins A.leaf dx [])) (λv H2=>v=V.Jm/\Q (V.ref x) H2) E0:=by
  intro H2 E M;rw[AI M]at D;refine NI (A:=A) (v:=.time t) rfl rfl (E _ _ ha (!2)) λH3 p3 O S F=>?_;exact D _ rfl _ p3 a (E.none O (!2)) (.inl rfl) S (E.trans F)
 refine⟨a,t,rfl,ha,λH1 Y=>?_⟩;simp![KL];by_cases hd:DH t=AF
 .refine WJ hd ?_
  exact mk H1 Y (.inl hd)
 refine W5 hd ?_
 refine⟨a,t,rfl,Y _ _ ha (!2),Z,λH2 E=>?_⟩;have B:=Y.trans E;simp![KL];by_cases G:DC t=AF
 .refine WJ G ?_
  exact mk H2 B (.inr G)
 refine W5 G ?_
 rw[AD (by rintro(z|z);exact hd z;exact G z)]at I D;refine J _ _ ?_
 simp![];exact⟨a,t,rfl,B _ _ ha (!2),Z,hb,λen H3 F=>I en _ (B.trans F),λv ev H3 p f hp hf S F=>D v ev H3 p f (B.none hp (!2)) (hf.imp id λz=>B.none z (!2)) S (B.trans F)⟩
noncomputable def je:List String:=["true","false"]
noncomputable def eF:List (String×String):=[("inf","inf"),("+inf","inf"),("-inf","-inf"),("nan","nan"),("+nan","nan"),("-nan","nan")]
noncomputable def Pv1(t:List Nat)(a:AK)(H:Hp)(i:Nat)(B:_L.St)(D:Hp):Prop:=Fr [] H D/\(∀z∈je.take i,t≠Bh z)/\ ∃z,B=[U (.ref a),z,AB]
noncomputable def Pv2(t:List Nat)(a:AK)(H:Hp)(i:Nat)(B:_L.St)(D:Hp):Prop:=Fr [] H D/\(∀z∈je,t≠Bh z)/\(∀z∈eF.take i,t≠Bh z.1)/\ ∃E F,B=[U (.ref a),E,F]
def rQ: ∀B∈je,∃v,LK (Bh B)=U v/\ES 1 v=Bh B/\Ee v=4/\D8 v=0:=by
 intro B h;have:B="true"\/B="false":=by simpa[je]using h
 obtain rfl|rfl:=this
 .exact⟨.bool AF,rfl,rfl,rfl,rfl⟩
 exact⟨.bool AJ,rfl,rfl,rfl,rfl⟩
def jd: ∀B∈je,B.length<=10000:=by
 intro B h;have:B="true"\/B="false":=by simpa[je]using h
 obtain rfl|rfl:=this<;>decide
def sJ: ∀B∈eF,∃v,LK (Bh B.1)=U v/\ES 1 v=Bh B.2/\Ee v=3/\D8 v=0:=by
 intro B h;have:B=("inf","inf")\/B=("+inf","inf")\/B=("-inf","-inf")\/B=("nan","nan")\/B=("+nan","nan")\/B=("-nan","nan"):=by simpa[eF]using h
 obtain rfl|rfl|rfl|rfl|rfl|rfl:=this
 .exact⟨.odd 0,rfl,rfl,rfl,rfl⟩
 .exact⟨.odd 0,rfl,rfl,rfl,rfl⟩
 .exact⟨.odd 1,rfl,rfl,rfl,rfl⟩
 .exact⟨.odd 2,rfl,rfl,rfl,rfl⟩
 .exact⟨.odd 2,rfl,rfl,rfl,rfl⟩
 exact⟨.odd 2,rfl,rfl,rfl,rfl⟩
def kX: ∀B∈eF,B.1.length<=10000/\B.2.length<=10000:=by
 intro B h;have:B=("inf","inf")\/B=("+inf","inf")\/B=("-inf","-inf")\/B=("nan","nan")\/B=("+nan","nan")\/B=("-nan","nan"):=by simpa[eF]using h
 obtain rfl|rfl|rfl|rfl|rfl|rfl:=this<;>decide
def iu(T:Txt K mg A)(C:SG K mg)(L:Kf K mg A): !20 3 "fixed_word" ["word"] (RF A LK):=(T.fn 63 rfl).at λF=>by
 obtain⟨aT,gT,tT⟩:=C.nY;obtain⟨aW,b1,b2,b3,b4,b5,b6,gW,tW,w1,w2,w3,w4,w5,w6⟩:=C.xY;show 9 ["word","spelled","form"];obtain⟨a,t,rfl,ha,hl,hb,q1,q2⟩:=h;refine⟨_,(Gy (LG Ag rfl (ZP (Je gT rfl)) (JO (i:=1) S.nd rfl (CW rfl)) (Hm (IS (IB (Nd (T5 hr)) (pv 0) (Hr (Kd T) (Hn (pv 1)))) (Hm (Hy (Jl (NG T L) (Hz (Hx T.Wu) (Hn (pv 0)))))) IC)))
   (Gy (LG Ag rfl (ZP (Je gW rfl)) (WY rfl (Ls (JO (i:=1) S.nd rfl (CW rfl)) (Ls (JO (i:=2) S.nd rfl (CW rfl)) SN))) (Hm (IS (IB (Nd (T5 hr)) (pv 0) (Hr (Kd T) (Hn (pv 1)))) (Hm (Hy (Jl (NG T L) (Hz (Hx T.Oi) (Hn (Hr (Kd T) (Hn (pv 2)))))))) IC)))
   (Hm (Hy LW)))),?_⟩
 refine II λN1 Y=>?_;simp![KL];refine⟨⟨_,tT.sq⟩,?_⟩;refine lF (xs:=[.str "true",.str "false"]) (Pv1 t a H) ⟨Fr.refl,!2,AB,rfl⟩ (λw w w w w=>tT.sq) ?_ ?_
 .rintro i x σ H' hx ⟨f,E,z,rfl⟩;obtain⟨G,M,rfl⟩: ∃G,je[i]? =U G/\x=.str (BK G):=by
   match i,hx with
   |0,hx=>exact⟨"true",rfl,by cases hx;rfl⟩
   |1,hx=>exact⟨"false",rfl,by cases hx;rfl⟩
  simp![KL];obtain⟨v,Z,v2,v3,v4⟩:=rQ G (BI M);refine⟨_,rfl,by rw[PySem.ofString_length];exact jd G (BI M),λH2 p2 kx I f2=>?_⟩;rw[LY]at I;have D:=f.trans f2;refine⟨_,JJ (D _ _ ha (!2)),_,JJ I,I0 _,I0 _,?_⟩;rw[Lc];by_cases J:t=Bh G
  .refine dT J ?_
   rw[<-J]at Z v2;refine NI (A:=A) (v:=v) (by rw[v3];rfl) v4 (by rw[v2];exact D _ _ ha (!2)) λH3 p3 O hL f3=>?_;exact q2 _ Z _ p3 a (D.none O (!2)) (.inl rfl) hL (D.trans f3)
  refine dF J ?_
  refine⟨D,?_,_,rfl⟩;intro y hy;rw[Br,M]at hy;obtain h|h:=AQ.mp hy
  .exact E y h
  obtain rfl:y=G:=by simpa using h
  exact J
 rintro σ H' ⟨f,E,z,rfl⟩;refine Y _ _ (II λN2 Pg=>?_);clear Y;simp![KL];refine⟨⟨_,tW.sq⟩,?_⟩;refine lF (xs:=[.ref b1,.ref b2,.ref b3,.ref b4,.ref b5,.ref b6]) (Pv2 t a H) ⟨f,E,!2,z,AB,rfl⟩ (λw w w w w=>tW.sq) ?_ ?_
 .rintro i x σ H' hx ⟨f,E,B,z1,z2,rfl⟩;obtain⟨G,b,M,hw,rfl⟩: ∃G b,eF[i]? =U G/\L9 K b [.str (BK G.1),.str (BK G.2)]/\x=.ref b:=by
   match i,hx with
   |0,hx=>exact⟨("inf","inf"),b1,rfl,w1,by cases hx;rfl⟩
   |1,hx=>exact⟨("+inf","inf"),b2,rfl,w2,by cases hx;rfl⟩
   |2,hx=>exact⟨("-inf","-inf"),b3,rfl,w3,by cases hx;rfl⟩
   |3,hx=>exact⟨("nan","nan"),b4,rfl,w4,by cases hx;rfl⟩
   |4,hx=>exact⟨("+nan","nan"),b5,rfl,w5,by cases hx;rfl⟩
   |5,hx=>exact⟨("-nan","nan"),b6,rfl,w6,by cases hx;rfl⟩
  refine⟨_,rfl,_,hw.sq,rfl,?_⟩;simp![KL];obtain⟨v,Z,v2,v3,v4⟩:=sJ G (BI M);have vN:=kX G (BI M);refine⟨_,rfl,by rw[PySem.ofString_length];exact vN.1,λH2 p2 kx I f2=>?_⟩;rw[LY]at I;have D:=f.trans f2;refine⟨_,JJ (D _ _ ha (!2)),_,JJ I,I0 _,I0 _,?_⟩;rw[Lc];by_cases J:t=Bh G.1
  .refine dT J ?_
   rw[<-J]at Z;refine⟨_,rfl,by rw[PySem.ofString_length];exact vN.2,λH3 p3 O pT f3=>?_⟩;rw[LY,<-v2]at pT;have Y0:=D.trans f3;refine NI (A:=A) (v:=v) (by rw[v3];rfl) v4 pT λH4 p4 au hL f4=>?_;exact q2 _ Z _ p4 p3 (Y0.none au (!2)) (.inr (D.none O (!2))) hL (Y0.trans f4)
  refine dF J ?_
  refine⟨D,E,?_,_,_,rfl⟩;intro y hy;rw[Br,M]at hy;obtain h|h:=AQ.mp hy
  .exact B y h
  obtain rfl:y=G:=by simpa using h
  exact J
 rintro σ H' ⟨f,E,B,z1,z2,rfl⟩;refine Pg _ _ ?_
 simp![];refine q1 ?_ _ f
 have g1:=E "true" (by simp[je]);have g2:=E "false" (by simp[je]);have k1:=B ("inf","inf") (by simp[eF]);have k2:=B ("+inf","inf") (by simp[eF]);have k3:=B ("-inf","-inf") (by simp[eF]);have k4:=B ("nan","nan") (by simp[eF]);have k5:=B ("+nan","nan") (by simp[eF]);have k6:=B ("-nan","nan") (by simp[eF]);unfold LK;rw[AD g1,AD g2,AD k1,AD k2,AD k3,AD (by rintro(z|z|z);exact k4 z;exact k5 z;exact k6 z)]
def lu.pass(h:lu A H a g Q)(f:Fr [] H E):lu A E a g Q:=
 ⟨λe B D=>h.1 e B (f.trans D),λv e B p F G I J D=>h.2 v e B p F (f.none G (!2)) (I.imp id λz=>f.none z (!2)) J (f.trans D)⟩
def dk(T:Txt K mg A)(TT:LN K mg)(C:SG K mg)(L:Kf K mg A): !20 8 "leaf_of" ["word"] (RF A MP):=by
 show 8 ["word","leaf"] 62;obtain⟨a,t,rfl,ha,Z,hb,q⟩:=h;refine⟨_,(Gy (IA (i:=1) (Hr (iu T C L) (Hn (pv 0))))
   (Gy (IS (KY (MJ (pv 1))) (Hm (IA (i:=1) (Hr (ip T TT L) (Hn (pv 0))))) IC)
   (Gy (IS (KY (MJ (pv 1))) (Hm (IA (i:=1) (Hr (Zz T C L) (Hn (pv 0))))) IC)
   (Gy (IS (KY (MJ (pv 1))) (Hm (IA (i:=1) (Hr (XJ T C L) (Hn (pv 0))))) IC)
   (Hm (Hy (pv 1))))))),?_⟩
 have B:MP t=match LK t with
   |some v=>U v
   |none=>match Jq t with
    |some v=>U v
    |none=>match Rk t with
     |some v=>U v
     |none=>aB t:=by
  unfold MP Rk aB;cases LK t with
  |some v=>rfl
  |none=>
   cases Jq t with
   |some v=>rfl
   |none=>
    cases Mu t with
    |some v=>rfl
    |none=>rfl
 refine II λN1 G=>?_;have done: ∀(N1:_L.St->Hp->Prop),True:=λy=>trivial;simp![];refine⟨a,t,rfl,ha,Z,hb,λe1 H1 Y=>?_,λv e1 H1 p f I J M Y=>?_⟩
 .rw[e1]at B;refine G _ _ (II λN2 F=>?_);clear G;simp![];refine dT trivial ?_
  refine⟨a,t,rfl,Y _ _ ha (!2),Z,hb,λe2 H2 f2=>?_,λv e2 H2 p f I J M f2=>?_⟩
  .rw[e2]at B;have O:=Y.trans f2;refine F _ _ (II λN3 E=>?_);clear F;simp![];refine dT trivial ?_
   refine⟨a,t,rfl,O _ _ ha (!2),Z,hb,λe3 H3 f3=>?_,λv e3 H3 p f I J M f3=>?_⟩
   .rw[e3]at B;have S:=O.trans f3;refine E _ _ (II λN4 D=>?_);clear E;simp![];refine dT trivial ?_
    refine⟨a,t,rfl,S _ _ ha (!2),Z,hb,λe4 H4 f4=>?_,λv e4 H4 p f I J M f4=>?_⟩
    .refine D _ _ ?_
     simp![];exact q.1 (B.trans e4) _ (S.trans f4)
    refine D _ _ ?_
    simp![];exact(q.pass S).2 v (B.trans e4) _ p f I J M f4
   refine E _ _ (II λN4 D=>?_);simp![];refine dF (by intro z;cases z) ?_
   refine D _ _ ?_
   simp![];rw[e3]at B;exact(q.pass O).2 v B _ p f I J M f3
  refine F _ _ (II λN3 E=>?_);simp![];refine dF (by intro z;cases z) ?_
  refine E _ _ (II λN4 D=>?_);simp![];refine dF (by intro z;cases z) ?_
  refine D _ _ ?_
  simp![];rw[e2]at B;exact(q.pass Y).2 v B _ p f I J M f2
 refine G _ _ (II λN2 F=>?_);simp![];refine dF (by intro z;cases z) ?_
 refine F _ _ (II λN3 E=>?_);simp![];refine dF (by intro z;cases z) ?_
 refine E _ _ (II λN4 D=>?_);simp![];refine dF (by intro z;cases z) ?_
 refine D _ _ ?_
 simp![];rw[e1]at B;exact q.2 v B _ p f I J M Y
inductive bw (A:JL)(vs:List V)(H:Hp)(Q:VK)(E:XK):Prop
 |mk (c:AK)(a:Tx)(t:List Nat)(_:vs=[.ref c])(_:JN A H c a t)(_: ∀H',Fr [] H H'->Q (.bl (we t)) H')
def XI(T:Txt K mg A): !20 4 "is_word_end" ["cursor"] (bw A):=by
 show 8 ["cursor","octet"] 61;obtain⟨c,G,t,rfl,E,q⟩:=h;refine⟨_,(Gy (IA (i:=1) (ID (Iy T) (pv 0)))
   (Gy (IS (PW.pt (Mg (Ik (Hr (Oy T) (Hn (pv 1)))) (LU (IB L1 (ID (K4 T) (pv 0)) Ht)))) (Hm (Hy ND)) IC)
   (Hm (Hy (KD Vd (pv 1) (TX (Hz (Hx T.Qq) (Hz (Hx T.Jx) (Hz (Hx T.Kx) (Hz (Hx T.Wx) (Hn (Hx T.Vq))))))) (hm:=rfl)))))),?_⟩
 simp?! [Ms];refine⟨c,G,t,rfl,E,?_⟩;simp?! [Ms];by_cases B:NW (LP t)=AF
 .refine WJ B ?_
  have:we t=AF:=by
   cases t with
   |nil=>rfl
   |cons y r=>
    rw[Lq]at B;show(Of y||decide (0<le (y::r))||y==44||y==93||y==125||y==35)=AF;rw[B];rfl
  rw[this]at q;exact q _ Fr.refl
 refine W5 B ?_
 refine⟨c,G,t,rfl,E,?_⟩;show 4;by_cases D:0<le t
 .refine dT (show(0:Int)<((le t:Nat):Int)by nofun) ?_
  have:we t=AF:=by
   cases t with
   |nil=>rfl
   |cons y r=>
    show(Of y||decide (0<le (y::r))||y==44||y==93||y==125||y==35)=AF;rw[Af D,Cz];rfl
  rw[this]at q;exact q _ Fr.refl
 refine dF (show¬(0:Int)<((le t:Nat):Int)by nofun) ?_
 refine⟨Iv (!1),λI F=>?_⟩;refine⟨I,IH [44,93,125,35,256],rfl,.inr (NR.of Hq),rfl,rfl,?_⟩;rw[show LP t=((t.getD 0 256:Nat):Int)from rfl,Qn];have:([44,93,125,35,256]:List Nat).contains (t.getD 0 256)=we t:=by
  cases t with
  |nil=>rfl
  |cons y r=>
   rw[Lq]at B;show _=(Of y||decide (0<le (y::r))||y==44||y==93||y==125||y==35);rw[show Of y=AJ by simpa using B,AM D];have J:=E.sub y (!2);show([44,93,125,35,256]:List Nat).contains y=_;simp only[FA,List.contains_nil,B8,CH];rw[show(y==256)=AJ by simp;nofun,B8];rw[A9];simp only[BE,BL]
   nofun
 rw[this];exact q _ (Fr.new F)
inductive ZE (A:JL)(vs:List V)(H:Hp)(Q:VK)(E:XK):Prop
 |mk (c:AK)(a:Tx)(t:List Nat)(_:vs=[.ref c])(_:JN A H c a t)(_: ∀H' p,H p=AB->H' p=U (.lst (IH (wd t).1))->JN A H' c a (wd t).2->Fr [c] H H'->Q (.ref p) H')
noncomputable def WTw(A:JL)(c:AK)(D:Tx)(t:List Nat)(E:Nat)(H:Hp)(m:Nat)(F:_L.St)(B:Hp):Prop:=F=[U (.ref c),U (.int (E:Int))]/\ ∃k,k<=t.length/\m=t.length-k/\JN A B c D (t.drop k)/\Fr [c] H B/\wd t=(t.take k++(wd (t.drop k)).1,(wd (t.drop k)).2)
def JN.Vx(h:JN A H c B t)(f:Fr [] H D):JN A D c B t:=h.fr f (!2) (λz z z=>by simp)
def Fr.of0(f:Fr [] H B):Fr W H B:=f.mono (!2)
def Ry(T:Txt K mg A): !20 5 "take_word" ["cursor"] (ZE A):=by
 show 8 ["cursor","start"] 60;obtain⟨c,J,t,rfl,hc,q⟩:=h;refine⟨_,(Gy (IA (i:=1) (Ih (pv 0) rfl))
   (Gy (JS Ag (LV (Ik (Hr (XI T) (Hn (pv 0))))) (Hm (Ju (pv 0) Ht La)))
   (Hm (Hy (IY Ii (Ih (pv 0) rfl) (IX (pv 1)) (IX (Ih (pv 0) rfl))))))),?_⟩
 obtain⟨dx,ao,p,L,ce2,et,hp⟩:=hc.ex;simp?! [L,Kc L,Ms];refine⟨WTw A c J t p H,⟨_,rfl,0,Ax _,rfl,hc,Fr.refl,!2⟩,?_⟩;rintro m σ H1 ⟨rfl,k,hk,rfl,h1,f1,D⟩;simp?! [];refine⟨c,J,_,rfl,h1,λH2 f2=>?_⟩;have M:=h1.Vx f2;have G:=f1.trans (f2.of0 (W:=[c]));obtain⟨iW,ao2,Y,E,F,I,Z⟩:=M.ex;have hpk:Y=p+k:=by
  have l1:=congrArg A5 I;have l2:=congrArg A5 et;rw[AS,AS]at l1;rw[AS]at l2
  lia
 simp?! [E,Kc E];cases B:we (t.drop k)with
 |false=>
  refine Xc ?_
  cases hd:t.drop k with
  |nil=>show 6 hd B
  |cons y r=>
   have vb:k<t.length:=by
    have:=congrArg A5 hd;rw[AS,AN]at this
    lia
   rw[hd]at M I D B;obtain⟨g1,g2⟩:=Lm (k:=1) M E F I Z (!2) rfl;have lB:t.drop (k+1)=r:=by rw[<-BR,hd];rfl
   refine⟨λO H'=>O=[U (V.ref c),U (V.int (p:Int))]/\JN A H' c J (t.drop (k+1))/\Fr [c] H H',?_,rfl,?_,G.trans g2⟩
   .rintro O H' ⟨rfl,g3,g4⟩;refine⟨t.length-(k+1),!3,rfl,k+1,vb,rfl,g3,g4,?_⟩;rw[D,lB,show t.take (k+1)=t.take k++[y]by rw[AAD,hd];rfl];have:wd (y::r)=(y::(wd r).1,(wd r).2):=by
     show(if we (y::r)=AF then _ else _)=_;rw[B,AD AH]
    rw[this];simp
   rw[lB];exact g1
 |true=>
  refine bB ?_
  have x5:wd (t.drop k)=([],t.drop k):=by
   cases hd:t.drop k with
   |nil=>rfl
   |cons y r=>
    rw[hd]at B;show(if we (y::r)=AF then _ else _)=_;rw[AI B]
  rw[x5,An]at D;refine⟨_,Ip.of F,λa ha=>?_⟩;refine q _ a ?_ ?_ ?_ (G.trans (Fr.new ha))
  .exact M.free G ha
  .rw[Hq,D];have S:Ma (IH J.b) (U (p:Int)) (U (Y:Int))=IH (t.take k):=by
    rw[PR J.b _ _ p Y rfl rfl,<-et]
    congr 2
    lia
   rw[S]
  rw[D];exact M.new ha
noncomputable def AAO(A:JL)(H:Hp)(c:AK)(D:Tx)(g:Option (AU×List Nat))(Q:VK)(E:XK):Prop:=
 (∀x,g=U x-> ∀B p f,H p=AB->H f=AB->KN A B p f x.1->JN A B c D x.2->Fr [c] H B->Q (.ref p) B)/\(g=AB-> ∀B,Fr [c] H B->E (.ref A.wi) AB B)
inductive n0 (A:JL)(vs:List V)(H:Hp)(Q:VK)(E:XK):Prop
 |mk (c:AK)(a:Tx)(t:List Nat)(_:vs=[.ref c])(_:JN A H c a t)(_:AAO A H c a (jK t) Q E)
def Yl(T:Txt K mg A)(TT:LN K mg)(C:SG K mg)(L:Kf K mg A): !20 9 "read_word" ["cursor"] (n0 A):=by
 show 8 ["cursor","word","leaf"] 59;obtain⟨c,Y,t,rfl,hc,q1,q2⟩:=h;refine⟨_,(Gy (IA (i:=1) (Hr (Ry T) (Hn (pv 0))))
   (Gy (IS (PW.pt (J2 (Ik (Hr (Uh T C) (Hn (pv 1)))) (J2 (IB JB (ID (Iy T) (pv 0)) (Hx T.Qp)) (Jr (Ik (Hr (LA T) (Hn (Ie (MU T) (pv 0) Ht)))))))) (Gy (IK (Ie (JX T) (pv 0) (Hx T.Qp) (hx:=Ig)))
   (Hm (IA (i:=1) (Ij Mv (Ij Mv (pv 1) (Ib (Hn (Hx T.Qp)))) (Hr (Ry T) (Hn (pv 0))))))) IC)
   (Gy (IA (i:=2) (Hr (dk T TT C L) (Hn (pv 1))))
   (Gy (IS (KY (MJ (pv 2))) (Hm (JE T.Ia rfl)) IC)
   (Hm (Hy (pv 2))))))),?_⟩
 refine II λN1 Z=>?_;simp?! [];refine⟨c,Y,t,rfl,hc,λH1 p1 gy k9 h1 f1=>?_⟩;simp?! [];refine Z _ _ (II λN2 G=>?_);clear Z;have fin: ∀(u:List Nat)(r:List Nat)(H2:Hp)(p:AK),Fr [c] H H2->H p=AB->H2 p=U (.lst (IH u))->JN A H2 c Y r->u.length<=20000->(∀x∈u,x<256)->jK t=(MP u).map (λv=>(v,r))->N2 [U (V.ref c),U (V.ref p),AB] H2:=by
  intro u r H2 p I hp hlp D x9 hub tH;refine G _ _ (II λN3 Rq=>?_);clear G;simp?! [];refine⟨p,u,rfl,hlp,x9,hub,λen H3 J=>?_,λv ev H3 p3 ff SD hff hL J=>?_⟩
  .refine Rq _ _ ?_
   simp?! [];refine dT trivial ?_
   exact q2 (by rw[tH,en];rfl) _ (I.trans J.of0)
  refine Rq _ _ ?_
  simp?! [];refine dF (by intro z;cases z) ?_
  have jM: ∀x,H2 x=AB->H x=AB:=λx hx=>D.free I hx;refine q1 (v,r) (by rw[tH,ev];rfl) _ p3 ff (jM _ SD) ?_ hL (D.Vx J) (I.trans J.of0)
  obtain z|z:=hff
  .rw[z];exact hp
  exact jM _ z
 clear G q1 q2;have vO:(wd t).1.length+(wd t).2.length=t.length:=by
  have:=congrArg A5 (MB t);rw[AG]at this;exact this
 have yB:t.length<=20000:=Aa hc.len hc.small;have hwb: ∀x∈(wd t).1,x<256:=λx hx=>hc.sub x (by rw[<-MB t];exact Bl _ hx);simp?! [];refine⟨p1,_,rfl,k9,λH2 I=>?_⟩;have D:=h1.Vx I;have lJ:=f1.trans (I.of0 (W:=[c]));have M:=I _ _ k9 (!2);have plain: ¬(DH (wd t).1=AF/\(wd t).2.head?=U 32/\((wd t).2.drop 1).head?.any BY=AF)->N2 [U (V.ref c),U (V.ref p1),AB] H2:=by
  intro hn;refine fin (wd t).1 (wd t).2 H2 p1 lJ gy M D (!5) hwb ?_
  unfold jK;rw[AD hn]
 simp?! [Ms];by_cases B:DH (wd t).1=AF
 rotate_left
 .rw[AD B,AD AH];exact plain (λz=>B z.1)
 refine WJ B ?_
 refine⟨c,Y,_,rfl,D,?_⟩;show 4;by_cases E:LP (wd t).2=32
 rotate_left
 .rw[AM E,AD AH,AD AH];refine plain (λz=>E ?_);cases hw:(wd t).2 with
  |nil=>rw[hw]at z;simp at z
  |cons y r=>
   rw[hw]at z;have:y=32:=by simpa using z.2.1
   rw[this];rfl
 rw[E,Af rfl,AI rfl];obtain⟨y,r,hw2,hy⟩:=My (!1) E;obtain rfl:y=32:=!5
 refine⟨c,1,Y,_,rfl,D,?_⟩;show 4;rw[hw2]at plain D vO⊢;have hg:((32::r:List Nat).getD 1 256)=r.getD 0 256:=rfl;rw[hg];cases r with
 |nil=>
  rw[show Lx (((([]:List Nat).getD 0 256:Nat)):Int)=AJ from by decide,AD AH];exact plain (λz=>by simp at z)
 |cons d r=>
  rw[show((d::r:List Nat).getD 0 256)=d from rfl,NV];by_cases cd:BY d=AF
  rotate_left
  .refine W5 cd ?_
   exact plain (λz=>cd (!8 z.2.2))
  refine WJ cd ?_
  refine⟨c,32,Y,_,rfl,D,!1,λy' r' e5 e6 H3 h3 J=>?_,λz=>absurd rfl z⟩;cases e5;have nD:=lJ.trans J;have pT:H3 p1=U (.lst (IH (wd t).1)):=J _ _ M (by
   obtain⟨lN,ao',p',O,_⟩:=D.ex;simpa using OY M O (by intro z;cases z))
  refine⟨Iv (!1),λp4 au=>?_⟩;obtain⟨H4,e4,f4,h4⟩:=JV (xs:=IH [32]) au;rw[show _L.Hu H3 p4 (.lst [V.int 32])=H4 from e4];have hdl:(wd t).1.length<=20000:=!5
  have big:(80000:Nat)<=Ac:=!1
  refine⟨_,f4 _ _ pT (!2),_,h4,by rw[Hw,Hw,Am];nofun,λp5 mr=>?_⟩;rw[<-Iq];obtain⟨H5,e5,f5,h5⟩:=JV (xs:=IH ((wd t).1++[32])) mr;rw[e5];have h5c:=(h3.Vx f4).Vx f5;have qJ:=(nD.trans (f4.of0 (W:=[c]))).trans (f5.of0 (W:=[c]));refine⟨c,Y,_,rfl,h5c,λH6 p6 gw mu h6 f6=>?_⟩;have h56:H6 p5=U (.lst (IH ((wd t).1++[32]))):=f6 _ _ h5 (by
   obtain⟨lN,ao',p',O,_⟩:=h5c.ex;simpa using OY h5 O (by intro z;cases z))
  have hw3:(wd (d::r)).1.length+(wd (d::r)).2.length=(d::r).length:=by
   have:=congrArg A5 (MB (d::r));rw[AG]at this;exact this
  have F:(wd t).1.length+(32::d::r).length=t.length:=vO;refine⟨_,h56,_,mu,?_,λp7 S=>?_⟩
  .rw[Hw,Hw,AG,Am];simp only[AN]at F hw3
   nofun
  rw[<-Iq];have f16:=qJ.trans f6;refine fin ((wd t).1++[32]++(wd (d::r)).1) (wd (d::r)).2 _ p7 (f16.trans (Fr.new S)) (h6.free f16 S) Hq (h6.new S) ?_ ?_ ?_
  .simp only[AG,Am];simp only[AN]at F hw3
   nofun
  .intro x hx;obtain z|z:=AQ.mp hx
   .obtain z|z:=AQ.mp z
    .exact hwb x z
    have:x=32:=by simpa using z
    nofun
   exact h3.sub x (by rw[<-MB (d::r)];exact Bl _ z)
  unfold jK;rw[hw2,AI ⟨B,rfl,by simpa using cd⟩];rw[show(32::d::r).drop 1=d::r from rfl];rw[show(wd t).1++32::(wd (d::r)).1=(wd t).1++[32]++(wd (d::r)).1 by simp]
end
end _S
namespace _L
open PySem PySem.Spec PyProof.Rows
section
variable{prog:BB}{w:BJ}{A:CA}{E:Value->AZ->Prop}{s:AZ}
def km(d:AK)(nd:(d==CM)=AJ):MeetsIn prog w (Builtin.«dict.items» ⟨[.ref d],[]⟩) (λz R s=>s.TypeIs (.ref d) "dict"∧
  R (.ok (.ret (.ref s.heap.objs.size))) {s with heap:=s.heap.push {cls:=.type "dict_items",data:=.fields #[.ref d]}}):=.of_wp λA R s ⟨ty,h⟩=>by
 unfold Builtin.«dict.items»;refine AL ?_
 unfold AAm;refine AL (wpAny_notOrdered_dict ty (Ab ?_));show Ar _ _ (Fw d>>= λz=>_) _ _ _;unfold Fw;rw[nd,AD AH];exact AL (Ab (AL (DP (Ab ⟨_,rfl,h⟩))))
def ko(B:s.heap.IsItemsView v d)(D:s.heap.get? d=U od)(hd:od.data=.dict G I)(q:Q (.ref s.heap.objs.size) {s with heap:=s.heap.push {cls:=.type "dict_itemiterator",data:=.fields #[.none,.bool AJ,.ref d,.int 0 0,.int G.size 0,.int I 0,.none,.none]}}):
  Ar (Ay prog w) A (pyIter (.ref v)) Q E s:=by
 obtain⟨J,e1,_,e2⟩:=id B;refine wpAny_pyIter_slot B.typeIs Fj (C5 Fj B.typeIs F.entry_dict_items_iter ?_ (F.args_dict_items_iter_1 _));unfold Builtin.«dict_items.__iter__»;refine AL (Ab (AL ?_));unfold Hf;refine AL (CU e1 e2 (x:=.ref d) rfl (Ab (AL ?_)));unfold G4;refine AL (D5 D hd (AL (Fp D hd ?_)));simp only[show DL "dict_itemiterator"=AF by decide,BS];refine DP (Ab ⟨_,rfl,"dict_itemiterator",_,⟨_,Heap.get?_push_size _ rfl,rfl⟩,F.slot_dict_itemiterator_next.lookup,?_⟩)
  (by simp only[sizeOk,Dt,Aq,AG,AN,Cr,CV];decide)
 simpa[rawInt,Dt]using q
def kn(J:IsItemIter s.heap B d i n D k0 O)(ho:s.heap.get? d=U od)(hd:od.data=.dict S D)(hn:S.size=n)(he:S[i]? =U en)(q: ∀g,IsItemIterOut g B d (i+1) n D en.key en.val s.heap.objs.size->g.get? s.heap.objs.size=U {cls:=.type "tuple",data:=.seq #[en.key,en.val]}->(∀b o,b≠B->s.heap.get? b=U o->g.get? b=U o)→
   Q (U (.ref s.heap.objs.size)) {s with heap:=g}):Ar (Ay prog w) A (pyNext (.ref B)) Q E s:=by
 obtain⟨G,g,dr,tk,os⟩:=s;have ty:Hl ⟨G,g,dr,tk,os⟩ (.ref B) "dict_itemiterator":=⟨_,J,rfl⟩;unfold pyNext;refine AL (FJ (wpAny_callSpecial?_slot (name:=BK "__next__") ty CZ (C5 CZ ty EY ?_ (EK _))));refine AL (Ab (AL (AL ?_)));refine AL ?_
 first|refine CK ty (Ab (AL (E4 J rfl ?_)))|refine Cm ty (Ab (AL (E4 J rfl ?_)))
 rw[show DL "dict_itemiterator"=AF by decide,AI rfl];show Ar _ _ (if(BF d==DF)=AF then _ else _) _ _ _;rw[show(BF d==DF)=AJ from rfl,AD AH];refine AL (Ab (AL (D5 ho hd ?_)));rw[AD (by simp[hn])];refine AL (Ab (AL (Fp ho hd ?_)));rw[AD (!2)];refine Ab ?_
 obtain⟨il,ie⟩:=Array.getElem?_eq_some_iff.mp he;simp only[show¬((i:Int)<0)from by nofun,BX,Bw,Array.getElem?_eq_getElem il];refine AL (AL ?_);first|refine CK ty (Ab (AL (DD ty ?_)))|refine Cm ty (Ab (AL (DD ty ?_)))
 show Ar _ _ (setField (.ref B) 3 (rawInt ((i:Int)+1))>>= λz=>_) _ _ _;refine AL (Bn J (!2) λI Y Z=>?_);replace Z:E2 B G I:=Z;replace Y:IsItemIter I B d (i+1) n D k0 O:=by
  unfold IsItemIter;rw[show((i+1:Nat):Int)=(i:Int)+1 by nofun];simpa[rawInt]using Y
 have L:Hl ⟨I,g,dr,tk,os⟩ (.ref B) "dict_itemiterator":=⟨_,Y,rfl⟩;refine AL (GG (AL (DD L (AL (DD L ?_)))));show Ar _ _ (EJ (.ref B) 6 S[i].key S[i].val) _ _ _;rw[ie];unfold EJ;refine AL (HJ ?_);have M:IsItemIter (I.push {cls:=.type "tuple",data:=.seq #[en.key,en.val]}) B d (i+1) n D k0 O:=Heap.get?_push_of_some _ Y;have z1:I.objs.size=G.objs.size:=Z.1;have lt:B<G.objs.size:=Aj J;have t2:(I.push {cls:=.type "tuple",data:=.seq #[en.key,en.val]}).get? G.objs.size=U {cls:=.type "tuple",data:=.seq #[en.key,en.val]}:=by rw[<-z1];exact Heap.get?_push_size _ rfl
 have k2: ∀b o,b≠B->G.get? b=U o->(I.push {cls:=.type "tuple",data:=.seq #[en.key,en.val]}).get? b=U o:=λb o c e=>Heap.get?_push_of_some _ (Z.extBut b o c e);generalize I.push {cls:=.type "tuple",data:=.seq #[en.key,en.val]}=g2 at M t2 k2;show Ar _ _ (Ds (.ref B)>>= λz=>_) _ _ ⟨g2,g,dr,tk,os⟩;rw[z1];refine AL ?_
 unfold Ds;refine AL (CU M rfl (x:=.none) rfl (Ab ?_));simp only[BS];refine AL (CU M rfl (x:=k0) rfl (AL (CU M rfl (x:=O) rfl (AL (Bn M (!2) λg3 i3 s3=>?_)))));replace i3:IsItemIter g3 B d (i+1) n D en.key O:=i3;refine AL (Bn i3 (!2) λg4 i4 s4=>?_);replace i4:IsItemIter g4 B d (i+1) n D en.key en.val:=i4;refine AL (Bn i4 (!2) λg5 i5 s5=>?_);replace i5:IsItemIterOut g5 B d (i+1) n D en.key en.val G.objs.size:=i5;refine AL (Bn i5 (!2) λg6 i6 s6=>?_);replace i6:IsItemIterOut g6 B d (i+1) n D en.key en.val G.objs.size:=i6;have up: ∀b o,b≠B->g2.get? b=U o->g6.get? b=U o:=λb o c e=>Di s6 b o c (Di s5 b o c (Di s4 b o c (Di s3 b o c e)));exact AL (FE (Ab (Ab ⟨_,rfl,Ab (q g6 i6 (up _ _ (Cu lt) t2) λb o c e=>up b o c (k2 b o c e))⟩)))
def pL(J:A.handled=AB)(B:IsItemIter s.heap D d i n L k0 M)(G:s.heap.get? d=U od)(hd:od.data=.dict I L)(hn:I.size=n)(O:n<=i)(q: ∀g,Heap.ExtBut D s.heap g->Q AB {s with heap:=g}):Ar (Ay prog w) A (pyNext (.ref D)) Q E s:=by
 have ty:s.TypeIs (.ref D) "dict_itemiterator":=⟨_,B,rfl⟩;unfold pyNext;refine AL (FJ (wpAny_callSpecial?_slot (name:=BK "__next__") ty CZ (C5 CZ ty EY ?_ (EK _))));refine AL (Ab (AL (AL ?_)));refine AL ?_
 first|refine CK ty (Ab (AL (E4 B rfl ?_)))|refine Cm ty (Ab (AL (E4 B rfl ?_)))
 rw[show DL "dict_itemiterator"=AF by decide,AI rfl];show Ar _ _ (if(BF d==DF)=AF then _ else _) _ _ _;rw[show(BF d==DF)=AJ from rfl,AD AH];refine AL (Ab (AL (D5 G hd ?_)));rw[AD (by simp[hn])];refine AL (Ab (AL (Fp G hd ?_)));rw[AD (!2)];refine Ab ?_
 simp only[show¬((i:Int)<0)from by nofun,BX,Bw,Array.getElem?_eq_none (show I.size<=i by nofun)];refine AL (AL ?_);first|refine CK ty (Ab ?_)|refine Cm ty (Ab ?_)
 show Ar _ _ (setField (.ref D) 2 .none>>= λz=>_) _ _ _;refine AL (wpAny_setField B rfl (!2) ?_);show Ar _ _ (newExc (.type "StopIteration") []>>= λz=>_) _ _ _;refine AL ?_
 simp only[newExc,newTuple];refine AL (DP (AL (m:=firstArgMember _ _) (wpAny_of_eq (a:=DF) (by first|rfl|(simp only[firstArgMember];rfl)) (DP ?_ (by size_fits)))) (by size_fits));simp only[raiseNew];refine AL (wpAny_handled ?_);rw[show A.in1.handled=AB from J];refine AL (Ab (wpAny_throw ?_));refine AL (FO (T:="StopIteration") (b:=AF) ?_ HN (Ab (q _ (((AAl ..).extBut.push _).push _))));exact⟨_,Heap.get?_push_size _ rfl,rfl⟩
def oP:typeLookup (.type "list_reverseiterator") "__len__"=pure AB:=by rw[G9,Fu];kernel_rfl
def kC:typeLookup (.type "list_reverseiterator") "__length_hint__"=pure (U (.builtin "list_reverseiterator.__length_hint__")):=by rw[G9,Fu];kernel_rfl
def j7:isSubtype (.type "list_reverseiterator") (.type "list_reverseiterator")=pure AF:=by rw[isSubtype_type];kernel_rfl
def j8(B:s.heap.IsRevIter I l i)(q:Q AJ s):Ar (Ay prog w) A (E3 (.ref I)) Q E s:=by
 unfold E3;refine AL (Fn B.typeIs oP ?_);show Ar _ _ (specialOf (BF I) (BK "__length_hint__")>>= _) _ _ _;refine AL (Fn B.typeIs kC ?_);have hs:splitId "list_reverseiterator.__length_hint__"=U ("list_reverseiterator","__length_hint__"):=by kernel_rfl
 show 4;rw[hs];show 4;refine AL (FO (T:="list_reverseiterator") (b:=AF) B.typeIs j7 ?_);simp only[BO,Ai,BX];rw[AI (!0),AD (!1)];exact Ab q
def b9{I l S:AK}{items:Array Value}{R:Result->AZ->Prop}(J:A.handled=AB)(B:s.heap.IsRevIter I l ((items.size:Int)-1))(L:s.heap.IsList l items)(M:items.size<=Ac)(ne:l≠I)(D:S≠I)(O:S≠l){c0:Nat}
  (Y:s.heap.get? S=U {cls:=.type "list",data:=.seq #[] c0})
  (Z: ∀s' acc c,Moved [S,I] (λa b=>b=a) s s'->s'.heap.get? S=U {cls:=.type "list",dict:=AB,data:=.seq acc c,slots:= #[]}->ItemsOf (λi v=>items[items.size-1-i]? =U v) acc items.size->R (.ok (.ret .none)) s'):
  Ar (Ay prog w) A.in1 (DU (.ref S) (.ref I) .none) (λfin s'=>match fin with|.done f=>R (.ok f) s'|.again G=>G.quiet=AF/\codeAny (Ay prog w) A G R s') (λe s'=>R (.error e) s') s:=by
 unfold DU;refine AL (wpAny_typeOf B.typeIs ?_);have h1:FN (.ref S) (.ref I)=AJ:=by simp[FN,D]
 simp only[h1,show(C0 "list_reverseiterator"==C0 "list")=AJ by decide,show(C0 "list_reverseiterator"==C0 "tuple")=AJ by decide,B8,Ai,BX];refine AL (wpAny_pyIter_revIter B (AL (GG (j8 B ?_))));rw[AD (!0)];have W:=(Walks.listRev (prog:=prog) (w:=w) (A:=A.in1) J I l ne items).toS;refine Ab ⟨plainId_quiet F.plain_extend_loop _,codeAny_extend_loopS W M S (by simp[D,O]) .none items.size 0 s #[] c0 (Gf _) (Ax _) ⟨Ax _,?_,L⟩ Y (ItemsOf.nil _) Z⟩;simpa using B
def j9(L:A.handled=AB)(M:s.heap.IsRevIter I l ((items.size:Int)-1))(O:s.heap.IsList l items)(S:items.size<=Ac)(ne:l≠I)(q: ∀s' acc c,Moved [s.heap.objs.size,I] (λa b=>b=a) {s with heap:=s.heap.push {cls:=.type "list",data:=.seq #[]}} s'->s'.heap.get? s.heap.objs.size=U {cls:=.type "list",dict:=AB,data:=.seq acc c,slots:= #[]}->ItemsOf (λi v=>items[items.size-1-i]? =U v) acc items.size->Q (.ref s.heap.objs.size) s'):
  Ar (Ay prog w) A (call (.type "list") [.ref I]) Q E s:=by
 obtain⟨Y,ei,Z⟩:=id M;obtain⟨ol,G,rl⟩:=id O;have li:I<s.heap.objs.size:=Aj ei;have ll:l<s.heap.objs.size:=Aj G;refine callType_codes (Q₁:=λobj J=>obj=.ref s.heap.objs.size/\J={s with heap:=s.heap.push {cls:=.type "list",data:=.seq #[]}}) F.called_list (F.typeCall_list_1 _) F.entry_list_init (code_list_new _ ⟨rfl,rfl⟩) ?_
 rintro obj J ⟨rfl,rfl⟩;have B:(s.heap.push {cls:=.type "list",data:=.seq #[]}).get? s.heap.objs.size=U {cls:=.type "list",data:=.seq #[]}:=Heap.get?_push_size _ rfl;refine⟨⟨_,B,rfl⟩,F.args_list_init_2 _ _,?_⟩;show Ar _ _ (do let old<-Fm (.ref s.heap.objs.size);AAH (.ref s.heap.objs.size) (λy=> #[]);letGo old.toList.reverse;DU (.ref s.heap.objs.size) (.ref I) .none) _ _ _;refine AL ?_
 unfold Fm;refine AL (DV B rfl (Ab ?_));show Ar _ _ (updateSeq s.heap.objs.size (λy=> #[])>>= λy=>letGo (#[]:Array Value).toList.reverse>>= λy=>_) _ _ _;refine AL (wpAny_updateSeq B rfl (AL (FE ?_)));have D:=Heap.get?_update_self (GQ (λy=>(#[]:Array Value))) B rfl;have kp: ∀b o,b≠s.heap.objs.size->(s.heap.push {cls:=.type "list",data:=.seq #[]}).get? b=U o->((s.heap.push {cls:=.type "list",data:=.seq #[]}).update s.heap.objs.size (GQ (λy=>(#[]:Array Value)))).get? b=U o:=λb o c e=>(Heap.get?_update_other _ _ (Ne.symm c)).trans e;refine b9 (items:=items) L ⟨Y,kp _ _ (BH li) (Heap.get?_push_of_some _ ei),Z⟩ ⟨ol,kp _ _ (BH ll) (Heap.get?_push_of_some _ G),rl⟩ S ne (Cu li) (Cu ll) D λs' acc c m e r=>⟨rfl,q s' acc c ?_ e r⟩;exact⟨λb o c e=>m.heap b o c (kp b o (λz=>c (by rw[z];simp)) e),m.gens,m.drawn,m.os,m.toks⟩
end
def ug(d:AK)(o:Obj)(B:List (List Key×V)):It:=
 ⟨λi H=>H d=U (.MZ o (.dT B))/\i<B.length,λi H x D=> ∃T k v q,B[i]? =U (k,v)/\x=.ref T/\H T=AB/\H q=U (.tup (k.map kV))/\D=Hu H T (.tup [.ref q,v]),λi H=>H d=U (.MZ o (.dT B))/\B.length<=i⟩
def Hs.qD{F:St}(I:Hs X Ho F H s)(h:H d=U (.MZ o (.dT B))):
  (d==CM)=AJ/\s.heap.get? d=U o/\o.ExactDict/\ ∃(D:Array Cc)(E:Nat),o.data=.dict D E/\D.size=B.length∧
   ∀(i:Nat)(k:List Key)(v:V),B[i]? =U (k,v)-> ∃(en:Cc)(q:AK),D[i]? =U en/\en.key=.ref q/\H q=U (.tup (k.map kV))/\IU v en.val:=by
 obtain⟨e1,z,nd,xs,pr,O,D,E,e2,x,G,en,_⟩:=I.JM d _ h;show 6 e1 e2;refine⟨nd,e1,x,D,E,G,(HA en).trans (Paired.length pr).symm,λi k v e=>?_⟩;obtain⟨b,J,c1,L,M⟩:=ZT pr e;have q:=entry_at en i;rw[J]at q;exact⟨_,b.2.1,q,rfl,L,M⟩
theorem Xa{K:PySem.W.Frag}(it:AK)(hod:o.data=.dict es ep):
  Turn P w K (.Tuple elts kk Y7) (ug d o LZ) [it] it (λi h=> ∃k0 v0,IsItemIter h it d i LZ.length ep k0 v0)where
 mem:=AV.2 rfl
 obj:=λi h st b hb=>by
  obtain⟨k0,v0,e⟩:=st;rw[AV.1 hb];exact⟨_,e,λv z=>nomatch z⟩
 keep:=λi h h' st k=>let⟨k0,v0,e⟩:=st;⟨k0,v0,k it (AV.2 rfl) _ e⟩
 item:=by
  rintro X rfl rfl rfl hc i Ho s σ H E I hf ⟨k0,v0,st⟩ ⟨hd,hi⟩;obtain⟨nd,gd,x,es2,ep2,dt,sz,en⟩:=I.qD hd;obtain⟨rfl,rfl⟩:=bI hod dt;obtain⟨⟨k,v⟩,va⟩: ∃p,LZ[i]? =U p:=⟨LZ[i],List.getElem?_eq_getElem hi⟩
  obtain⟨e,q,e1,e2,e3,e4⟩:=en i k v va;have lt:it<s.heap.objs.size:=Aj st;refine kn st gd dt sz e1 λg i1 t1 k1=>⟨_,rfl,wpAny_letOwnedTupleGo_items (s:={s with heap:=g}) i1 λg2 i2 sb=>?_⟩;have t2:g2.get? s.heap.objs.size=U {cls:=.type "tuple",data:=.seq #[e.key,e.val]}:=(sb.2 _ (Cu lt)).trans t1;have new:Jp X.prog X.w (Hu H s.heap.objs.size (.tup [.ref q,v])) g2 s.heap.objs.size (.tup [.ref q,v]):=⟨by show 2<=Ac;decide,[e.key,e.val],.cons e2 (.cons e4 .nil),⟨_,t2,rfl,_,rfl⟩⟩;have I1:Hs X Ho σ (Hu H s.heap.objs.size (.tup [.ref q,v])) {s with heap:=g2}:=
   I.O6 (t':=s.toks) (ch:=[it]) (λb ob hb y=>(sb.2 b (!8 hb)).trans (k1 b ob (!8 hb) y)) hf (AR _) new
  refine⟨.ref s.heap.objs.size,_,I1,rfl,⟨_,k,v,q,va,rfl,I.JM.fresh (AR _),e3,rfl⟩,⟨_,_,i2⟩,λb hb=>?_⟩;rw[AV.1 hb,Hv (BH lt)];exact(hf it (AV.2 rfl)).1
 done:=by
  rintro X rfl rfl rfl hc i Ho s σ H E I hf ⟨k0,v0,st⟩ ⟨hd,hi⟩;obtain⟨f0,f1,f2,f3,f4,f5⟩:=hf it (AV.2 rfl);obtain⟨nd,gd,x,es2,ep2,dt,sz,en⟩:=I.qD hd;obtain⟨rfl,rfl⟩:=bI hod dt;exact pL (I.ok.hd hc) st gd dt sz hi λg eb=>⟨rfl,I.turned (t':=s.toks) (λb ob hb y=>eb b ob hb y) f0 f1 f3 f4 f5⟩
 self:=λA i s Q E st h=>let⟨_,_,e⟩:=st;PySem.W.kcp_self e h
def kv(E:TE):TI:=λF H R=>E F H λx D=> ∃d o B,x=.ref d/\D d=U (.MZ o (.dT B))/\R (ug d o B) D
def ek(ta:TA):TE:=λD H Q=>ta D H λvs B=> ∃a xs,vs=[.ref a]/\B a=U (.lst xs)/\ ∀p,B p=AB->Q (.ref p) (Hu B p (.lst xs.reverse))
def eU(r:IM xs B)(h:ItemsOf (λi v=>B.toArray[B.toArray.size-1-i]? =U v) acc B.toArray.size):IM xs.reverse acc.toList:=by
 have hsz:acc.size=B.length:=h.1.trans (Aq ..);have e:acc.toList=B.reverse:=by
  refine List.ext_getElem? λi=>?_;by_cases D:i<B.length
  .have E:i<acc.size:=by rw[h.1];simpa using D
   have F:=h.2 i acc[i] (by simp[E]);rw[Array.getElem?_toList,Array.getElem?_eq_getElem E,List.getElem?_reverse D];simp only[Aq,List.getElem?_toArray]at F;exact F.symm
  rw[List.getElem?_eq_none (l:=acc.toList) (by rw[Ew,hsz];nofun),List.getElem?_eq_none (l:=B.reverse) (by simp;nofun)]
 rw[e];clear h e hsz acc
 induction r with
 |nil=>exact .nil
 |cons a b G=>
  rw[DR,DR];exact IM.append G (.cons a .nil)
section
variable{X:Cx}{e:Expr}{td:TE}{apos M0:Pos}
def cF(O:PE X e td)(B:autoParam (attributeBase e "items" X.env (eval e X.env)=eval e X.env) KJ)(D:autoParam ((apos.endLine==M0.line)=AF) KJ):PI X (.Tuple elts kk G) (.Call (.Attribute e "items" apos) [] [] M0) (kv td):=by
 intro Ho s J H R I h;refine wpAny_Call_method (T:="dict") (id:="dict.items") B rfl D F.plainAttrs_dict Gn F.type_dict_items (Jv (O Ho s J H _ I h) λu E ⟨x,S,L,Y,d,o,Z,ex,hd,q⟩=>?_);subst ex;obtain rfl:u=BF d:=Y;obtain⟨nd,gd,xd,es,ep,M,sz,en⟩:=L.qD hd;have ty:E.TypeIs (.ref d) "dict":=⟨o,gd,xd.1⟩;refine⟨ty,(λo2 e2=>by cases e2;exact⟨o,gd,xd.2.1⟩),?_⟩;have I2:Hs X Ho J S {E with heap:=E.heap.push {cls:=.type "dict_items",data:=.fields #[.ref d]}}:=L.kept (t':=E.toks) λb ob q=>Heap.get?_push_of_some _ q;show Ar _ _ (callWith M0 (.builtin "dict.items") [.ref d] [] []) _ X.xe E;refine method_meetsIn Gn F.entry_dict_items rfl (PySem.evalArgs_none ⟨rfl,ty,F.args_dict_items_1 _,_,km d nd,ty,?_⟩);refine ko (d:=d) ⟨_,Heap.get?_push_size _ rfl,rfl,rfl⟩ (Heap.get?_push_of_some _ gd) M ?_
 refine ZQ (tk:=E.toks) I2 _ (Xa _ M) ⟨.none,.none,?_⟩ q;rw[sz];exact Heap.get?_push_size _ rfl
def UT:Bt "reversed"=U (.type "reversed"):=!0
def ZS(L:Gl X "list")(M:X.mg "list"=AB)(O:Gl X "reversed")(S:X.mg "reversed"=AB)(hc:X.calm=AF)(ha:PA X [e] ta)(F:autoParam (BC [.Call (.Name "reversed" Y) [e] [] B] X.env=[(AJ,eval (.Call (.Name "reversed" Y) [e] [] B) X.env)]) KJ)(hs:autoParam (BC [e] X.env=[(AJ,eval e X.env)]) KJ):PE X (.Call (.Name "list" p1) [.Call (.Name "reversed" Y) [e] [] B] [] Z) (ek ta):=by
 intro Ho s σ H Q I h;refine Call_ (Od I L M _S.UU (Bv ?_ F rfl));rw[F];show Ar _ _ (spliced ((AJ,eval (.Call (.Name "reversed" Y) [e] [] B) X.env)::[])) _ _ s;refine GX (Call_ (Od I O S UT (Bv (Jv (ha B Ho s σ H _ I h) λus E ⟨vs,H1,G,r1,a,xs,ex,hq,q⟩=>?_) hs rfl)));subst ex;obtain⟨u,rfl,rx⟩:=vals1 r1;obtain rfl:u=BF a:=rx;obtain⟨D,rv,pl,hz⟩:=G.list (.inl (.inl hq));have hl:=rv.length;refine call_reversed_list pl.isList (Gr ?_);obtain⟨oa,ea,ra⟩:=pl.isList;have la:a<E.heap.objs.size:=Aj ea;refine j9 (items:=D.toArray) (G.ok.hd hc) ⟨_,Heap.get?_push_size _ rfl,rfl,rfl⟩ ⟨oa,Heap.get?_push_of_some _ ea,ra⟩ (by simp only[Aq];lia) (BH la) λs' acc c m e r=>?_;have I2:Hs X Ho σ H1 {E with heap:=E.heap.push (revObj a ((D.toArray.size:Int)-1))}:=G.kept (t':=E.toks) λb ob q=>Heap.get?_push_of_some _ q;obtain⟨h',g',d',t',o'⟩:=s';obtain⟨m1,m2,m3,m4,m5⟩:=m;dsimp only at m1 m2 m3 m4 e;subst m2 m3 m4;have sz:(E.heap.push (revObj a ((D.toArray.size:Int)-1))).objs.size=E.heap.objs.size+1:=BM ..;refine⟨.ref _,_,I2.O6 (t':=t') (h':=h') (ch:=[E.heap.objs.size]) (T:=(E.heap.push (revObj a ((D.toArray.size:Int)-1))).objs.size) (ob:=.lst xs.reverse) (λb ob J y=>?_) (λb J=>?_) (AR _) ?_,rfl,q _ (I2.JM.fresh (AR _))⟩
 .have l1:=Aj y;rw[sz]at l1;refine m1 b ob ?_ (Heap.get?_push_of_some _ y)
  simp at J⊢;exact⟨BH l1,J⟩
 .rw[AV.1 J];exact G.W2 (AR _) (G.JM.fresh (AR _))
 exact⟨by rw[GB];exact hz,acc.toList,c,eU rv r,by simpa using e⟩
def dZ:O3 X (.builtin "len") (λxs H Q=> ∃a B,xs=[V.ref a]/\H a=U (.dT B)/\Q (.int B.length) H):=by
 intro Ho s J H xs us Q I r h;obtain⟨a,B,rfl,ha,q⟩:=h;obtain⟨u,rfl,E⟩:=vals1 r;cases E;obtain⟨z,nd,L,pr,o,D,M,e1,x,G,en,_⟩:=I.JM a _ ha;have ty:s.TypeIs (.ref a) "dict":=⟨o,e1,x.1⟩;have sz:D.size=B.length:=(HA en).trans (Paired.length pr).symm;refine Calls.call_function_entry kind_len plain_len entry_len (args_len1 _) ?_
 unfold Builtin.«len»;refine AL (m:=oneArg "len" _) (Ab (AL (m:=callSpecial? (.ref a) (BK "__len__")) (wpAny_callSpecial?_slot (name:=BK "__len__") ty HI (C5 HI ty F.entry_dict_len ?_ (F.args_dict_len_1 _)))));show Ar _ _ (dictSize a>>= λy=>_) _ _ _;unfold dictSize;refine AL (AL (D5 e1 G (Ab ?_)));show Ar _ _ (Hg a>>= λy=>_) _ _ _;refine AL (wpAny_pendingCount_other nd (wpAny_ret_mkInt ?_));rw[show((D.size:Nat):Int)+((0:Nat):Int)=(B.length:Int)by lia];refine AL (GG (Ab (AL (FE ?_))));have O:(B.length:Int)<2^63:=by have:=CV;lia
 show Ar _ _ (if((B.length:Nat):Int)<0 then _ else _) _ _ _;rw[AD (!3)];show Ar _ _ (if((B.length:Nat):Int)≥2^63 then _ else _) _ _ _;rw[AD (!3)];exact AL (wpAny_mkInt (Ab ⟨_,rfl,.int B.length,H,I.tok _,⟨_,rfl⟩,q⟩))
end
def zT{M:St->Hp->Prop}{B:(St->Hp->Prop)->V->St->Hp->Prop}(F:Nat->St->Hp->Prop)(S:F 0 E H)(Y: ∀i E H,i<=D.length->F i E H->H d=U (.MZ o (.dT D)))(hs: ∀i k v E H T q,D[i]? =U (k,v)->F i E H->H T=AB->H q=U (.tup (k.map kV))->B (F (i+1)) (.ref T) E (Hu H T (.tup [.ref q,v])))(hd: ∀E H,F D.length E H->M E H):
  ∃W:Nat->Nat->St->Hp->Prop,(∃m,W 0 m E H)/\ ∀i m E H,W i m E H->((ug d o D).stop i H/\M E H)\/((ug d o D).go i H/\ ∃N:St->Hp->Prop,(∀G I,N G I-> ∃O,O<m/\W (i+1) O G I)/\ ∀x I,(ug d o D).eE i H x I->B N x E I):=by
 refine⟨λi m E H=>m=D.length-i/\i<=D.length/\F i E H,⟨_,rfl,Ax _,S⟩,?_⟩;rintro i m E H ⟨rfl,Z,p⟩;have q:=Y i E H Z p;obtain J|tZ:=Cv i D.length
 .refine .inr ⟨⟨q,J⟩,F (i+1),λG I p'=>⟨D.length-(i+1),!4,rfl,J,p'⟩,?_⟩;rintro x I ⟨T,k,v,b,L,rfl,hT,hb,rfl⟩;exact hs i k v E H T b L p hT hb
 obtain rfl:i=D.length:=!4
 exact .inl ⟨⟨q,AR _⟩,hd E H p⟩
end _L
local macro_rules
 |`(tactic|simp! [$xs,*])=>Z_ "_L.pI _L.rb _L.wW _L.jm _L.ro _L.ek _L.kv _L.xF _L.a9 _L.qA _L.uG _L.xw _L.sh _L.xt _L.si _L.xu _L.iZs _L.vB _L.wI _L.wQ _L.wipe _L.xI _L.xH _L.tFs _L.xK _L.kD _S.cxK _S.vG _L.V.str.injEq if_true" xs.getElems "'only 1"
namespace _S
open PySem PySem.Spec PyProof.Rows _L
section
variable{P:BB}{w:BJ}{K:PySem.W.Frag}{mg:Str->Option Value}{base:Heap}{A:JL}
def cT(T:Txt K mg A):mg "Table"=U (.ref A.table):=let⟨_,_,_,h,_⟩:=T.YF;h
def cA(T:Txt K mg A):mg "Array"=U (.ref A.array):=let⟨_,_,_,h,_⟩:=T.YG;h
def cL(L:Kf K mg A):mg "Leaf"=U (.ref A.leaf):=by
 obtain⟨f,oc,D,kV,doc,pm,Kg,ct,od,an,Xw,t,E,B,hm,_⟩:=L;exact hm
def oV(B:Gl X x)(hm:X.mg x=AB)(D:Bt x=U (.type n))(hn:autoParam (x≠"__name__") Li)(hd:autoParam ((x==("__debug__":Str))=AJ) Li):PE X (.Name x pos) (tC (.ty n)):=by
 intro Ho s E H Q I h;exact Od I B hm D ⟨.ty n,H,I,rfl,h⟩ hn hd
structure eB(K:PySem.W.Frag)(C:AK):Prop where
 cl:Uo K C
 ha:PySem.W.findIn K (.ref C) "__class__"=U (U (.builtin "object.__class__"))
 hn:PySem.W.specialIn K (.builtin "object.__class__") "__get__"=U (U (.builtin "getset_descriptor.__get__"))
 Zf:PySem.W.takesIn K (.builtin "object.__class__")=U AF
 hm:PySem.W.mroIn K C (.type "object")=U AF
def eB.ty(h:eB K C)(e:H a=U (.ins C dx fs)):QL K H (.ref a) (.ref C):=.ins e h.cl h.ha h.hn h.Zf h.hm
structure JH(K:PySem.W.Frag)(A:JL):Prop where
 leaf:eB K A.leaf
 array:eB K A.array
 table:eB K A.table
 lt:PySem.W.kitOne K (.ref A.leaf) (.ref A.table)=U AJ
 at_:PySem.W.kitOne K (.ref A.array) (.ref A.table)=U AJ
 la:PySem.W.kitOne K (.ref A.leaf) (.ref A.array)=U AJ
 ta:PySem.W.kitOne K (.ref A.table) (.ref A.array)=U AJ
 al:PySem.W.kitOne K (.ref A.array) (.ref A.leaf)=U AJ
 tl:PySem.W.kitOne K (.ref A.table) (.ref A.leaf)=U AJ
 ll:PySem.W.kitOne K (.ref A.leaf) (.type "list")=U AJ
 al_:PySem.W.kitOne K (.ref A.array) (.type "list")=U AJ
 tl_:PySem.W.kitOne K (.ref A.table) (.type "list")=U AJ
def Kw(K:PySem.W.Frag)(C:AK):PySem.W.kitOne K (.ref C) (.ref C)=U AF:=by
 unfold PySem.W.kitOne;rw[AI (!2)]
def gh(K:PySem.W.Frag):PySem.W.kitOne K (.type "list") (.type "list")=U AF:=by
 unfold PySem.W.kitOne;rw[AI (!2)]
inductive rk (A:JL)(vs:List V)(H:Hp)(Q:VK)(E:XK):Prop
 |mk (c:Nat)(_:vs=[.int (c:Int)])(_:(∀k:Nat,gf c=U k->Q (.int (k:Int)) H))(_:(gf c=AB->E (.ref A.wi) AB H))
def qZ(T:Txt K mg A): !20 1 "length_by_first" ["octet"] (rk A):=by
 show 8 ["octet"] 15;obtain⟨c,rfl,B,D⟩:=h;refine⟨_,(Gy (IS (IB Kt (pv 0) Ht) (Hm (Hy Ht)) IC)
   (Gy (IS (MH J6 Kt Ht (pv 0) Ht) (Hm (Hy Ht)) IC)
   (Gy (IS (MH J6 Kt Ht (pv 0) Ht) (Hm (Hy Ht)) IC)
   (Gy (IS (MH J6 Kt Ht (pv 0) Ht) (Hm (Hy Ht)) IC)
   (Hm (JE T.Ia rfl)))))),?_⟩
 simp![];unfold gf at B D;by_cases E:c<128
 .rw[AI E]at B;refine dT (show(c:Int)<128 by nofun) ?_
  exact B 1 rfl
 rw[AD E]at B D;refine dF (show¬(c:Int)<128 by nofun) ?_
 by_cases J:c<192
 .have e1:decide ((192:Int)<=(c:Int))=AJ:=AM (!5);have e2:decide ((224:Int)<=(c:Int))=AJ:=AM (!5);have e3:decide ((240:Int)<=(c:Int))=AJ:=AM (!5);rw[e1,e2,e3];refine Ol ?_
  exact D (by rw[AD (!5),AD (!5),AD (!5)])
 have e1:decide ((192:Int)<=(c:Int))=AF:=Af (!5);refine iT e1 ?_
 by_cases F:c<224
 .refine dT (show(c:Int)<224 by nofun) ?_
  exact B 2 (AI ⟨!5,F⟩)
 have e2:decide ((224:Int)<=(c:Int))=AF:=Af (!5);rw[AM (show¬(c:Int)<224 by nofun),AD AH,e2,AI rfl];rw[AD (!5)]at B D;by_cases G:c<240
 .refine dT (show(c:Int)<240 by nofun) ?_
  exact B 3 (AI ⟨!5,G⟩)
 have e3:decide ((240:Int)<=(c:Int))=AF:=Af (!5);rw[AM (show¬(c:Int)<240 by nofun),AD AH,e3,AI rfl];rw[AD (!5)]at B D;by_cases I:c<248
 .refine dT (show(c:Int)<248 by nofun) ?_
  exact B 4 (AI ⟨!5,I⟩)
 refine dF (show¬(c:Int)<248 by nofun) ?_
 exact D (AD (!5))
inductive mP (vs:List V)(H:Hp)(Q:VK)(E:XK):Prop
 |mk (a:AK)(t:List Nat)(_:vs=[.ref a])(_:H a=U (.lst (IH t)))(_:1<=t.length)(_:t.length<=4)(_: ∀H',Fr [] H H'->Q (.int (OX t)) H'):mP vs H Q E
noncomputable def AAI(c:Nat)(t:List Nat)(a b p:AK)(H:Hp)(i:Nat)(D:_L.St)(B:Hp):Prop:=Fr [] H B/\B p=U (.lst (IH t))/\i<=t.length/\ ∃z,D=[U (.ref a),U (.ref b),U (.int ((t.take i).foldl (λ(n:Int)(x:Nat)=>n*64+(x:Int)-128) ((c:Int)%Nz (t.length+1)))),z]
def qY(T:Txt K mg A): !20 1 "number_of_character" ["octets"] mP:=by
 show 8 ["octets","first_bits","number","octet"] 16;obtain⟨a,t,rfl,ha,h1,L,q⟩:=h;refine⟨_,(Gy (IA (i:=1) (TX (Hz Ht (Hz Ht (Hz Ht (Hz Ht (Hn Ht)))))))
   (Gy (IA (i:=2) (Ij OW (KS Jh (pv 0) Ht (λw w=>rfl)) (KS gj (pv 1) (IT IP T.Jf PySem.boot_len (Hn (pv 0))) (λw w=>rfl))))
   (Gy (LG Ag rfl (L7 (IY Ii (pv 0) (IX Ht) Iz)) (JO (i:=3) S.nd rfl (CW rfl)) (Hm (IA (i:=2) (Ij MM (Ij KA (Ij We (pv 2) Ht) (pv 3)) Ht))))
   (Hm (Hy (pv 2)))))),?_⟩
 simp![];refine⟨Iv (!1),λb hb=>?_⟩;obtain⟨c,r,rfl⟩: ∃c r,t=c::r:=by
  cases t with
  |nil=>simp at h1
  |cons c r=>exact⟨c,r,rfl⟩
 have G:Fr [] H (Hu H b (.tup [V.int 0,V.int 128,V.int 32,V.int 16,V.int 8])):=Fr.new hb;have D:Hu H b (.tup [V.int 0,V.int 128,V.int 32,V.int 16,V.int 8]) b=U (.tup [V.int 0,V.int 128,V.int 32,V.int 16,V.int 8]):=Hq;generalize Hu H b (.tup [V.int 0,V.int 128,V.int 32,V.int 16,V.int 8])=H1 at G D;have B:=G _ _ ha (!2);have E:dv [V.int 0,V.int 128,V.int 32,V.int 16,V.int 8] (((IH (c::r)).length:Nat):Int)=U (.int (Nz (r.length+1))):=by
  rw[Hw,AN];rw[AN]at L;have:r.length=0\/r.length=1\/r.length=2\/r.length=3:=!3
  obtain e|e|e|e:=this<;>(rw[e];decide)
 have F:0<Nz (r.length+1):=by
  rw[AN]at L;have:r.length=0\/r.length=1\/r.length=2\/r.length=3:=!3
  obtain e|e|e|e:=this<;>(rw[e];decide)
 refine⟨IH (c::r),Ip.of B,.int (c:Int),KU (j:=0) rfl,IH (c::r),.inl (Ip.of B),_,NR.of D,_,E,F,IH (c::r),Ip.of B,λp hp=>?_⟩;rw[KI (c::r) 1 1 rfl];obtain⟨H2,e2,f2,M⟩:=JV (xs:=IH ((c::r).drop 1)) hp;rw[e2];have I:=G.trans f2;refine⟨⟨IH r,Ip.of M⟩,forL (xs:=IH r) (AAI c r a b p H) ⟨I,M,Ax _,_,rfl⟩ (λi O Y w pv=>Ip.of pv.2.1) ?_ ?_⟩
 .rintro i x O Y hx ⟨f,Z,hi,z,rfl⟩;obtain⟨y,hy,rfl⟩:=LH hx;obtain⟨J,e⟩:=List.getElem?_eq_some_iff.mp hy;show _;simp![];refine⟨.inr ⟨!1,!1⟩,f,Z,J,U (.int (y:Int)),?_⟩;rw[Cw,hy];simp only[Option.toList_some,DS,Dv,Ha]
 rintro O Y ⟨f,Z,hi,z,rfl⟩;rw[Hw,BG];exact q _ f
inductive ju (A:JL)(vs:List V)(H:Hp)(Q:VK)(E:XK):Prop
 |mk (a:AK)(t:List Nat)(_:vs=[.ref a])(_:H a=U (.lst (IH t)))(_:t.length<=20000)(_:(∀x∈t,x<256))(_:(Gd t-> ∀H',Fr [] H H'->Q .Jm H'))(_:(¬Gd t-> ∀H',Fr [] H H'->E (.ref A.wi) AB H'))
noncomputable def WCh(t:List Nat)(a:AK)(H:Hp)(m:Nat)(B:_L.St)(D:Hp):Prop:=Fr [] H D/\ ∃k,m=t.length-k/\(Gd t↔Gd (t.drop k))/\ ∃E F G,B=[U (.ref a),U (.int (k:Int)),E,F,G]
def iw(T:Txt K mg A): !20 2 "check_characters" ["octets"] (ju A):=by
 show 8 ["octets","place","length","one","number"] 17;obtain⟨a,t,rfl,ha,hl,hb,q1,M⟩:=h;refine⟨_,(Gy (IA (i:=1) Ht)
   (Hm (JS Ag (IB Kt (pv 1) (IT IP T.Jf PySem.boot_len (Hn (pv 0)))) (Gy (IA (i:=2) (Hr (qZ T) (Hn (KS Jh (pv 0) (pv 1) (λy y=>rfl))) (hx:=Ig)))
   (Gy (IA (i:=3) (IY Ii (pv 0) (IX (pv 1)) (IX (Ij KA (pv 1) (pv 2)))))
   (Gy (IA (i:=4) (Hr (qY T) (Hn (pv 3))))
   (Gy (IS (PW.pt (Mg (LV (Ik (Hr (N0 T) (Hn (pv 4))))) (LU (IB (oY (T5 hr)) (Hr (bN T) (Hn (pv 4))) (pv 3))))) (Hm (JE T.Ia rfl)) IC)
   (Hm (WX (i:=1) S.nd rfl (CW rfl) (pv 2) Zd))))))))),?_⟩
 simp![];refine⟨WCh t a H,⟨_,Fr.refl,0,rfl,Iff.rfl,_,_,_,rfl⟩,?_⟩;rintro m σ H1 ⟨J,k,rfl,O,Y,z3,z4,rfl⟩;have E:=J _ _ ha (!2);simp![];refine⟨IH t,.inl (Ip.of E),?_⟩;rw[Hw];by_cases YK:k<t.length
 .refine dT (show(k:Int)<(t.length:Int)by omega) ?_
  obtain⟨c,r,D⟩: ∃c r,t.drop k=c::r:=by
   cases e:t.drop k with
   |nil=>have:=congrArg A5 e;rw[AS]at this;simp at this;omega
   |cons c r=>exact⟨c,r,rfl⟩
  have hc:t[k]? =U c:=by
   have:=congrArg (λl=>l[0]?) D;simpa using this
  have Z:t.drop k≠ []:=by rw[D];simp
  obtain⟨g1,g2⟩:=lT Z;have bad:US (t.drop k)=AB-> ¬Gd t:=λe g=>g2 e (O.1 g);refine⟨λσ' H'=> ∃m',m'<t.length-k/\WCh t a H m' σ' H',λy y z=>z,?_⟩;refine⟨IH t,Ip.of E,.int (c:Int),KU (SR hc),c,rfl,λn hn=>⟨IH t,Ip.of E,λp hp=>?_⟩,λhn=>M (bad ?_) _ J⟩
  rotate_left
  .rw[D];unfold US;show 4;rw[hn];rfl
  rw[PR t (k:Int) ((k:Int)+(n:Int)) k (k+n) rfl (!4),FR];obtain⟨H2,e2,f2,h2⟩:=JV (xs:=IH ((t.drop k).take n)) hp;rw[e2];have lJ:=J.trans f2;have ye:1<=n/\n<=4:=by
   unfold gf at hn;split at hn
   .cases hn;omega
   split at hn
   .cases hn;omega
   split at hn
   .cases hn;omega
   split at hn
   .cases hn;omega
   cases hn
  have B:US (t.drop k)=if(0<=OX ((t.drop k).take n)/\C2 (OX ((t.drop k).take n)).toNat=AF)/\D0 (OX ((t.drop k).take n)).toNat=(t.drop k).take n then U ((OX ((t.drop k).take n)).toNat,(t.drop k).drop n)else AB:=by
   rw[D];unfold US;show 4;rw[hn];rfl
  refine⟨p,_,rfl,h2,by rw[AW,D];simp;omega,by rw[AW];omega,λH3 f3=>?_⟩;have h3:=f3 _ _ h2 (!2);have F:=lJ.trans f3;generalize ABI:(t.drop k).take n=one at*;dsimp only[Ms];by_cases G:Sm (OX one)=AF
  .rw[G];refine bB ?_
   have h0:0<=OX one:=by
    unfold Sm at G;simp only[BE,AX,Cs]at G;omega
   obtain⟨x,hx⟩: ∃x:Nat,OX one=(x:Int):=⟨(OX one).toNat,!4⟩;rw[hx]at G B⊢;rw[RB]at G;rw[Bw]at B;refine⟨x,rfl,λH4 p4 au h4 f4=>⟨_,JJ h4,_,JJ (f4 _ _ h3 (!2)),I0 _,I0 _,?_⟩⟩;rw[Lc];by_cases L:D0 x=one
   .refine nF L ?_
    rw[AI ⟨⟨!4,G⟩,L⟩]at B;obtain⟨i1,i2⟩:=g1 _ _ B;rw[BR]at i1 i2;exact⟨t.length-(k+n),!4,F.trans f4,k+n,rfl,O.trans i1,_,_,_,by push_cast;rfl⟩
   refine nT L ?_
   refine M (bad ?_) _ (F.trans f4);rw[B,AD λz=>L z.2]
  have I:Sm (OX one)=AJ:=by simpa using G
  rw[I];refine Xc ?_
  refine M (bad ?_) _ F;rw[B,AD];rintro⟨⟨z1,Y⟩,_⟩;obtain⟨x,hx⟩: ∃x:Nat,OX one=(x:Int):=⟨(OX one).toNat,!4⟩;rw[hx,Bw]at Y;rw[hx,RB,Y]at I;cases I
 refine dF (show¬(k:Int)<(t.length:Int)by omega) ?_
 refine q1 (O.2 ?_) _ J;rw[EH (!4)];exact .nil
end
noncomputable def MY(kd:Nat):Int:=if kd=0 then 3 else if kd=1 then 2 else if kd=2 then 1 else 4
noncomputable def tf(m:Int)(d:AK):List (Str×V):=[("made",.int m),("entries",.ref d)]
noncomputable def i9(m:AK)(b:Bool):List (Str×V):=[("members",.ref m),("by_headers",.bl b)]
mutual
noncomputable def IL(A:JL)(H:Hp):AU->AK->List AK->Prop
 |.array b l,a,fp=> ∃dx m ps fl,H a=U (.ins A.array dx (i9 m b))/\H m=U (.lst (IG ps))/\Ja A H l ps fl/\fp=a::m::fl/\(b=AF-> ∃kd x,l.getLast?=U (.table kd x))
 |.table kd r,a,fp=> ∃dx d LZ fl,H a=U (.ins A.table dx (tf (MY kd) d))/\H d=U (.dT LZ)/\JR A H r LZ fl/\fp=a::d::fl/\(r.map (·.1)).Nodup/\kd<=3
 |.str t,a,fp=> ∃f,KN A H a f (.str t)/\fp=[a,f]
 |.int z,a,fp=> ∃f,KN A H a f (.int z)/\fp=[a,f]
 |.dec b m e,a,fp=> ∃f,KN A H a f (.dec b m e)/\fp=[a,f]
 |.odd k,a,fp=> ∃f,KN A H a f (.odd k)/\fp=[a,f]
 |.bool b,a,fp=> ∃f,KN A H a f (.bool b)/\fp=[a,f]
 |.time t,a,fp=> ∃f,KN A H a f (.time t)/\fp=[a,f]
noncomputable def Ja(A:JL)(H:Hp):List AU->List AK->List AK->Prop
 |[],ps,fl=>ps=[]/\fl=[]
 |v::l,ps,fl=> ∃p jL f1 f2,ps=p::jL/\fl=f1++f2/\IL A H v p f1/\Ja A H l jL f2
noncomputable def JR(A:JL)(H:Hp):List (List Nat×AU)->List (List Key×V)->List AK->Prop
 |[],LZ,fl=>LZ=[]/\fl=[]
 |x::r,LZ,fl=> ∃p Wq f1 f2,LZ=(pk x.1,.ref p)::Wq/\fl=f1++f2/\qg A H x p f1/\JR A H r Wq f2
noncomputable def qg(A:JL)(H:Hp):List Nat×AU->AK->List AK->Prop
 |(_,v),p,f=>IL A H v p f
end
variable{A:JL}{H H':Hp}
def TN(h:MV v):IL A H v a fp↔ ∃f,KN A H a f v/\fp=[a,f]:=by
 cases v<;>first|exact h.elim|rw[IL]
def Jb:IL A H (.array b l) a fp↔ ∃dx m ps fl,H a=U (.ins A.array dx (i9 m b))/\H m=U (.lst (IG ps))/\Ja A H l ps fl/\fp=a::m::fl/\(b=AF-> ∃kd x,l.getLast?=U (.table kd x)):=by rw[IL]
def Ki{r:Ae}:IL A H (.table kd r) a fp↔ ∃dx d B fl,H a=U (.ins A.table dx (tf (MY kd) d))/\H d=U (.dT B)/\JR A H r B fl/\fp=a::d::fl/\(r.map (·.1)).Nodup/\kd<=3:=by rw[IL]
def Kq:Ja A H [] ps fl↔ps=[]/\fl=[]:=by rw[Ja]
def Jd:Ja A H (v::l) ps fl↔ ∃p B D E,ps=p::B/\fl=D++E/\IL A H v p D/\Ja A H l B E:=by rw[Ja]
def KP:JR A H [] B fl↔B=[]/\fl=[]:=by rw[JR]
def Jc{r:Ae}:JR A H (x::r) G fl↔ ∃p B D E,G=(pk x.1,.ref p)::B/\fl=D++E/\IL A H x.2 p D/\JR A H r B E:=by
 obtain⟨k,v⟩:=x;dsimp only[JR];constructor
 .rintro⟨p,B,D,E,I,J,F,L⟩;rw[qg]at F;exact⟨p,B,D,E,I,J,F,L⟩
 rintro⟨p,B,D,E,I,J,F,L⟩;exact⟨p,B,D,E,I,J,by rw[qg];exact F,L⟩
def KN.keep(h:KN A H p f v)(B:H' p=H p)(D:H' f=H f):KN A H' p f v:=by
 obtain⟨⟨dx,e⟩,e2⟩:=h;exact⟨⟨dx,B.trans e⟩,D.trans e2⟩
mutual
theorem IL.keep: ∀{v:AU}{a:AK}{fp:List AK},IL A H v a fp->(∀b∈fp,H' b=H b)->IL A H' v a fp
 |.array b l,a,fp,h,k=>by
  rw[Jb]at h⊢;obtain⟨dx,m,ps,fl,h1,h2,h3,rfl,h5⟩:=h;exact⟨dx,m,ps,fl,(k _ (!2)).trans h1,(k _ (!2)).trans h2,Ja.keep h3 λb hb=>k b (by simp[hb]),rfl,h5⟩
 |.table kd r,a,fp,h,k=>by
  rw[Ki]at h⊢;obtain⟨dx,d,LZ,fl,h1,h2,h3,rfl,h5,h6⟩:=h;exact⟨dx,d,LZ,fl,(k _ (!2)).trans h1,(k _ (!2)).trans h2,JR.keep h3 λb hb=>k b (by simp[hb]),rfl,h5,h6⟩
 |.str t,a,fp,h,k=>by
  dsimp only[IL]at h⊢;obtain⟨f,h1,rfl⟩:=h;exact⟨f,h1.keep (k _ (!2)) (k _ (!2)),rfl⟩
 |.int z,a,fp,h,k=>by
  dsimp only[IL]at h⊢;obtain⟨f,h1,rfl⟩:=h;exact⟨f,h1.keep (k _ (!2)) (k _ (!2)),rfl⟩
 |.dec b m e,a,fp,h,k=>by
  dsimp only[IL]at h⊢;obtain⟨f,h1,rfl⟩:=h;exact⟨f,h1.keep (k _ (!2)) (k _ (!2)),rfl⟩
 |.odd n,a,fp,h,k=>by
  dsimp only[IL]at h⊢;obtain⟨f,h1,rfl⟩:=h;exact⟨f,h1.keep (k _ (!2)) (k _ (!2)),rfl⟩
 |.bool b,a,fp,h,k=>by
  dsimp only[IL]at h⊢;obtain⟨f,h1,rfl⟩:=h;exact⟨f,h1.keep (k _ (!2)) (k _ (!2)),rfl⟩
 |.time t,a,fp,h,k=>by
  dsimp only[IL]at h⊢;obtain⟨f,h1,rfl⟩:=h;exact⟨f,h1.keep (k _ (!2)) (k _ (!2)),rfl⟩
theorem Ja.keep: ∀{l:List AU}{ps fl:List AK},Ja A H l ps fl->(∀b∈fl,H' b=H b)->Ja A H' l ps fl
 |[],ps,fl,h,k=>by rw[Kq]at h⊢;exact h
 |v::l,ps,fl,h,k=>by
  rw[Jd]at h⊢;obtain⟨p,jL,f1,f2,h1,rfl,h3,h4⟩:=h;exact⟨p,jL,f1,f2,h1,rfl,IL.keep h3 λb hb=>k b (by simp[hb]),Ja.keep h4 λb hb=>k b (by simp[hb])⟩
theorem JR.keep: ∀{r:List (List Nat×AU)}{LZ:List (List Key×V)}{fl:List AK},JR A H r LZ fl->(∀b∈fl,H' b=H b)->JR A H' r LZ fl
 |[],LZ,fl,h,k=>by rw[KP]at h⊢;exact h
 |(x,v)::r,LZ,fl,h,k=>by
  rw[Jc]at h⊢;obtain⟨p,Wq,f1,f2,h1,rfl,h3,h4⟩:=h;exact⟨p,Wq,f1,f2,h1,rfl,IL.keep h3 λb hb=>k b (by simp[hb]),JR.keep h4 λb hb=>k b (by simp[hb])⟩
end
def KN.KO(h:KN A H p f v)(B:b∈ [p,f]):H b≠AB:=by
 obtain⟨⟨dx,e⟩,e2⟩:=h;simp at B;obtain rfl|rfl:=B
 .rw[e];simp
 rw[e2];simp
mutual
theorem IL.KO: ∀{v:AU}{a:AK}{fp:List AK},IL A H v a fp-> ∀b∈fp,H b≠AB
 |.array c l,a,fp,h,b,hb=>by
  rw[Jb]at h;obtain⟨dx,m,ps,fl,h1,h2,h3,rfl,_⟩:=h;obtain rfl|hb:=AO.1 hb
  .rw[h1];simp
  obtain rfl|hb:=AO.1 hb
  .rw[h2];simp
  exact Ja.KO h3 b hb
 |.table kd r,a,fp,h,b,hb=>by
  rw[Ki]at h;obtain⟨dx,m,LZ,fl,h1,h2,h3,rfl,_⟩:=h;obtain rfl|hb:=AO.1 hb
  .rw[h1];simp
  obtain rfl|hb:=AO.1 hb
  .rw[h2];simp
  exact JR.KO h3 b hb
 |.str t,a,fp,h,b,hb=>by
  dsimp only[IL]at h;obtain⟨f,h1,rfl⟩:=h;exact h1.KO hb
 |.int t,a,fp,h,b,hb=>by
  dsimp only[IL]at h;obtain⟨f,h1,rfl⟩:=h;exact h1.KO hb
 |.dec c m e,a,fp,h,b,hb=>by
  dsimp only[IL]at h;obtain⟨f,h1,rfl⟩:=h;exact h1.KO hb
 |.odd t,a,fp,h,b,hb=>by
  dsimp only[IL]at h;obtain⟨f,h1,rfl⟩:=h;exact h1.KO hb
 |.bool t,a,fp,h,b,hb=>by
  dsimp only[IL]at h;obtain⟨f,h1,rfl⟩:=h;exact h1.KO hb
 |.time t,a,fp,h,b,hb=>by
  dsimp only[IL]at h;obtain⟨f,h1,rfl⟩:=h;exact h1.KO hb
theorem Ja.KO: ∀{l:List AU}{ps fl:List AK},Ja A H l ps fl-> ∀b∈fl,H b≠AB
 |[],ps,fl,h,b,hb=>by rw[Kq]at h;rw[h.2]at hb;cases hb
 |v::l,ps,fl,h,b,hb=>by
  rw[Jd]at h;obtain⟨p,jL,f1,f2,h1,rfl,h3,h4⟩:=h;obtain hb|hb:=AQ.1 hb
  .exact IL.KO h3 b hb
  exact Ja.KO h4 b hb
theorem JR.KO: ∀{r:List (List Nat×AU)}{LZ:List (List Key×V)}{fl:List AK},JR A H r LZ fl-> ∀b∈fl,H b≠AB
 |[],ps,fl,h,b,hb=>by rw[KP]at h;rw[h.2]at hb;cases hb
 |(x,v)::l,ps,fl,h,b,hb=>by
  rw[Jc]at h;obtain⟨p,jL,f1,f2,h1,rfl,h3,h4⟩:=h;obtain hb|hb:=AQ.1 hb
  .exact IL.KO h3 b hb
  exact JR.KO h4 b hb
end
def Fr.eq{fp:List AK}(f:Fr W H H')(hs: ∀b∈fp,H b≠AB)(hd: ∀b∈fp,b∉W): ∀b∈fp,H' b=H b:=by
 intro b B;cases e:H b with
 |none=>exact absurd e (hs b B)
 |some o=>exact f b o e (hd b B)
def IL.fr(h:IL A H v a fp)(f:Fr W H H')(hd: ∀b∈fp,b∉W):IL A H' v a fp:=h.keep (f.eq h.KO hd)
mutual
theorem IL.ok: ∀{v:AU}{a:AK}{fp:List AK},IL A H v a fp->PM (λz=>True) v
 |.array c l,a,fp,h=>by
  rw[Jb]at h;obtain⟨dx,m,ps,fl,h1,h2,h3,rfl,_⟩:=h;rw[PM];exact Ja.ok h3
 |.table kd r,a,fp,h=>by
  rw[Ki]at h;obtain⟨dx,m,LZ,fl,h1,h2,h3,rfl,h5,_⟩:=h;rw[PM];exact⟨h5,JR.ok h3⟩
 |.str t,a,fp,h=>by rw[PM];trivial
 |.int t,a,fp,h=>by rw[PM];trivial
 |.dec c m e,a,fp,h=>by rw[PM];trivial
 |.odd t,a,fp,h=>by rw[PM];trivial
 |.bool t,a,fp,h=>by rw[PM];trivial
 |.time t,a,fp,h=>by rw[PM];trivial
theorem Ja.ok: ∀{l:List AU}{ps fl:List AK},Ja A H l ps fl->Us (λz=>True) l
 |[],ps,fl,h=>by rw[Us];trivial
 |v::l,ps,fl,h=>by
  rw[Jd]at h;obtain⟨p,jL,f1,f2,h1,rfl,h3,h4⟩:=h;rw[Us];exact⟨IL.ok h3,Ja.ok h4⟩
theorem JR.ok: ∀{r:List (List Nat×AU)}{LZ:List (List Key×V)}{fl:List AK},JR A H r LZ fl->Ur (λz=>True) r
 |[],ps,fl,h=>by rw[Ur];trivial
 |(x,v)::l,ps,fl,h=>by
  rw[Jc]at h;obtain⟨p,jL,f1,f2,h1,rfl,h3,h4⟩:=h;rw[Ur,sI];exact⟨⟨trivial,IL.ok h3⟩,JR.ok h4⟩
end
set_option tactic.hygienic true
theorem JR.Qc: ∀{r:Ae}{B:List (List Key×V)}{fl:List AK}{k:List Nat},JR A H r B fl->CC r k=AB->Lp B (pk k)=AB
 |[],B,fl,k,h,e=>by rw[KP]at h;rw[h.1];rfl
 |x::r,B,fl,k,h,e=>by
  rw[Jc]at h;obtain⟨p,D,F,G,rfl,rfl,I,E⟩:=h;rw[J4]at e;split at e
  .cases e
  rename_i q;rw[LD (λz=>q (fj z))];exact JR.Qc E e
theorem JR.length: ∀{r:Ae}{B:List (List Key×V)}{fl:List AK},JR A H r B fl->B.length=r.length
 |[],B,fl,h=>by rw[KP]at h;rw[h.1];rfl
 |x::r,B,fl,h=>by
  rw[Jc]at h;obtain⟨p,D,F,G,rfl,rfl,I,E⟩:=h;rw[AN,AN,JR.length E]
theorem Ja.length: ∀{l:List AU}{ps fl:List AK},Ja A H l ps fl->ps.length=l.length
 |[],ps,fl,h=>by rw[Kq]at h;rw[h.1];rfl
 |x::r,ps,fl,h=>by
  rw[Jd]at h;obtain⟨p,B,E,F,rfl,rfl,G,D⟩:=h;rw[AN,AN,Ja.length D]
theorem JR.find: ∀{r:Ae}{D:List (List Key×V)}{fl:List AK}{k:List Nat}{u:AU},JR A H r D fl->(r.map (·.1)).Nodup->CC r k=U u→
  ∃p G I J,fl=I++(G++J)/\IL A H u p G/\Lp D (pk k)=U (.ref p)/\ ∀(H':Hp)(L:AU)(B:List AK),(∀b∈I++J,H' b=H b)->IL A H' L p B->JR A H' (DG r k L) D (I++(B++J))
 |[],D,fl,k,u,h,_,e=>by cases e
 |x::r,D,fl,k,u,h,hn,e=>by
  rw[Jc]at h;obtain⟨p,F,G,O,rfl,rfl,S,Y⟩:=h;rw[J4]at e;rw[Av,BP]at hn;split at e
  .rename_i q;cases e;refine⟨p,G,[],O,rfl,S,Lo (congrArg pk q),λH' L B M hr=>?_⟩;rw[JA,AI q,L6 (Ky.2 (q▸hn.1)),Jc];exact⟨p,F,B,O,by rw[q],rfl,hr,Y.keep λb E=>M b (!8 E)⟩
  rename_i q;obtain⟨Z,a1,I,J,i1,i2,i3,i4⟩:=JR.find Y hn.2 e;refine⟨Z,a1,G++I,J,by rw[i1,Ah],i2,by rw[LD (λz=>q (fj z))];exact i3,λH' L B M hr=>?_⟩;rw[JA,AD q,Jc];refine⟨p,F,G,I++(B++J),rfl,by rw[Ah],S.keep λb E=>M b (by simp[E]),i4 H' L B (λb E=>M b ?_) hr⟩;simp at E⊢;obtain E|E:=E<;>simp[E]
set_option tactic.hygienic false
theorem JR.snoc: ∀{r:Ae}{B:List (List Key×V)}{fl:List AK}{k:List Nat}{v:AU}{p:AK}{f:List AK},JR A H r B fl->IL A H v p f->JR A H (r++[(k,v)]) (B++[(pk k,.ref p)]) (fl++f)
 |[],B,fl,k,v,p,f,h,E=>by
  rw[KP]at h;obtain⟨rfl,rfl⟩:=h;rw[A6,A6,A6,Jc];exact⟨p,[],f,[],rfl,(An f).symm,E,KP.2 ⟨rfl,rfl⟩⟩
 |x::r,B,fl,k,v,p,f,h,E=>by
  rw[Jc]at h;obtain⟨F,D,G,I,rfl,rfl,J,L⟩:=h;rw[Az,Jc];exact⟨F,D++[(pk k,.ref p)],G,I++f,rfl,by rw[Ah],J,JR.snoc L E⟩
theorem Ja.snoc: ∀{l:List AU}{ps fl:List AK}{v:AU}{p:AK}{f:List AK},Ja A H l ps fl->IL A H v p f->Ja A H (l++[v]) (ps++[p]) (fl++f)
 |[],ps,fl,v,p,f,h,B=>by
  rw[Kq]at h;obtain⟨rfl,rfl⟩:=h;rw[A6,A6,A6,Jd];exact⟨p,[],f,[],rfl,(An f).symm,B,Kq.2 ⟨rfl,rfl⟩⟩
 |x::r,ps,fl,v,p,f,h,B=>by
  rw[Jd]at h;obtain⟨E,D,F,G,rfl,rfl,I,J⟩:=h;rw[Az,Jd];exact⟨E,D++[p],F,G++f,rfl,by rw[Ah],I,Ja.snoc J B⟩
theorem Ja.get: ∀{l:List AU}{ps fl:List AK}{i:Nat}{u:AU},Ja A H l ps fl->l[i]? =U u-> ∃p f,ps[i]? =U p/\IL A H u p f/\ ∀b∈f,b∈fl
 |v::l,ps,fl,0,u,h,e=>by
  rw[Jd]at h;obtain⟨E,B,F,J,rfl,rfl,G,I⟩:=h;cases e;exact⟨E,F,rfl,G,λb D=>by simp[D]⟩
 |v::l,ps,fl,i+1,u,h,e=>by
  rw[Jd]at h;obtain⟨E,B,F,J,rfl,rfl,G,I⟩:=h;obtain⟨p,f,L,M,O⟩:=Ja.get I (show l[i]? =U u from e);exact⟨p,f,L,M,λb D=>by simp[O b D]⟩
theorem Ja.last: ∀{l:List AU}{ps fl:List AK}{u:AU},Ja A H l ps fl->l.getLast?=U u→
  ∃p L D F,ps=L++[p]/\fl=F++D/\IL A H u p D/\ ∀(H':Hp)(E:AU)(B:List AK),(∀b∈F,H' b=H b)->IL A H' E p B->Ja A H' (l.dropLast++[E]) ps (F++B)
 |[],ps,fl,u,h,e=>by cases e
 |[v],ps,fl,u,h,e=>by
  rw[Jd]at h;obtain⟨G,I,D,Y,rfl,rfl,M,J⟩:=h;rw[Kq]at J;obtain⟨rfl,rfl⟩:=J;cases e;refine⟨G,[],D,[],rfl,!2,M,λH' E B z hr=>?_⟩;show Ja A H' [E] [G] ([]++B);rw[Jd];exact⟨G,[],B,[],rfl,!2,hr,Kq.2 ⟨rfl,rfl⟩⟩
 |v::w::l,ps,fl,u,h,e=>by
  rw[Jd]at h;obtain⟨G,I,D,Y,rfl,rfl,M,J⟩:=h;obtain⟨p,L,Z,F,i1,i2,i3,i4⟩:=Ja.last J (show(w::l).getLast?=U u from e);refine⟨p,G::L,Z,D++F,by rw[i1];rfl,by rw[i2,Ah],i3,λH' E B S hr=>?_⟩;show Ja A H' (v::((w::l).dropLast++[E])) _ _;rw[Jd];exact⟨G,I,D,F++B,rfl,by rw[Ah],M.keep λb O=>S b (by simp[O]),i4 H' E B (λb O=>S b (by simp[O])) hr⟩
noncomputable def qx(v:AU):Prop:= ∃kd y,v=.table kd y
noncomputable def Mb(A:JL)(H:Hp)(R T:AK)(o:AU->Prop)(D:AU->AU)(B E:List AK):Prop:=(∀b∈B++E,H b≠AB)/\ ∀(H':Hp)(v:AU)(f:List AK),o v->(∀b∈B++E,H' b=H b)->IL A H' v T f->IL A H' (D v) R (B++(f++E))
def Mb.id:Mb A H R R o (λv=>v) [] []:=⟨(λb B=>by cases B),λH' v f z z h=>by simpa using h⟩
def Mb.weak(a:Mb A H R T o D B E)(h: ∀v,F v->o v):Mb A H R T F D B E:=⟨a.1,λH' v f G=>a.2 H' v f (h v G)⟩
def Mb.comp(a:Mb A H R T o D I J)(b:Mb A H T S B E L M)(h: ∀v,B v->o (E v)):Mb A H R S B (λv=>D (E v)) (I++L) (M++J):=by
 refine⟨λx hx=>?_,λH' v f F G hr=>?_⟩
 .simp only[AQ]at hx;obtain(hx|hx)|hx|hx:=hx
  .exact a.1 x (by simp[hx])
  .exact b.1 x (by simp[hx])
  .exact b.1 x (by simp[hx])
  exact a.1 x (by simp[hx])
 have:=a.2 H' _ _ (h v F) (λx hx=>G x (by simp only[AQ]at hx⊢;obtain hx|hx:=hx<;>simp[hx])) (b.2 H' v f F (λx hx=>G x (by simp only[AQ]at hx⊢;obtain hx|hx:=hx<;>simp[hx])) hr);simpa[Ah]using this
def Mb.keep(a:Mb A H R T o D E F)(k: ∀b∈E++F,H' b=H b):Mb A H' R T o D E F:=
 ⟨λb B=>by rw[k b B];exact a.1 b B,λH2 v f G h hr=>a.2 H2 v f G (λb B=>(h b B).trans (k b B)) hr⟩
def Mb.fr(a:Mb A H R T o D B E)(f:Fr W H H')(hd: ∀b∈B++E,b∉W):Mb A H' R T o D B E:=a.keep (f.eq a.1 hd)
def Th(ha:a<=3)(B:b<=3)(h:MY a=MY b):a=b:=by
 have:a=0\/a=1\/a=2\/a=3:=!3
 have:b=0\/b=1\/b=2\/b=3:=!3
 obtain rfl|rfl|rfl|rfl:= ‹a=0\/_› <;>obtain rfl|rfl|rfl|rfl:= ‹b=0\/_› <;>first|rfl|(revert h;decide)
inductive Child (A:JL)(H:Hp)(kd:Nat)(r:Ae)(T:AK)(fp:List AK)(k:List Nat)(u:AU):Prop
 |mk (a d:AK)(b:List (List Key×V))(p:AK)(c e f:List AK)(_:H T=U (.ins A.table a (tf (MY kd) d)))(_:H d=U (.dT b))(_:Lp b (pk k)=U (.ref p))(_:fp=e++(c++f))(_:IL A H u p c)(_:T∈e)(_:Mb A H T p (λz=>True) (λu'=>.table kd (DG r k u')) e f)
def PB{r:Ae}{k:List Nat}(h:IL A H (.table kd r) T fp)(e:CC r k=U u):Child A H kd r T fp k u:=by
 have D:=h.KO;rw[Ki]at h;obtain⟨dx,d,E,fl,G,I,S,rfl,J,Y⟩:=h;obtain⟨p,Z,L,M,O,i2,i3,i4⟩:=JR.find S J e;refine⟨dx,d,E,p,Z,T::d::L,M,G,I,i3,by rw[O];rfl,i2,!2,?_,?_⟩
 .intro b B;refine D b ?_
  rw[O];simp only[AQ,AO]at B⊢;obtain(B|B|B)|B:=B<;>simp[B]
 intro H' v f _ F hr;rw[Ki];refine⟨dx,d,E,L++(f++M),(F T (!2)).trans G,(F d (!2)).trans I,i4 H' v f (λb B=>F b ?_) hr,rfl,by rw[QV];exact J,Y⟩;simp only[AQ,AO]at B⊢;obtain B|B:=B<;>simp[B]
def fS(h:IL A H (.array b l) a fp)(e:l.getLast?=U u):
  ∃dx m p G I F,H a=U (.ins A.array dx (i9 m b))/\H m=U (.lst (IG (G++[p])))/\G.length+1=l.length/\fp=F++(I++[])/\IL A H u p I/\Mb A H a p qx (λZ=>.array b (l.dropLast++[Z])) F []:=by
 have E:=h.KO;rw[Jb]at h;obtain⟨dx,m,ps,fl,L,M,O,rfl,h5⟩:=h;have B:=O.length;obtain⟨p,G,I,F,S,Y,i3,i4⟩:=Ja.last O e;rw[S,AG,Am]at B;refine⟨dx,m,p,G,I,a::m::F,L,by rw[<-S];exact M,B,by rw[Y];simp,i3,?_,?_⟩
 .intro b D;refine E b ?_
  rw[Y];simp only[An,AQ,AO]at D⊢;obtain D|D|D:=D<;>simp[D]
 rintro H' v f ⟨kd,y,rfl⟩ J hr;rw[Jb];exact⟨dx,m,ps,F++f,(J a (!2)).trans L,(J m (!2)).trans M,i4 H' _ f (λb D=>J b (by simp[D])) hr,!2,λz=>⟨kd,y,!2⟩⟩
inductive Own (A:JL)(H:Hp)(kd:Nat)(r:Ae)(T:AK)(fp:List AK):Prop
 |mk (a d:AK)(b:List (List Key×V))(c:List AK)(_:H T=U (.ins A.table a (tf (MY kd) d)))(_:H d=U (.dT b))(_:JR A H r b c)(_:fp=T::d::c)(_:(r.map (·.1)).Nodup)(_:kd<=3)(_:b.length=r.length)
def K0{r:Ae}(h:IL A H (.table kd r) T fp):Own A H kd r T fp:=by
 rw[Ki]at h;obtain⟨dx,d,B,fl,E,F,D,G,I,J⟩:=h;exact⟨dx,d,B,fl,E,F,D,G,I,J,D.length⟩
def fQ(r:Ae):r.length<=wR IQ r:=by
 induction r with
 |nil=>dsimp only[wR];exact AR 0
 |cons x r B=>
  obtain⟨k,v⟩:=x;rw[wR,wX,AN];have:1<=wV IQ v:=by cases v<;>first|(dsimp only[wV];exact AR 1)|(dsimp only[wV];have:IQ.c0=1:=rfl;nofun)
  nofun
def eV(l:List AU):l.length<=wL IQ l:=by
 induction l with
 |nil=>dsimp only[wL];exact AR 0
 |cons v r B=>
  rw[wL,AN];have:1<=wV IQ v:=by cases v<;>first|(dsimp only[wV];exact AR 1)|(dsimp only[wV];have:IQ.c0=1:=rfl;lia)
  lia
def gS{l:List AK}:c∈a::b::l↔c=a\/c=b\/c∈l:=by rw[AO,AO]
def M9{r:Ae}{fp:List AK}(D:H T=U (.ins A.table dx (tf (MY kd) d)))(E:H d=U (.dT B))(F:JR A H r B fl)(G:(r.map (·.1)).Nodup)(I:kd<=3):IL A H (.table kd r) T (T::d::fl):=
 Ki.2 ⟨dx,d,B,fl,D,E,F,rfl,G,I⟩
def ck{k:List Nat}{v:AU}(hn:(r.map (·.1)).Nodup)(D:CC r k=AB):((r++[(k,v)]).map (·.1)).Nodup:=by
 rw[A8,A2];refine⟨hn,!2,?_⟩;intro a ha b B e;simp at B;subst e;subst B;exact Ky.1 D ha
def Sw{r:Ae}{k:List Nat}(E:H T=U (.ins A.table dx (tf (MY kd) d)))(h2:H d=U (.dT B))(G:JR A H r B fl)(Y:(r.map (·.1)).Nodup)(Z:kd<=3)(nd:(T::d::fl).Nodup)(hf:CC r k=AB)(M:Fr [] H I):Mb A (Hu I d (.dT (B++[(pk k,.ref p)]))) T p (λy=>True) (λv=>.table kd (r++[(k,v)])) (T::d::fl) []:=by
 rw[BP,BP]at nd;have J:T≠d:=λz=>nd.1 (by rw[z];simp);have O: ∀b∈fl,Hu I d (.dT (B++[(pk k,.ref p)])) b=H b:=by
  intro b D;have L:b≠d:=λz=>nd.2.1 (z▸D);rw[Hv L];exact M.eq G.KO (λy y=>by simp) b D
 have S:Hu I d (.dT (B++[(pk k,.ref p)])) T=H T:=by
  rw[Hv J,E];exact M _ _ E (!2)
 refine⟨λb D=>?_,λH' v f ho F hr=>?_⟩
 .rw[An,gS]at D;obtain rfl|rfl|D:=D
  .rw[S,E];simp
  .rw[Hq];simp
  rw[O b D];exact G.KO b D
 rw[An]at F;have e1:H' T=U (.ins A.table dx (tf (MY kd) d)):=by rw[F T (!2),S];exact E
 have e2:H' d=U (.dT (B++[(pk k,.ref p)])):=by rw[F d (!2),Hq]
 have e3:JR A H' r B fl:=G.keep λb D=>(F b (by simp[D])).trans (O b D);rw[An];show IL A H' _ T (T::d::(fl++f));exact M9 (fp:=[]) e1 e2 (e3.snoc hr) (ck Y hf) Z
def br{kd:Nat}{r:Ae}(E:H d=U (.dT B))(F:JR A H r B fl)(G:(r.map (·.1)).Nodup)(I:kd'<=3)(nd:(T::d::fl).Nodup):
  IL A (Hu H T (.ins A.table dx (tf (MY kd') d))) (.table kd' r) T (T::d::fl):=by
 rw[BP,BP]at nd;have D:d≠T:=λz=>nd.1 (by rw[z];simp);refine M9 (fp:=[]) Hq ((Hv D).trans E) (F.keep λb J=>?_) G I;exact Hv λz=>nd.1 (by rw[<-z];simp[J])
def Xg(D:H a=U (.ins A.array dx (i9 m b)))(Y:H m=U (.lst (IG ps)))(F:Ja A H l ps fl)(nd:(a::m::fl).Nodup)(L:Fr [] H G):
  Mb A (Hu G m (.lst (IG ps++[.ref p]))) a p qx (λv=>.array b (l++[v])) (a::m::fl) []:=by
 rw[BP,BP]at nd;have I:a≠m:=λz=>nd.1 (by rw[z];simp);have M: ∀b∈fl,Hu G m (.lst (IG ps++[.ref p])) b=H b:=by
  intro b B;have J:b≠m:=λz=>nd.2.1 (z▸B);rw[Hv J];exact L.eq F.KO (λx x=>by simp) b B
 have O:Hu G m (.lst (IG ps++[.ref p])) a=H a:=by
  rw[Hv I,D];exact L _ _ D (!2)
 refine⟨λb B=>?_,λH' v f S E hr=>?_⟩
 .rw[An,gS]at B;obtain rfl|rfl|B:=B
  .rw[O,D];simp
  .rw[Hq];simp
  rw[M b B];exact F.KO b B
 rw[An]at E;have e1:H' a=U (.ins A.array dx (i9 m b)):=by rw[E a (!2),O];exact D
 have e2:H' m=U (.lst (IG (ps++[p]))):=by
  rw[E m (!2),Hq];unfold IG;rw[A8];rfl
 have e3:Ja A H' l ps fl:=F.keep λb B=>(E b (by simp[B])).trans (M b B);rw[An,Jb];obtain⟨kd,y,rfl⟩:=S;exact⟨dx,m,ps++[p],fl++f,e1,e2,e3.snoc hr,rfl,λx=>⟨kd,y,!2⟩⟩
structure K6(A:JL)(H:Hp)(R T:AK)(kd:Nat)(x:Ae)(D:AU->AU)(fp:List AK):Prop where
 ex: ∃g1 g2 fx,IL A H (.table kd x) T fx/\Mb A H R T qx D g1 g2/\fp=g1++(fx++g2)
 nd:fp.Nodup
def K6.whole(h:K6 A H R T kd x D fp):IL A H (D (.table kd x)) R fp:=by
 obtain⟨F,G,I,B,E,rfl⟩:=h.ex;exact E.2 H _ _ ⟨_,_,rfl⟩ (λz z=>rfl) B
def K6.root{x:Ae}(h:IL A H (.table kd x) R fp)(nd:fp.Nodup):K6 A H R R kd x (λv=>v) fp:=⟨⟨[],[],fp,h,Mb.id,!2⟩,nd⟩
theorem K6.fr(h:K6 A H R T kd x D fp)(f:Fr W H H')(hd: ∀b∈fp,b∉W):K6 A H' R T kd x D fp:=by
 obtain⟨E,F,G,I,J,rfl⟩:=h.ex;refine⟨⟨E,F,G,I.fr f λb B=>hd b (by simp[B]),J.fr f λb B=>hd b ?_,rfl⟩,h.nd⟩;rw[AQ]at B;obtain B|B:=B<;>simp[B]
def K6.put(h:K6 A H R T kd x D fp): ∃E,IL A H (.table kd x) T E/\E.Nodup/\(∀b∈E,b∈fp)∧
  ∀(H':Hp)(W:List AK)(kd':Nat)(y:Ae)(F:List AK),Fr W H H'->(∀b∈W,b∈E\/b∉fp)->IL A H' (.table kd' y) T F->F.Nodup->(∀b∈F,b∈E\/b∉fp)-> ∃J,K6 A H' R T kd' y D J/\ ∀b∈J,b∈fp\/b∈F:=by
 obtain⟨L,M,E,Z,h2,e⟩:=h.ex;have nd:=h.nd;rw[e,A2,A2]at nd;obtain⟨n1,⟨n2,n3,n4⟩,Y⟩:=nd;refine⟨E,Z,n2,λb B=>by rw[e];simp[B],λH' W kd' y F f hW hr hn hy=>?_⟩;have G: ∀b∈L++M,b∉E:=by
  intro b B hx;rw[AQ]at B;obtain B|B:=B
  .exact Y b B b (by simp[hx]) rfl
  exact n4 b hx b B rfl
 have nw: ∀b∈F,b∉L++M:=by
  intro b B I;obtain hx|hx:=hy b B
  .exact G b I hx
  refine hx ?_
  rw[e];simp only[AQ]at I⊢;obtain I|I:=I<;>simp[I]
 have O: ∀b∈L++M,b∉W:=by
  intro b B S;obtain z|z:=hW b S
  .exact G b B z
  refine z ?_
  rw[e];simp only[AQ]at B⊢;obtain B|B:=B<;>simp[B]
 refine⟨L++(F++M),⟨⟨L,M,F,hr,h2.fr f O,rfl⟩,?_⟩,?_⟩
 .rw[A2,A2];refine⟨n1,⟨hn,n3,?_⟩,?_⟩
  .rintro a ha b B rfl;exact nw a ha (by simp[B])
  rintro a ha b B rfl;rw[AQ]at B;obtain B|B:=B
  .exact nw a B (by simp[ha])
  exact Y a ha a (by simp[B]) rfl
 intro b B;rw[e];simp only[AQ]at B⊢;obtain B|B|B:=B
 .simp[B]
 .exact .inr B
 simp[B]
theorem K6.KO(h:K6 A H R T kd x D fp): ∀b∈fp,H b≠AB:=h.whole.KO
def K6.deep(h:K6 A H R T kd x D fp): ∃F,IL A H (.table kd x) T F/\F.Nodup/\(∀b∈F,b∈fp)∧
  ∀(H':Hp)(S:AK)(kd':Nat)(y:Ae)(E:AU->AU)(I:List AK),Fr F H H'->K6 A H' T S kd' y E I->(∀b∈I,b∈F\/H b=AB)->(∀v,qx v->qx (E v))-> ∃J,K6 A H' R S kd' y (λv=>D (E v)) J/\ ∀b∈J,b∈fp\/H b=AB:=by
 obtain⟨L,M,F,h1,Y,e⟩:=h.ex;have nd:=h.nd;rw[e,A2,A2]at nd;obtain⟨n1,⟨n2,n3,n4⟩,Z⟩:=nd;refine⟨F,h1,n2,λb B=>by rw[e];simp[B],λH' S kd' y E I f hy hn hE=>?_⟩;obtain⟨k1,k2,fz,i1,i2,e2⟩:=hy.ex;have G: ∀b∈L++M,b∉F:=by
  intro b B hx;rw[AQ]at B;obtain B|B:=B
  .exact Z b B b (by simp[hx]) rfl
  exact n4 b hx b B rfl
 have nw: ∀b∈I,b∉L++M:=by
  intro b B hg;obtain hx|hx:=hn b B
  .exact G b hg hx
  exact Y.1 b hg hx
 have O:=hy.nd;refine⟨L++(I++M),⟨⟨L++k1,k2++M,fz,i1,(Y.fr f G).comp i2 hE,by rw[e2];simp⟩,?_⟩,?_⟩
 .rw[A2,A2];refine⟨n1,⟨O,n3,?_⟩,?_⟩
  .rintro a ha b B rfl;exact nw a ha (by simp[B])
  rintro a ha b B rfl;rw[AQ]at B;obtain B|B:=B
  .exact nw a B (by simp[ha])
  exact Z a ha a (by simp[B]) rfl
 intro b B;rw[e];simp only[AQ]at B⊢;obtain B|B|B:=B
 .simp[B]
 .obtain hx|hx:=hn b B
  .simp[hx]
  exact .inr hx
 simp[B]
section
variable{P:BB}{w:BJ}{K:PySem.W.Frag}{mg:Str->Option Value}{base:Heap}{A:JL}
def WG(m:Int)(d:AK):(tf m d).lookup ("made":Str)=U (V.int m):=!6
def JT(m:Int)(d:AK):(tf m d).lookup ("entries":Str)=U (V.ref d):=!6
def ng(m n:Int)(d:AK):NA "made" (.int n) (tf m d)=tf n d:=!6
def nh(m:Int)(d:AK):(tf m d).length<1000:=by show 2<1000;decide
def LB(m:AK)(b:Bool):(i9 m b).lookup ("members":Str)=U (V.ref m):=!6
def qb(m:AK)(b:Bool):(i9 m b).lookup ("by_headers":Str)=U (V.bl b):=!6
def QP(D:H T=U (.ins C dx (tf m d)))(B:H T=U (.ins F E (tf G d'))):d=d':=by
 rw[D]at B;injection B with B
 injection B with _ _ B
 unfold tf at B;injection B with _ B
 injection B with B _
 injection B with _ B
 injection B
def IL.kind(h:IL A H v a fp):(MV v/\ ∃dx fs,H a=U (.ins A.leaf dx fs))\/(∃b l dx m,v=.array b l/\H a=U (.ins A.array dx (i9 m b)))\/ ∃kd r dx d,v=.table kd r/\H a=U (.ins A.table dx (tf (MY kd) d)):=by
 cases v with
 |array b l=>
  rw[Jb]at h;obtain⟨dx,m,ps,fl,B,_⟩:=h;exact .inr (.inl ⟨b,l,dx,m,rfl,B⟩)
 |table kd r=>
  rw[Ki]at h;obtain⟨dx,d,D,fl,B,_⟩:=h;exact .inr (.inr ⟨kd,r,dx,d,rfl,B⟩)
 |_=>
  dsimp only[IL]at h;obtain⟨f,⟨⟨dx,e⟩,_⟩,_⟩:=h;exact .inl ⟨trivial,dx,_,e⟩
inductive ZJ (A:JL)(vs:List V)(H:Hp)(Q:VK)(E:XK):Prop
 |mk (T d a b:AK)(m n:Int)(c:List (List Key×V))(k:List Nat)(_:vs=[.ref T,.ref b,.int n])(_:H T=U (.ins A.table a (tf m d)))(_:H d=U (.dT c))(_:H b=U (.tup (IH k)))(_:Lp c (pk k)=AB)(_:c.length<Ac)(_: ∀H1 S d2,H S=AB->H d2=AB->S≠d2->(∃iW,H1 S=U (.ins A.table iW (tf n d2)))->H1 d2=U (.dT [])->Fr [] H H1->Q (.ref S) (Hu H1 d (.dT (c++[(pk k,.ref S)]))))
def Ox(T:Txt K mg A): !20 3 "new_table" ["table","part","made"] (ZJ A):=by
 show 8 ["table","part","made","made_one"] 32;obtain⟨t,d,dx,kp,m,n,O,k,rfl,S,Y,Z,h4,h5,q⟩:=h;refine⟨_,(Gy (IA (i:=3) (Jl (Qj T) (Hn (pv 2))))
   (Gy (WW (Mm hr) (Ih (pv 0) rfl) (pv 1) (pv 3) rfl)
   (Hm (Hy (pv 3))))),?_⟩
 simp![KL];intro x E hx I Uz;refine⟨x,E,_,rfl,Hq,λL J B e1 e2 f1=>⟨rfl,?_⟩⟩;have D:J≠x:=λz=>by rw[z,Hq]at B;cases B
 have F:J≠E:=λz=>by rw[Hv D,z,Hq]at B;cases B
 rw[Hv D,Hv F]at B;have G:Fr [] H L:=λb o e y=>by
  have M:b≠x:=IJ e hx;have n2:b≠E:=IJ e I;exact f1 b o (by rw[Hv M,Hv n2];exact e) (!8 M)
 refine⟨_,_,_,G _ _ S (!2),T.JQ,T.IZ,_,JT _ _,_,Z7.t (k:=pk k) (G _ _ Y (!2)) (by rw[Kk];exact G _ _ Z (!2)) h5,?_⟩;rw[TU _ h4];exact q L x J hx B (Ne.symm D) ⟨_,e2⟩ e1 G
inductive js (A:JL)(vs:List V)(H:Hp)(Q:VK)(E:XK):Prop
 |mk (a:AK)(_:vs=[.ref a])(_:((∃dx m b,H a=U (.ins A.array dx (i9 m b))/\Q (.bl b) H)\/((∃C dx fs,H a=U (.ins C dx fs)/\(C=A.leaf\/C=A.table))/\Q (.bl AJ) H)))
def Ys(T:Txt K mg A)(KK:JH K A): !20 1 "is_array_by_headers" ["thing"] (js A):=by
 show 8 ["thing"] 35;obtain⟨a,rfl,h⟩:=h;refine⟨_,(Hm (Hy (RJ (IT JZ T.JP Iu (Hz (pv 0) (Hn (Je (cA T) rfl)))) (MI (Ih (pv 0) rfl))))),?_⟩;simp![];obtain⟨dx,m,b,e,q⟩|⟨⟨C,dx,fs,e,rfl|rfl⟩,q⟩:=h
 .refine⟨_,KK.array.ty e,_,Kw _ _,?_⟩;refine Yy ?_
  exact⟨_,_,_,e,T.LM,T.Kp,_,qb _ _,q⟩
 .refine⟨_,KK.leaf.ty e,_,KK.la,?_⟩;refine Ol ?_
  exact q
 refine⟨_,KK.table.ty e,_,KK.ta,?_⟩;refine Ol ?_
 exact q
noncomputable def AAM(A:JL)(H:Hp)(T:AK)(fp:List AK)(g:Option ((AU->AU)×Nat×Ae))(Q:VK)(E:XK):Prop:=
 (∀D kd x,g=U (D,kd,x)-> ∀H' S B,K6 A H' T S kd x D B->(∀b∈B,b∈fp\/H b=AB)->Fr fp H H'->Q (.ref S) H')/\(g=AB-> ∀H',Fr fp H H'->E (.ref A.wi) AB H')
def ZF(A:JL)(g:Ae->List Nat->Option ((AU->Ae)×Nat×Ae)):Sp:=λvs H Q E=> ∃(T kp:AK)(kd:Nat)(r:Ae)(k:List Nat)(fp:List AK),vs=[.ref T,.ref kp]/\IL A H (.table kd r) T fp/\fp.Nodup/\H kp=U (.tup (IH k))/\r.length<Ac∧
 AAM A H T fp ((g r k).map λs=>(λv=>.table kd (s.1 v),s.2)) Q E
def T6{r:Ae}{k:List Nat}(h:IL A H (.table kd r) T fp)(nd:fp.Nodup)(hf:CC r k=AB)(Z:H T=U (.ins A.table dx (tf (MY kd) d)))(h2:H d=U (.dT E))(n1:H S=AB)(n2:H D=AB)(n3:S≠D)(e1: ∃F,L S=U (.ins A.table F (tf (MY kd') D)))(e2:L D=U (.dT []))(f1:Fr [] H L)(hk:kd'<=3):
  ∃G,K6 A (Hu L d (.dT (E++[(pk k,.ref S)]))) T S kd' [] (λv=>.table kd (r++[(k,v)])) G/\(∀b∈G,b∈fp\/H b=AB)/\Fr fp H (Hu L d (.dT (E++[(pk k,.ref S)]))):=by
 obtain⟨lN,d',Wq,fl,i1,i2,i3,i4,i5,i6,i7⟩:=K0 h;obtain rfl:d=d':=QP Z i1;show 6 h2 i2;have hd:d∈fp:=by rw[i4];simp
 have I:S∉fp:=λz=>h.KO S z n1;have J:D∉fp:=λz=>h.KO D z n2;have M:S≠d:=λz=>I (z▸hd);have O:D≠d:=λz=>J (z▸hd);obtain⟨F,e1⟩:=e1;subst i4;refine⟨(T::d::fl)++([S,D]++[]),⟨⟨T::d::fl,[],[S,D],?_,(Sw Z h2 i3 i5 i6 nd hf f1).weak λy y=>trivial,rfl⟩,?_⟩,?_,?_⟩
 .exact M9 (fp:=[]) ((Hv M).trans e1) ((Hv O).trans e2) (KP.2 ⟨rfl,rfl⟩) (!2) hk
 .rw[An,A2];refine⟨nd,by simp[n3],?_⟩;rintro a ha b B rfl;simp at B;obtain rfl|rfl:=B
  .exact I ha
  exact J ha
 .intro b B;rw[An,AQ]at B;obtain B|B:=B
  .exact .inl B
  simp at B;obtain rfl|rfl:=B
  .exact .inr n1
  exact .inr n2
 intro b o e n;have Y:b≠d:=λz=>n (by rw[z];exact hd);rw[Hv Y];exact f1 b o e (!2)
def U6(T:Txt K mg A)(KK:JH K A): !20 4 "table_on_way" ["table","part"] (ZF A Lj):=by
 show 8 ["table","part","found"] 37;obtain⟨t,kp,kd,r,k,fp,rfl,Y,nd,Z,h4,q1,q2⟩:=h;refine⟨_,(Gy (IS (KY (PH (Mm hr) (pv 1) (Ih (pv 0) rfl))) (Hm (Hy (Hr (Ox T) (Hz (pv 0) (Hz (pv 1) (Hn (Hx T.Vr))))))) IC)
   (Gy (IA (i:=2) (Qa (Mm hr) (Ih (pv 0) rfl) (pv 1) (λy y=>rfl)))
   (Gy (IS (Ik (Hr (Ys T KK) (Hn (pv 2)))) (Hm (Hy (KS Jh (Ih (pv 2) rfl) (Kr J9 Ht) (λy y=>rfl)))) IC)
   (Gy (IS (PW.pt (J2 (Ik (IT JZ T.JP Iu (Hz (pv 2) (Hn (Je (cT T) rfl))))) (Jr (IB L0 (Ih (pv 2) rfl) (Hx T.T3))))) (Hm (Hy (pv 2))) IC)
   (Hm (JE T.Ia rfl)))))),?_⟩
 obtain⟨dx,d,LZ,fl,G,I,i3,i4,i5,i6,i7⟩:=K0 Y;simp![G,Kc G,T.JQ,T.IZ,JT];cases B:CC r k with
 |none=>
  have hs:Lj r k=U (λv=>r++[(k,v)],0,[]):=by unfold Lj;rw[B]
  refine⟨AB,?_,?_⟩
  .have:=MA.t (k:=pk k) I (by rw[Kk];exact Z);rw[JR.Qc i3 B]at this;exact this
  simp only[Bp,Bd,BS];refine⟨t,d,dx,kp,_,3,LZ,k,rfl,G,I,Z,JR.Qc i3 B,!5,λH1 S d2 n1 n2 n3 e1 e2 f1=>?_⟩;obtain⟨Rt,M,O,g3⟩:=T6 (kd':=0) Y nd B G I n1 n2 n3 e1 e2 f1 (!1);exact q1 _ _ _ (by rw[hs];rfl) _ S Rt M O g3
 |some u=>
  obtain⟨lN,d',Wq,p,f1,M,O,c1,c2,c3,c4,J,c6,c7⟩:=PB Y B;have ed:d'=d:=QP c1 G;subst ed;show 6 I c2;have hg:MA H d' (.ref kp) (U (.ref p)):=by
   have:=MA.t (k:=pk k) I (by rw[Kk];exact Z);rw[c3]at this;exact this
  refine⟨_,hg,?_⟩;simp only[Bf,BO,Ai,BX];refine⟨.ref p,hg,p,rfl,?_⟩;obtain⟨hv,L,fs,e⟩|⟨b,l,L,m,rfl,e⟩|⟨D,x,L,d2,rfl,e⟩:=J.kind
  .refine .inr ⟨⟨_,_,_,e,.inl rfl⟩,?_⟩;refine Ol ?_
   refine⟨_,KK.leaf.ty e,_,KK.lt,?_⟩;refine Ol ?_
   refine q2 ?_ _ Fr.refl
   have:Lj r k=AB:=by
    unfold Lj;rw[B];cases u<;>first|rfl|exact hv.elim
   rw[this];rfl
  .refine .inl ⟨_,_,_,e,?_⟩;show 4;cases b with
   |true=>
    refine Yy ?_
    obtain⟨_,_,_,_,_,_,_,_,E⟩:=Jb.1 J;obtain⟨kd3,x,hl⟩:=E rfl;obtain⟨jQ,m3,S,qs,f3,g3,j1,j2,j3,j4,j5,j6⟩:=fS J hl;refine⟨_,_,_,j1,T.LM,T.JU,_,LB _ _,_,Ip.of j2,.ref S,?_,?_⟩
    .unfold IG;rw[A8];exact Qz _ _
    have hs:Lj r k=U (λv=>DG r k (.array AF (l.dropLast++[v])),kd3,x):=by
     unfold Lj;rw[B];show 4;rw[hl]
    refine q1 _ _ _ (by rw[hs];rfl) _ S fp ⟨⟨M++g3,[]++O,f3,j5,c7.comp j6 λy y=>trivial,?_⟩,nd⟩ (λb hb=>.inl hb) Fr.refl;rw[c4,j4];simp
   |false=>
    refine Ol ?_
    refine⟨_,KK.array.ty e,_,KK.at_,?_⟩;refine Ol ?_
    refine q2 ?_ _ Fr.refl
    have:Lj r k=AB:=by
     unfold Lj;rw[B]
    rw[this];rfl
  refine .inr ⟨⟨_,_,_,e,.inr rfl⟩,?_⟩;refine Ol ?_
  refine⟨_,KK.table.ty e,_,Kw _ _,?_⟩;refine Yy ?_
  refine⟨_,_,_,e,T.JQ,T.Ku,_,WG _ _,?_⟩;show 4;obtain⟨_,_,_,_,_,_,_,_,_,pU,_⟩:=K0 J;by_cases F:D=3
  .subst F;have:decide (MY 3=4)=AF:=!1
   rw[this];refine bB ?_
   refine q2 ?_ _ Fr.refl
   have hs:Lj r k=AB:=by
    unfold Lj;rw[B];rfl
   rw[hs];rfl
  have:decide (MY D=4)=AJ:=by
   refine AM λz=>?_;exact F (Th pU (!1) z)
  rw[this];refine Xc ?_
  have hs:Lj r k=U (λv=>DG r k v,D,x):=by
   unfold Lj;rw[B];show 4;rw[AD F]
  exact q1 _ _ _ (by rw[hs];rfl) _ p fp ⟨⟨M,O,f1,J,c7.weak λy y=>trivial,c4⟩,nd⟩ (λb hb=>.inl hb) Fr.refl
def dst(r:Ae)(k:List Nat):Option ((AU->Ae)×Nat×Ae):=(Qu r k).map λs=>(s.1,2,s.2)
def U7(T:Txt K mg A)(KK:JH K A): !20 4 "table_by_key" ["table","part"] (ZF A dst):=by
 show 8 ["table","part","found"] 31;obtain⟨t,kp,kd,r,k,fp,rfl,J,nd,L,h4,q1,M⟩:=h;refine⟨_,(Gy (IS (KY (PH (Mm hr) (pv 1) (Ih (pv 0) rfl))) (Hm (Hy (Hr (Ox T) (Hz (pv 0) (Hz (pv 1) (Hn (Hx T.Vs))))))) IC)
   (Gy (IA (i:=2) (Qa (Mm hr) (Ih (pv 0) rfl) (pv 1) (λy y=>rfl)))
   (Gy (IS (PW.pt (J2 (Ik (IT JZ T.JP Iu (Hz (pv 2) (Hn (Je (cT T) rfl))))) (Jr (IB JB (Ih (pv 2) rfl) (Hx T.Vs))))) (Hm (Hy (pv 2))) IC)
   (Hm (JE T.Ia rfl))))),?_⟩
 obtain⟨dx,d,O,fl,F,G,i3,i4,i5,i6,i7⟩:=K0 J;simp![F,Kc F,T.JQ,T.IZ,JT];cases B:CC r k with
 |none=>
  have hs:dst r k=U (λv=>r++[(k,v)],2,[]):=by unfold dst Qu;rw[B];rfl
  refine⟨AB,?_,?_⟩
  .have:=MA.t (k:=pk k) G (by rw[Kk];exact L);rw[JR.Qc i3 B]at this;exact this
  simp only[Bp,Bd,BS];refine⟨t,d,dx,kp,_,1,O,k,rfl,F,G,L,JR.Qc i3 B,!3,λH1 S d2 n1 n2 n3 e1 e2 Y=>?_⟩;obtain⟨Z,g1,g2,g3⟩:=T6 (kd':=2) J nd B F G n1 n2 n3 e1 e2 Y (!1);exact q1 _ _ _ (by rw[hs];rfl) _ S Z g1 g2 g3
 |some u=>
  obtain⟨lN,d',Wq,p,Y,g1,g2,c1,c2,c3,c4,c5,c6,c7⟩:=PB J B;have ed:d'=d:=QP c1 F;subst ed;show 6 G c2;have hg:MA H d' (.ref kp) (U (.ref p)):=by
   have:=MA.t (k:=pk k) G (by rw[Kk];exact L);rw[c3]at this;exact this
  refine⟨_,hg,?_⟩;simp only[Bf,BO,Ai,BX];refine⟨.ref p,hg,?_⟩;have bad:(∀x,u≠ .table 2 x)->dst r k=AB:=by
   intro hu;unfold dst Qu;rw[B];cases u with
   |table D x=>
    show 4;rw[AD λz=>hu x (by rw[z])];rfl
   |_=>rfl
  obtain⟨hv,I,fs,e⟩|⟨b,l,I,m,rfl,e⟩|⟨D,x,I,d2,rfl,e⟩:=c5.kind
  .refine⟨_,KK.leaf.ty e,_,KK.lt,?_⟩;refine Ol ?_
   refine M ?_ _ Fr.refl
   rw[bad λx z=>by subst z;exact hv];rfl
  .refine⟨_,KK.array.ty e,_,KK.at_,?_⟩;refine Ol ?_
   refine M ?_ _ Fr.refl
   rw[bad λx z=>by cases z];rfl
  refine⟨_,KK.table.ty e,_,Kw _ _,?_⟩;refine Yy ?_
  refine⟨_,_,_,e,T.JQ,T.Ku,_,WG _ _,?_⟩;show 4;obtain⟨_,_,_,_,_,_,_,_,_,pU,_⟩:=K0 c5;by_cases E:D=2
  .subst E;have:decide (MY 2=1)=AF:=!1
   rw[this];refine Yy ?_
   have hs:dst r k=U (λv=>DG r k v,2,x):=by
    unfold dst Qu;rw[B];rfl
   exact q1 _ _ _ (by rw[hs];rfl) _ p fp ⟨⟨g1,g2,Y,c5,c7.weak λy y=>trivial,c4⟩,nd⟩ (λb hb=>.inl hb) Fr.refl
  have:decide (MY D=1)=AJ:=by
   refine AM λz=>?_;exact E (Th pU (!1) z)
  rw[this];refine Ol ?_
  refine M ?_ _ Fr.refl
  rw[bad λx z=>by cases z;exact E rfl];rfl
end
section
variable{P:BB}{w:BJ}{K:PySem.W.Frag}{mg:Str->Option Value}{base:Heap}{A:JL}{H H':Hp}
def KN.L3(h:KN A H p f v)(B:b∈ [p,f])(xs:List V):H b≠U (.tup xs):=by
 obtain⟨⟨dx,e⟩,e2⟩:=h;simp at B;obtain rfl|rfl:=B
 .rw[e];simp
 rw[e2];simp
mutual
theorem IL.L3: ∀{v:AU}{a:AK}{fp:List AK},IL A H v a fp-> ∀b∈fp,∀xs,H b≠U (.tup xs)
 |.array c l,a,fp,h,b,hb,xs=>by
  rw[Jb]at h;obtain⟨dx,m,ps,fl,h1,h2,h3,rfl,_⟩:=h;obtain rfl|rfl|hb:=gS.1 hb
  .rw[h1];simp
  .rw[h2];simp
  exact Ja.L3 h3 b hb xs
 |.table kd r,a,fp,h,b,hb,xs=>by
  rw[Ki]at h;obtain⟨dx,m,LZ,fl,h1,h2,h3,rfl,_⟩:=h;obtain rfl|rfl|hb:=gS.1 hb
  .rw[h1];simp
  .rw[h2];simp
  exact JR.L3 h3 b hb xs
 |.str t,a,fp,h,b,hb,xs=>by
  dsimp only[IL]at h;obtain⟨f,h1,rfl⟩:=h;exact h1.L3 hb xs
 |.int t,a,fp,h,b,hb,xs=>by
  dsimp only[IL]at h;obtain⟨f,h1,rfl⟩:=h;exact h1.L3 hb xs
 |.dec c m e,a,fp,h,b,hb,xs=>by
  dsimp only[IL]at h;obtain⟨f,h1,rfl⟩:=h;exact h1.L3 hb xs
 |.odd t,a,fp,h,b,hb,xs=>by
  dsimp only[IL]at h;obtain⟨f,h1,rfl⟩:=h;exact h1.L3 hb xs
 |.bool t,a,fp,h,b,hb,xs=>by
  dsimp only[IL]at h;obtain⟨f,h1,rfl⟩:=h;exact h1.L3 hb xs
 |.time t,a,fp,h,b,hb,xs=>by
  dsimp only[IL]at h;obtain⟨f,h1,rfl⟩:=h;exact h1.L3 hb xs
theorem Ja.L3: ∀{l:List AU}{ps fl:List AK},Ja A H l ps fl-> ∀b∈fl,∀xs,H b≠U (.tup xs)
 |[],ps,fl,h,b,hb,xs=>by rw[Kq]at h;rw[h.2]at hb;cases hb
 |v::l,ps,fl,h,b,hb,xs=>by
  rw[Jd]at h;obtain⟨p,jL,f1,f2,h1,rfl,h3,h4⟩:=h;obtain hb|hb:=AQ.1 hb
  .exact IL.L3 h3 b hb xs
  exact Ja.L3 h4 b hb xs
theorem JR.L3: ∀{r:List (List Nat×AU)}{LZ:List (List Key×V)}{fl:List AK},JR A H r LZ fl-> ∀b∈fl,∀xs,H b≠U (.tup xs)
 |[],ps,fl,h,b,hb,xs=>by rw[KP]at h;rw[h.2]at hb;cases hb
 |(x,v)::l,ps,fl,h,b,hb,xs=>by
  rw[Jc]at h;obtain⟨p,jL,f1,f2,h1,rfl,h3,h4⟩:=h;obtain hb|hb:=AQ.1 hb
  .exact IL.L3 h3 b hb xs
  exact JR.L3 h4 b hb xs
end
noncomputable abbrev qf:=Ae->List Nat->Option ((AU->Ae)×Nat×Ae)
def Q4(st:qf)(kd:Nat):List (List Nat)->Ae->Option ((AU->AU)×Nat×Ae)
 |[],r=>U (λv=>v,kd,r)
 |k::B,r=>(st r k).bind λs=>(Q4 st s.2.1 B s.2.2).map λz=>(λv=>.table kd (s.1 (z.1 v)),z.2)
theorem UB(st:qf): ∀(B:List (List Nat))(kd:Nat)(r:Ae)(l:List Nat),
  Q4 st kd (B++[l]) r=(Q4 st kd B r).bind λz=>(st z.2.2 l).map λs=>(λv=>z.1 (.table z.2.1 (s.1 v)),s.2)
 |[],kd,r,l=>by
  show Q4 st kd [l] r=(st r l).map λs=>(λv=>.table kd (s.1 v),s.2);dsimp only[Q4];cases st r l with
  |none=>rfl
  |some s=>rfl
 |k::B,kd,r,l=>by
  rw[Az,Q4,Q4];cases st r k with
  |none=>rfl
  |some s=>
   show 3;rw[UB st B s.2.1 s.2.2 l];cases Q4 st s.2.1 B s.2.2 with
   |none=>rfl
   |some z=>
    simp only[AE,Bq];cases st z.2.2 l<;>rfl
theorem UC(st:qf): ∀(B D:List (List Nat))(kd:Nat)(r:Ae),Q4 st kd B r=AB->Q4 st kd (B++D) r=AB
 |[],D,kd,r,h=>by cases h
 |k::B,D,kd,r,h=>by
  rw[Az,Q4];dsimp only[Q4]at h;cases e:st r k with
  |none=>rfl
  |some s=>
   rw[e]at h;simp only[AE]at h⊢;have:Q4 st s.2.1 B s.2.2=AB:=by
    cases e2:Q4 st s.2.1 B s.2.2 with
    |none=>rfl
    |some z=>show 6 e2 h
   rw[UC st B D _ _ this];rfl
theorem iE: ∀(B:List (List Nat))(kd:Nat)(r:Ae),(Q4 Lj kd B r=AB/\SX kd B r=AB)\/ ∃D C kd' x,Q4 Lj kd B r=U (D,kd',x)/\SX kd B r=U (C,kd',x)/\ ∀y,D (.table kd' y)=.table kd (C y)
 |[],kd,r=>.inr ⟨_,_,kd,r,rfl,rfl,λz=>rfl⟩
 |k::B,kd,r=>by
  rw[Q4,SX];cases e:Lj r k with
  |none=>exact .inl ⟨rfl,rfl⟩
  |some s=>
   show 3;obtain⟨E,F⟩|⟨D,C,kd',x,E,F,G⟩:=iE B s.2.1 s.2.2
   .rw[E,F];exact .inl ⟨rfl,rfl⟩
   rw[E,F];refine .inr ⟨_,_,kd',x,rfl,rfl,λy=>?_⟩;show 4;rw[G]
theorem iD: ∀(B:List (List Nat))(kd:Nat)(r:Ae),(Q4 dst kd B r=AB/\eK B r=AB)\/ ∃D C kd' x,Q4 dst kd B r=U (D,kd',x)/\eK B r=U (C,x)/\ ∀y,D (.table kd' y)=.table kd (C y)
 |[],kd,r=>.inr ⟨_,_,kd,r,rfl,rfl,λz=>rfl⟩
 |k::B,kd,r=>by
  rw[Q4,eK];unfold dst;cases e:Qu r k with
  |none=>exact .inl ⟨rfl,rfl⟩
  |some s=>
   simp only[AE,Bq];obtain⟨F,G⟩|⟨D,C,kd',x,F,G,I⟩:=iD B 2 s.2
   .have E:Q4 (λr k=>(Qu r k).map λs=>(s.1,2,s.2)) 2 B s.2=AB:=F;rw[E,G];exact .inl ⟨rfl,rfl⟩
   have E:Q4 (λr k=>(Qu r k).map λs=>(s.1,2,s.2)) 2 B s.2=U (D,kd',x):=F;rw[E,G];refine .inr ⟨_,_,kd',x,rfl,rfl,λy=>?_⟩;show 4;rw[I]
noncomputable def jC(st:qf):Prop:= ∀{r:Ae}{k:List Nat}{g:AU->Ae}{kd:Nat}{x:Ae},OK (λz=>True) r->st r k=U (g,kd,x)->wR IQ x<=wR IQ r
def cY:jC Lj:=λD h=>by
 obtain⟨_,_,n,_,B,_⟩:=Xf (P:=IQ) (p:=λz=>True) trivial D h;have e2:IQ.c1=0:=rfl;rw[e2]at B;have e3: ∀k,IQ.kw k=0:=λz=>rfl;rw[e3]at B
 lia
set_option tactic.hygienic true
def cZ:jC dst:=λ{r k g kd x} D h=>by
 unfold dst Qu at h;split at h
 .cases h;dsimp only[wR]
  nofun
 .rename_i B E q;split at h
  .cases h;have:=O4 (P:=IQ) q;rw[Io]at this;show 4
   nofun
  cases h
 cases h
set_option tactic.hygienic false
theorem K6.ok(h:K6 A H R T kd x D fp):OK (λz=>True) x:=by
 obtain⟨E,F,G,B,_⟩:=h.ex;exact(JI _ _).1 B.ok
theorem K5.get: ∀{B:List AK}{D:List (List Nat)},K5 H B D-> ∀{i:Nat}{x:V},(IG B)[i]? =U x-> ∃a k,x=.ref a/\D[i]? =U k/\H a=U (.tup (IH k))
 |_,_,.nil,i,x,h=>by simp[IG]at h
 |_,_,.cons e t,0,x,h=>by
  simp[IG]at h;exact⟨_,_,h.symm,rfl,e⟩
 |_,_,.cons e t,i+1,x,h=>by
  obtain⟨a,k,E,F,G⟩:=K5.get t (i:=i) (x:=x) (by simpa[IG]using h);exact⟨a,k,E,by simpa using F,G⟩
theorem IL.tup(h:IL A H v a fp)(f:Fr fp H H'): ∀b xs,H b=U (.tup xs)->H' b=U (.tup xs):=λb xs e=>f b _ e λz=>h.L3 b z xs e
def Wf(h:K6 A H R T kd x D fp)(B:wR IQ x<=n)(hn:n<=100000):x.length<Ac:=by
 have:=fQ x;have e:Ac=16777216:=CV
 lia
noncomputable def Ul(A:JL)(st:qf)(H:Hp)(R:AK)(kd:Nat)(r:Ae)(fp:List AK)(E:List (List Nat))(i:Nat)(S:AK)(H':Hp):Prop:=
 ∃D kd' x B,Q4 st kd (E.take i) r=U (D,kd',x)/\K6 A H' R S kd' x D B/\(∀b∈B,b∈fp\/H b=AB)/\Fr fp H H'/\wR IQ x<=wR IQ r
def Ul.start{st:qf}{r:Ae}(h:IL A H (.table kd r) R fp)(nd:fp.Nodup):Ul A st H R kd r fp D 0 R H:=
 ⟨λv=>v,kd,r,fp,rfl,K6.root h nd,λz B=>.inl B,Fr.refl,AR _⟩
def Ul.step{st:qf}{r:Ae}(lt:jC st)(h0:IL A H (.table kd r) R fp)(hw:wR IQ r<=100000)(p:Ul A st H R kd r fp B i S H')(hk:B[i]? =U k)(I:H' kp=U (.tup (IH k)))(q1: ∀Z H2,Ul A st H R kd r fp B (i+1) Z H2->Q (.ref Z) H2)(q2:Q4 st kd B r=AB-> ∀H2,Fr fp H H2->E (.ref A.wi) AB H2):ZF A st [.ref S,.ref kp] H' Q E:=by
 obtain⟨D,kd',x,Rt,g1,J,g3,g4,g5⟩:=p;obtain⟨L,c1,c2,c3,c4⟩:=J.deep;have Zf:B.take (i+1)=B.take i++[k]:=by
  rw[Cw,hk];rfl
 have sub: ∀b∈L,b∈fp\/H b=AB:=λb M=>g3 b (c3 b M);have F: ∀{H2:Hp},Fr L H' H2->Fr fp H H2:=λ{H2} f b o e n=>f b o (g4 b o e n) λz=>by
  obtain z|z:=sub b z
  .exact n z
  show 6 e z
 refine⟨S,kp,kd',x,k,L,rfl,c1,c2,I,Wf J g5 hw,?_,?_⟩
 .intro D2 G x2 e H2 S2 O hh hf f;cases e2:st x k with
  |none=>show 6 e2 e
  |some s=>
   obtain⟨s1,s2,s3⟩:=s;show 6 e2 e;obtain⟨Y,j1,j2⟩:=c4 H2 S2 G x2 (λv=>.table kd' (s1 v)) O f hh hf (λv y=>⟨_,_,rfl⟩);refine q1 S2 H2 ⟨λv=>D (.table kd' (s1 v)),G,x2,Y,?_,j1,λb M=>?_,F f,?_⟩
   .rw[Zf,UB,g1];show 3;rw[e2];rfl
   .obtain z|z:=j2 b M
    .exact g3 b z
    by_cases hz:b∈fp
    .exact .inl hz
    exact .inr (g4.none z hz)
   exact Aa (lt J.ok e2) g5
 intro e H2 f;cases e2:st x k with
 |some s=>show 6 e2 e
 |none=>
  refine q2 ?_ H2 (F f)
  have h1:Q4 st kd (B.take (i+1)) r=AB:=by
   rw[Zf,UB,g1];show 3;rw[e2];rfl
  have h2:=UC st (B.take (i+1)) (B.drop (i+1)) kd r h1;rw[As]at h2;exact h2
inductive bx (A:JL)(vs:List V)(H:Hp)(Q:VK)(E:XK):Prop
 |mk (R a:AK)(b:Nat)(r:Ae)(c d:List AK)(e:List (List Nat))(_:vs=[.ref R,.ref a])(_:IL A H (.table b r) R c)(_:c.Nodup)(_:H a=U (.lst (IG d)))(_:a∉c)(_:K5 H d e)(_:wR IQ r<=100000)(_:(∀S H',Ul A Lj H R b r c e e.length S H'->Q (.ref S) H'))(_:(Q4 Lj b e r=AB-> ∀H',Fr c H H'->E (.ref A.wi) AB H'))
def Ui(T:Txt K mg A)(KK:JH K A): !20 5 "go_along" ["root","parts"] (bx A):=by
 show 8 ["root","parts","table","part"] 36;obtain⟨R,pl,kd,r,fp,I,J,rfl,E,nd,L,O,M,Y,Z,q2⟩:=h;refine⟨_,(Gy (IA (i:=2) (pv 0))
   (Gy (LG Ag rfl (L7 (pv 1)) (JO (i:=3) S.nd rfl (CW rfl)) (Hm (IA (i:=2) (Hr (U6 T KK) (Hz (pv 2) (Hn (pv 3))) (hx:=Ig)))))
   (Hm (Hy (pv 2))))),?_⟩
 simp![];refine⟨⟨_,Ip.of L⟩,forL (xs:=IG I) (λi B H'=> ∃S z,Ul A Lj H R kd r fp J i S H'/\B=[U (.ref R),U (.ref pl),U (.ref S),z]) ⟨R,_,Ul.start E nd,rfl⟩ ?_ ?_ ?_⟩
 .rintro i B H' _ ⟨S,z,⟨D,kd',x,F,g1,g2,g3,G,g5⟩,rfl⟩;exact Ip.of (G _ _ L O)
 .rintro i x B H' hx ⟨S,z,p,rfl⟩;obtain⟨a,k,rfl,hk,ha⟩:=M.get hx;show _;simp![];have f:=p;obtain⟨D,kd',x,F,g1,g2,g3,G,g5⟩:=f;exact p.step cY E Y hk (E.tup G _ _ ha) (λS' H2 p2=>⟨S',p2,rfl,_,rfl⟩) q2
 rintro B H' ⟨S,z,p,rfl⟩;have:(IG I).length=J.length:=by unfold IG;rw[AY];exact M.length
 rw[this]at p;exact Z S H' p
def UR(xs:List V)(v:V):Ma (xs++[v]) AB (U (-1))=xs:=by
 unfold Ma;rw[HT.QU];have:HT.Va (xs++[v]).length (xs++[v]).length (U (-1))=xs.length:=by
  unfold HT.Va;show 4;rw[AI (!1),AG,Am]
  lia
 rw[this,DB,Gf,F1]
theorem K5.split: ∀{B:List AK}{i:List (List Nat)}{l:List Nat},K5 H B (i++[l])-> ∃ai al,B=ai++[al]/\K5 H ai i/\H al=U (.tup (IH l))
 |_,[],l,h=>by
  cases h with
  |cons e t=>cases t;exact⟨[],_,rfl,.nil,e⟩
 |_,k::i,l,h=>by
  cases h with
  |cons e t=>
   obtain⟨ai,al,D,E,F⟩:=K5.split t;exact⟨_::ai,al,by rw[D];rfl,.cons e E,F⟩
def KR(ai:List AK)(al:AK):IG (ai++[al])=IG ai++[V.ref al]:=by unfold IG;rw[A8];rfl
inductive rj (A:JL)(vs:List V)(H:Hp)(Q:VK)(E:XK):Prop
 |mk (R a p:AK)(c:Nat)(r:Ae)(v:AU)(d e f:List AK)(g:List (List Nat))(_:vs=[.ref R,.ref a,.ref p])(_:IL A H (.table c r) R d)(_:d.Nodup)(_:H a=U (.lst (IG f)))(_:a∉d)(_:K5 H f g)(_:g≠ [])(_:wR IQ r<=100000)(_:IL A H v p e)(_:e.Nodup)(_:(∀b∈e,b∉d))(_:(∀r',F0 v g r=U r'-> ∀H' Rt,IL A H' (.table c r') R Rt->Rt.Nodup->(∀b∈Rt,b∈d\/b∈e\/H b=AB)->Fr d H H'->Q .Jm H'))(_:(F0 v g r=AB-> ∀H',Fr d H H'->E (.ref A.wi) AB H'))
def Yp(T:Txt K mg A)(KK:JH K A): !20 5 "put_value" ["table","parts","thing"] (rj A):=by
 show 8 ["table","parts","thing","target","part"] 30;obtain⟨R,pl,p,kd,r,v,fp,fv,as,ks,rfl,h1,nd,h3,h4,h5,Uz,h6,hv,sv,I,q1,q2⟩:=h;obtain⟨i,l,rfl⟩:=K8 Uz;obtain⟨ai,al,rfl,ti,tl⟩:=h5.split;refine⟨_,(Gy (IA (i:=3) (pv 0))
   (Gy (LG Ag rfl (L7 (IY Ii (pv 1) Iz (IX (Kr J9 Ht)))) (JO (i:=4) S.nd rfl (CW rfl)) (Hm (IA (i:=3) (Hr (U7 T KK) (Hz (pv 3) (Hn (pv 4))) (hx:=Ig)))))
   (Gy (IS (KY (fw (Mm hr) (KS Jh (pv 1) (Kr J9 Ht) (λw w=>rfl)) (Ih (pv 3) rfl))) (Hm (JE T.Ia rfl)) IC)
   (Hm (WW (Mm hr) (Ih (pv 3) rfl) (KS Jh (pv 1) (Kr J9 Ht) (λw w=>rfl)) (pv 2) rfl))))),?_⟩
 refine II λN1 O=>?_;simp![];refine O _ _ (II λN2 Y=>?_);clear O;simp![];refine⟨_,Ip.of h3,λsl Z=>?_⟩;rw[KR,UR];obtain⟨H1,e1,E,s1⟩:=JV (xs:=IG ai) Z;rw[e1];have gs:sl∉fp:=λz=>h1.KO sl z Z;have F:IL A H1 (.table kd r) R fp:=h1.fr E (λw w=>by simp);have rR:K5 H1 ai i:=ti.keep λa xs e=>E _ _ e (!2);have back: ∀{H2:Hp},Fr fp H1 H2->Fr fp H H2:=λ{H2} f b o e n=>f b o (E b o e (!2)) n;have bad:Q4 dst kd i r=AB->F0 v (i++[l]) r=AB:=by
  intro e;obtain⟨_,e2⟩|⟨D,C,kd',x,e2,_⟩:=iD i kd r
  .rw[PQ,e2];rfl
  show 6 e e2
 refine⟨⟨_,Ip.of s1⟩,forL (xs:=IG ai) (λn σ H'=> ∃S z,Ul A dst H1 R kd r fp i n S H'/\σ=[U (.ref R),U (.ref pl),U (.ref p),U (.ref S),z]) ⟨R,_,Ul.start F nd,rfl⟩ ?_ ?_ ?_⟩
 .rintro n σ H' _ ⟨S,z,⟨D,kd',x,J,g1,g2,M,L,g5⟩,rfl⟩;exact Ip.of (L _ _ s1 gs)
 .rintro n x σ H' hx ⟨S,z,pv,rfl⟩;obtain⟨a,k,rfl,hk,ha⟩:=rR.get hx;show _;simp![];have ff:=pv;obtain⟨D,kd',x,J,g1,g2,M,L,g5⟩:=ff;exact pv.step cZ F h6 hk (F.tup L _ _ ha) (λS' H2 p2=>⟨S',p2,rfl,_,rfl⟩) λe H2 f=>q2 (bad e) H2 (back f)
 rintro σ H' ⟨S,z,pv,rfl⟩;have hlen:(IG ai).length=i.length:=by unfold IG;rw[AY];exact ti.length
 rw[hlen]at pv;refine Y _ _ ?_
 clear Y;obtain⟨D,kd',x,J,g1,g2,M,L,g5⟩:=pv;rw[BG]at g1;obtain⟨C,hC,hDC⟩: ∃C,eK i r=U (C,x)/\ ∀y,D (.table kd' y)=.table kd (C y):=by
  obtain⟨e2,_⟩|⟨D2,C,kd2,x2,e2,e3,e4⟩:=iD i kd r
  .show 6 g1 e2
  show 6 g1 e2;exact⟨C,e3,e4⟩
 have G:F0 v (i++[l]) r=if CC x l=AB then U (C (x++[(l,v)]))else AB:=by
  rw[PQ,hC];show 3;rw[UN];split<;>rfl
 obtain⟨fx,c1,c2,c3,c4⟩:=g2.put;obtain⟨dx,d,LZ,fl,i1,i2,i3,i4,i5,i6,i7⟩:=K0 c1;have Wz:=L _ _ (E _ _ h3 (!2)) h4;have eJ:H' al=U (.tup (IH l)):=F.tup L _ _ (E _ _ tl (!2));have hJ:MA H' d (.ref al) (Lp LZ (pk l)):=MA.t (k:=pk l) i2 (by rw[Kk];exact eJ);have pW:dv (IG (ai++[al])) (-1)=U (V.ref al):=by rw[KR];exact Qz _ _
 simp![i1,Kc i1,T.JQ,T.IZ,JT];refine⟨_,Ip.of Wz,_,pW,_,hJ,?_⟩;have dG:Fr fp H H':=back L;cases hf:CC x l with
 |some u=>
  obtain⟨p2,f2,k1,k2,_,_,c3,_⟩:=JR.find i3 i5 hf;rw[c3];simp only[Bf,BS];refine q2 ?_ _ dG
  rw[G,AD (by rw[hf];simp)]
 |none=>
  have g0:=JR.Qc i3 hf;rw[g0];simp only[Bp,Ai,BX];refine⟨_,Ip.of Wz,_,pW,_,Z7.t (k:=pk l) i2 (by rw[Kk];exact eJ) (by rw[i7];exact Wf g2 g5 h6),?_⟩;rw[TU _ g0];have hfx: ∀b∈fx,b∉fv:=λb B hbv=>by
   obtain z|z:=M b (c3 b B)
   .exact I b hbv z
   exact hv.KO b hbv (E.none z (!2))
  have hd:d∈fx:=by rw[i4];simp
  have x8:IL A H' v p fv:=hv.fr dG I;have hpv:p∉fx\/True:=.inr trivial;subst i4;have sp:=Sw (p:=p) i1 i2 i3 i5 i6 c2 hf (Fr.refl (W:=[]) (H:=H'));have bA:Fr (S::d::fl) H' (Hu H' d (.dT (LZ++[(pk l,.ref p)]))):=Fr.upd hd;have hr:=sp.2 _ v fv trivial (λw w=>rfl) (x8.fr bA λb B z=>hfx b z B);rw[An]at hr;obtain⟨fp2,j1,j2⟩:=c4 _ _ kd' _ _ bA (λb B=>.inl B) hr (by
   rw[A2];refine⟨c2,sv,?_⟩;rintro a ha b B rfl;exact hfx a ha B) (λb B=>by
   obtain B|B:=AQ.1 B
   .exact .inl B
   refine .inr λz=>?_;obtain z|z:=M b z
   .exact I b B z
   exact hv.KO b B (E.none z (!2)))
  have hw:=j1.whole;rw[hDC]at hw;refine q1 _ (by rw[G,AI hf]) _ fp2 hw j1.nd (λb B=>?_) ?_
  .have old: ∀b∈J,b∈fp\/b∈fv\/H b=AB:=λb B=>by
    obtain z|z:=M b B
    .exact .inl z
    exact .inr (.inr (E.none z (!2)))
   obtain z|z:=j2 b B
   .exact old b z
   obtain z|z:=AQ.1 z
   .exact old b (c3 b z)
   exact .inr (.inl z)
  intro b o e n;have B:=dG b o e n;refine bA b o B λz=>?_;obtain z|z:=M b (c3 b z)
  .exact n z
  rw[E b o e (!2)]at z;cases z
inductive ZK (A:JL)(act:List Nat->Ae->Option Ae)(vs:List V)(H:Hp)(Q:VK)(E:XK):Prop
 |mk (R a:AK)(r:Ae)(c d:List AK)(e:List (List Nat))(_:vs=[.ref R,.ref a])(_:IL A H (.table 1 r) R c)(_:c.Nodup)(_:H a=U (.lst (IG d)))(_:a∉c)(_:K5 H d e)(_:e≠ [])(_:wR IQ r<=100000)(_:(∀S H' C x D Rt,bS e C->C7 act e r=U (C x)->(∀y,wR IQ y<=wR IQ (C y))->(∀y,D (.table 1 y)=.table 1 (C y))->K6 A H' R S 1 x D Rt->(∀b∈Rt,b∈c\/H b=AB)->Fr c H H'->Q (.ref S) H'))(_:(C7 act e r=AB-> ∀H',Fr c H H'->E (.ref A.wi) AB H'))
def Zg{i:List (List Nat)}{y:Ae}{l:List Nat}(h:SX 1 i r=U (C,kd,x))(B:OK (λw=>True) r)(D:CC z l=U u)(F:wR IQ y<=wV IQ u):wR IQ y<=wR IQ (C z):=by
 obtain⟨_,_,n,E,_⟩:=Rr (P:=IQ) (p:=λw=>True) (λw w=>trivial) B h;have G:=O4 (P:=IQ) D;rw[E]
 lia
def Z9(k:Nat)(y:Ae):wR IQ y<=wV IQ (.table k y):=by rw[Io];nofun
def jX(B:List AU)(y:Ae):wR IQ y<=wV IQ (.array AF (B++[.table 1 y])):=by
 rw[J5,M5,Q8,Io]
 lia
def ax{act:List Nat->Ae->Option Ae}{l:List Nat}(F:Fr [] H G)(pv:Ul A Lj G R 1 r fp i i.length S H'):
  ∃D C kd x B,SX 1 i r=U (C,kd,x)/\(∀y,D (.table kd y)=.table 1 (C y))/\K6 A H' R S kd x D B/\(∀b∈B,b∈fp\/H b=AB)/\Fr fp H H'/\wR IQ x<=wR IQ r/\C7 act (i++[l]) r=(act l x).map C:=by
 obtain⟨D,kd,x,B,E,I,J,L,M⟩:=pv;rw[BG]at E;obtain⟨e2,_⟩|⟨Z,C,O,x2,e2,e3,e4⟩:=iE i 1 r
 .show 6 E e2
 show 6 E e2;refine⟨D,C,kd,x,B,e3,e4,I,λb Y=>?_,λb o e n=>L b o (F b o e (!2)) n,M,?_⟩
 .obtain z|z:=J b Y
  .exact .inl z
  exact .inr (F.none z (!2))
 rw[Md _ _ _ 1,e3];rfl
def Vt{act:List Nat->Ae->Option Ae}{l:List Nat}(e:Q4 Lj 1 i r=AB):C7 act (i++[l]) r=AB:=by
 obtain⟨_,e2⟩|⟨D,C,B,E,e2,_⟩:=iE i 1 r
 .rw[Md _ _ _ 1,e2];rfl
 show 6 e e2
def Uj(T:Txt K mg A)(KK:JH K A): !20 6 "come_to_table" ["root","parts"] (ZK A CG):=by
 show 8 ["root","parts","table","found"] 33;obtain⟨R,pl,r,fp,as,ks,rfl,h1,nd,h3,h4,h5,Uz,h6,q1,q2⟩:=h;obtain⟨i,l,rfl⟩:=K8 Uz;obtain⟨ai,al,rfl,ti,tl⟩:=h5.split;refine⟨_,(Gy (IA (i:=2) (Hr (Ui T KK) (Hz (pv 0) (Hn (IY Ii (pv 1) Iz (IX (Kr J9 Ht))))) (hx:=Ig)))
   (Gy (IS (KY (PH (Mm hr) (KS Jh (pv 1) (Kr J9 Ht) (λw w=>rfl)) (Ih (pv 2) rfl))) (Hm (Hy (Hr (Ox T) (Hz (pv 2) (Hz (KS Jh (pv 1) (Kr J9 Ht) (λw w=>rfl)) (Hn (Hx T.Ml))))))) IC)
   (Gy (IA (i:=3) (Qa (Mm hr) (Ih (pv 2) rfl) (KS Jh (pv 1) (Kr J9 Ht) (λw w=>rfl)) (λw w=>rfl)))
   (Gy (IS (PW.pt (J2 (Ik (IT JZ T.JP Iu (Hz (pv 3) (Hn (Je (cT T) rfl))))) (Jr (IB JB (Ih (pv 3) rfl) (Hx T.Vr))))) (Gy (Ko (pv 3) (Hx T.Ml) rfl)
   (Hm (Hy (pv 3)))) IC)
   (Hm (JE T.Ia rfl)))))),?_⟩
 refine II λN1 Nw=>?_;simp![];refine⟨_,Ip.of h3,λsl mq=>?_⟩;rw[KR,UR];obtain⟨H1,e1,f1,s1⟩:=JV (xs:=IG ai) mq;rw[e1];have gs:sl∉fp:=λz=>h1.KO sl z mq;have mx:IL A H1 (.table 1 r) R fp:=h1.fr f1 (λw w=>by simp);have rR:K5 H1 ai i:=ti.keep λa xs e=>f1 _ _ e (!2);refine⟨R,sl,1,r,fp,ai,i,rfl,mx,nd,s1,gs,rR,h6,λS H2 pv=>?_,λe H2 f=>q2 (Vt e) H2 λb o e n=>f b o (f1 b o e (!2)) n⟩;simp![];refine Nw _ _ ?_
 clear Nw;obtain⟨D,C,kd,x,Rt,g1,g2,g3,g4,L,g6,g7⟩:=ax (act:=CG) (l:=l) f1 pv;obtain⟨fx,c1,c2,c3,c4⟩:=g3.deep;obtain⟨dx,d,LZ,fl,i1,i2,i3,i4,i5,i6,i7⟩:=K0 c1;have M:=L _ _ h3 h4;have eJ:H2 al=U (.tup (IH l)):=h1.tup L _ _ tl;have B:MA H2 d (.ref al) (Lp LZ (pk l)):=MA.t (k:=pk l) i2 (by rw[Kk];exact eJ);have O:dv (IG (ai++[al])) (-1)=U (V.ref al):=by rw[KR];exact Qz _ _
 have vq: ∀{H3:Hp},Fr fx H2 H3->Fr fp H H3:=λ{H3} f b o e n=>f b o (L b o e n) λz=>by
  obtain z|z:=g4 b (c3 b z)
  .exact n z
  show 6 e z
 have old: ∀{H3:Hp}{E:List AK},(∀b∈E,b∈Rt\/H2 b=AB)-> ∀b∈E,b∈fp\/H b=AB:=λ{H3 E} hh b I=>by
  obtain z|z:=hh b I
  .exact g4 b z
  by_cases hz:b∈fp
  .exact .inl hz
  exact .inr (L.none z hz)
 simp![i1,Kc i1,T.JQ,T.IZ,JT];refine⟨_,Ip.of M,_,O,_,B,?_⟩;cases J:CC x l with
 |none=>
  have g0:=JR.Qc i3 J;rw[g0];simp only[Bp,Bd,BS];refine⟨_,Ip.of M,_,O,S,d,dx,al,_,2,LZ,l,rfl,i1,i2,eJ,g0,by rw[i7];exact Wf g3 g6 h6,λH3 N d2 n1 n2 n3 e1 e2 f3=>?_⟩;obtain⟨E,j1,j2,j3⟩:=T6 (kd':=1) c1 c2 J i1 i2 n1 n2 n3 e1 e2 f3 (!1);obtain⟨Y,k1,k2⟩:=c4 _ N 1 [] _ E j3 j1 j2 λv w=>⟨_,_,rfl⟩;have F:CG l x=U (x++[(l,.table 1 [])]):=by unfold CG;rw[J]
  obtain⟨_,_,G⟩|⟨xx,z,_⟩:=Vy g1 F
  .refine q1 N _ _ [] _ Y G ?_ (λy=>Zg g1 ((JI _ _).1 h1.ok) (Kn J) (Z9 _ _)) (λy=>g2 _) k1 (old (H3:=H3) k2) (vq j3)
   rw[g7,F];rfl
  show 6 J z
 |some u=>
  obtain⟨lN,d',Wq,p,lK,k1,k2,b1,b2,b3,b4,b5,b6,b7⟩:=PB c1 J;have ed:d'=d:=QP b1 i1;subst ed;show 6 i2 b2;rw[b3]at B⊢;simp only[Bf,BO,Ai,BX];refine⟨_,Ip.of M,_,O,.ref p,B,?_⟩;have bad:(∀y,u≠ .table 0 y)->C7 CG (i++[l]) r=AB:=by
   intro hu;rw[g7];have:CG l x=AB:=by
    unfold CG;rw[J];cases u with
    |table Z y=>
     show 4;rw[AD λz=>hu y (by rw[z])]
    |_=>rfl
   rw[this];rfl
  obtain⟨hv,iW,fs,e⟩|⟨b,lv,iW,m,rfl,e⟩|⟨Z,y,iW,d2,rfl,e⟩:=b5.kind
  .refine⟨_,KK.leaf.ty e,_,KK.lt,?_⟩;refine Ol ?_
   exact q2 (bad λy z=>by subst z;exact hv) _ L
  .refine⟨_,KK.array.ty e,_,KK.at_,?_⟩;refine Ol ?_
   exact q2 (bad λy z=>by cases z) _ L
  refine⟨_,KK.table.ty e,_,Kw _ _,?_⟩;refine Yy ?_
  refine⟨_,_,_,e,T.JQ,T.Ku,_,WG _ _,?_⟩;show 4;obtain⟨jQ,d3,kv3,fl3,o1,o2,o3,o4,o5,o6,o7⟩:=K0 b5;by_cases zN:Z=0
  .subst zN;have:decide (MY 0=3)=AF:=!1
   rw[this];refine Yy ?_
   refine⟨_,_,_,o1,T.JQ,T.Ku,nh _ _,?_⟩;rw[ng];have ndx:=c2;rw[b4,A2,A2]at ndx;obtain⟨m1,⟨m2,m3,m4⟩,m5⟩:=ndx;have yQ:p∈lK:=by rw[o4];simp
   have hpx:p∈fx:=by rw[b4];simp[yQ]
   have xW: ∀b∈k1++k2,b∉ [p]:=by
    intro b I hx;rw[AV.1 hx,AQ]at I;obtain I|I:=I
    .exact m5 p I p (by simp[yQ]) rfl
    exact m4 p yQ p I rfl
   have hr:=br (H:=H2) (T:=p) (dx:=jQ) (kd:=0) (kd':=1) o2 o3 o5 (!1) (by rw[<-o4];exact m2);rw[<-o4]at hr;have j1:K6 A (Hu H2 p (.ins A.table jQ (tf (MY 1) d3))) S p 1 y (λv=>.table kd (DG x l v)) fx:=⟨⟨k1,k2,lK,hr,(b7.weak λw w=>trivial).fr (W:=[p]) (Fr.upd (!2)) xW,b4⟩,c2⟩;obtain⟨Y,t1,t2⟩:=c4 _ p 1 y _ fx (Fr.upd hpx) j1 (λb I=>.inl I) λv w=>⟨_,_,rfl⟩;have F:CG l x=U (DG x l (.table 1 y)):=by unfold CG;rw[J];rfl
   obtain⟨z,_⟩|⟨xx,z,_,G⟩:=Vy g1 F
   .show 6 J z
   refine q1 p _ _ y _ Y G ?_ (λy=>Zg g1 ((JI _ _).1 h1.ok) (JD _ _ (by rw[J];simp)) (Z9 _ _)) (λy=>g2 _) t1 (old (H3:=H2) t2) (vq (Fr.upd hpx))
   rw[g7,F];rfl
  have:decide (MY Z=3)=AJ:=by
   refine AM λz=>?_;exact zN (Th o6 (!1) z)
  rw[this];refine Ol ?_
  exact q2 (bad λy z=>by cases z;exact zN rfl) _ L
def SF(T:Txt K mg A)(KK:JH K A): !20 6 "come_to_member" ["root","parts"] (ZK A Cp):=by
 show 8 ["root","parts","table","found","member"] 34;obtain⟨R,pl,r,fp,as,ks,rfl,h1,nd,h3,h4,h5,Uz,h6,q1,q2⟩:=h;obtain⟨i,l,rfl⟩:=K8 Uz;obtain⟨ai,al,rfl,ti,tl⟩:=h5.split;refine⟨_,(Gy (IA (i:=2) (Hr (Ui T KK) (Hz (pv 0) (Hn (IY Ii (pv 1) Iz (IX (Kr J9 Ht))))) (hx:=Ig)))
   (Gy (IS (KY (PH (Mm hr) (KS Jh (pv 1) (Kr J9 Ht) (λw w=>rfl)) (Ih (pv 2) rfl))) (Hm (WW (Mm hr) (Ih (pv 2) rfl) (KS Jh (pv 1) (Kr J9 Ht) (λw w=>rfl)) (Jl (X1 T) (Hz (Ib ML) (Hn ND))) rfl)) IC)
   (Gy (IA (i:=3) (Qa (Mm hr) (Ih (pv 2) rfl) (KS Jh (pv 1) (Kr J9 Ht) (λw w=>rfl)) (λw w=>rfl)))
   (Gy (IS (LV (Ik (Hr (Ys T KK) (Hn (pv 3))))) (Hm (JE T.Ia rfl)) IC)
   (Gy (IA (i:=4) (Jl (Qj T) (Hn (Hx T.Ml))))
   (Gy (IK (KZ PySem.F.plainAttrs_list PySem.F.slot_list_append PySem.F.type_list_append Jg (Ih (pv 3) rfl) (Hn (pv 4))))
   (Hm (Hy (pv 4))))))))),?_⟩
 refine II λN1 Nw=>?_;simp![];refine⟨_,Ip.of h3,λsl mq=>?_⟩;rw[KR,UR];obtain⟨H1,e1,f1,s1⟩:=JV (xs:=IG ai) mq;rw[e1];have gs:sl∉fp:=λz=>h1.KO sl z mq;have mx:IL A H1 (.table 1 r) R fp:=h1.fr f1 (λw w=>by simp);have rR:K5 H1 ai i:=ti.keep λa xs e=>f1 _ _ e (!2);refine⟨R,sl,1,r,fp,ai,i,rfl,mx,nd,s1,gs,rR,h6,λS H2 pv=>?_,λe H2 f=>q2 (Vt e) H2 λb o e n=>f b o (f1 b o e (!2)) n⟩;simp![];refine Nw _ _ (II λN2 Pg=>?_);clear Nw;obtain⟨D,C,kd,x,Rt,g1,g2,g3,g4,g5,g6,g7⟩:=ax (act:=Cp) (l:=l) f1 pv;obtain⟨Z,c1,c2,c3,c4⟩:=g3.deep;obtain⟨dx,d,LZ,fl,i1,i2,i3,i4,i5,i6,i7⟩:=K0 c1;have Wz:=g5 _ _ h3 h4;have eJ:H2 al=U (.tup (IH l)):=h1.tup g5 _ _ tl;have hJ:MA H2 d (.ref al) (Lp LZ (pk l)):=MA.t (k:=pk l) i2 (by rw[Kk];exact eJ);have pW:dv (IG (ai++[al])) (-1)=U (V.ref al):=by rw[KR];exact Qz _ _
 have vq: ∀{H3:Hp},Fr Z H2 H3->Fr fp H H3:=λ{H3} f b o e n=>f b o (g5 b o e n) λz=>by
  obtain z|z:=g4 b (c3 b z)
  .exact n z
  show 6 e z
 have old: ∀{H3:Hp}{uH:List AK},(∀b∈uH,b∈Rt\/H2 b=AB)-> ∀b∈uH,b∈fp\/H b=AB:=λ{H3 uH} hh b B=>by
  obtain z|z:=hh b B
  .exact g4 b z
  by_cases hz:b∈fp
  .exact .inl hz
  exact .inr (g5.none z hz)
 have tail: ∀(H3:Hp)(a m E:AK)(ps I k1 k2:List AK)(J:List AU)(pC:List (List Key×V))(x':Ae)(Dx:AU->AU),Fr Z H2 H3->(∃dx,H3 S=U (.ins A.table dx (tf (MY kd) d)))->H3 d=U (.dT pC)->Lp pC (pk l)=U (.ref a)→
   H3 a=U (.ins A.array E (i9 m AF))->H3 m=U (.lst (IG ps))->Ja A H3 J ps I->Mb A H3 S a (λw=>True) Dx k1 k2->(k1++((a::m::I)++k2)).Nodup->(∀b∈k1++((a::m::I)++k2),b∈Z\/H2 b=AB)->(∀v,Dx v=.table kd (DG x' l v))->J.length<=100000→
   ((CC x l=AB/\J=[]/\x'=x++[(l,.array AF [])])\/(CC x l=U (.array AF J)/\x'=x))->N2 [U (V.ref R),U (V.ref pl),U (V.ref S),AB,AB] H3:=by
  intro H3 a m E ps I k1 k2 J pC x' Dx Y hS hd hva ha hm hl hc hn vc hDx hlen hx;refine Pg _ _ ?_
  obtain⟨dxS,hS⟩:=hS;have plx:pl∉Z:=λz=>by
   obtain y|y:=g4 pl (c3 pl z)
   .exact h4 y
   show 6 h3 y
  have yO:=Y _ _ Wz plx;have zF:=c1.tup Y _ _ eJ;have tY:MA H3 d (.ref al) (U (.ref a)):=by
   have:=MA.t (k:=pk l) hd (by rw[Kk];exact zF);rw[hva]at this;exact this
  simp![hS,Kc hS,T.JQ,T.IZ,JT,KL];refine⟨_,Ip.of yO,_,pW,_,tY,a,rfl,.inl ⟨_,_,_,ha,?_⟩⟩;refine bB ?_
  intro N qP hN iA Uz;refine⟨N,qP,_,rfl,Hq,λH4 d2 M e1 e2 f4=>⟨rfl,?_⟩⟩;have pZ:d2≠N:=λz=>by rw[z,Hq]at M;cases M
  have iB:d2≠qP:=λz=>by rw[Hv pZ,z,Hq]at M;cases M
  rw[Hv pZ,Hv iB]at M;have nB:Fr [] H3 H4:=λb o e w=>by
   have n1:b≠N:=IJ e hN;have n2:b≠qP:=IJ e iA;exact f4 b o (by rw[Hv n1,Hv n2];exact e) (!8 n1)
  refine⟨_,_,_,nB _ _ ha (!2),T.LM,T.JU,.ref m,LB _ _,Im (nB _ _ hm (!2)),_,nB _ _ hm (!2),?_,?_⟩
  .have h9:=hl.length;have e9:Ac=16777216:=CV;unfold IG;rw[AY]
   lia
  have vV:=hn;rw[A2,A2]at vV;obtain⟨m1,⟨m2,m3,m4⟩,m5⟩:=vV;have sm:=Xg (p:=N) ha hm hl m2 nB;have jN:Fr [m] H3 (Hu H4 m (.lst (IG ps++[V.ref N]))):=λb o e n=>by
   have nb:b≠m:=by simpa using n
   rw[Hv nb];exact nB b o e (!2)
  have KO: ∀b∈k1++((a::m::I)++k2),H3 b≠AB:=by
   intro b B;simp only[AQ]at B;obtain B|B|B:=B
   .exact hc.1 b (by simp[B])
   .obtain rfl|rfl|B:=gS.1 B
    .rw[ha];simp
    .rw[hm];simp
    exact hl.KO b B
   exact hc.1 b (by simp[B])
  have zJ:N∉k1++((a::m::I)++k2):=λz=>KO N z hN;have yz:d2∉k1++((a::m::I)++k2):=λz=>KO d2 z M;have hmN:N≠m:=λz=>zJ (by rw[z];simp);have yf:d2≠m:=λz=>yz (by rw[z];simp);have hc5:=hc.fr jN (λb B z=>by
   rw[AV.1 z,AQ]at B;obtain B|B:=B
   .exact m5 m B m (!2) rfl
   exact m4 m (!2) m B rfl)
  have hT:IL A (Hu H4 m (.lst (IG ps++[V.ref N]))) (.table 1 []) N [N,d2]:=M9 (fp:=[]) ((Hv hmN).trans e2) ((Hv yf).trans e1) (KP.2 ⟨rfl,rfl⟩) (!2) (!1);have j1:K6 A (Hu H4 m (.lst (IG ps++[V.ref N]))) S N 1 [] (λv=>Dx (.array AF (J++[v]))) ((k1++(a::m::I))++([N,d2]++([]++k2))):=by
   refine⟨⟨_,_,_,hT,hc5.comp sm λw w=>trivial,rfl⟩,?_⟩;rw[A6,A2,A2,A2];refine⟨⟨m1,m2,λp G q L e=>m5 p G q (by simp only[AQ];exact .inl L) e⟩,⟨by simp[Ne.symm pZ],m3,?_⟩,?_⟩
   .rintro p G q L rfl;simp only[AO,Ba,C6]at G;obtain rfl|rfl:=G
    .exact zJ (by simp[L])
    exact yz (by simp[L])
   rintro p G q L rfl;rw[AQ]at L;obtain L|L:=L
   .simp only[AO,Ba,C6]at L;obtain rfl|rfl:=L
    .exact zJ (by simp only[AQ]at G⊢;obtain G|G:=G<;>simp[G])
    exact yz (by simp only[AQ]at G⊢;obtain G|G:=G<;>simp[G])
   rw[AQ]at G;obtain G|G:=G
   .exact m5 p G p (by simp[L]) rfl
   exact m4 p G p L rfl
  have nw: ∀b,H3 b=AB->b∈Z\/H2 b=AB:=λb B=>by
   by_cases z:b∈Z
   .exact .inl z
   exact .inr (Y.none B z)
  have f5:Fr Z H2 (Hu H4 m (.lst (IG ps++[V.ref N]))):=λb o e n=>by
   have nb:b≠m:=λz=>by
    obtain y|y:=vc m (!2)
    .exact n (z▸y)
    rw[<-z,e]at y;cases y
   exact jN b o (Y b o e n) (!8 nb)
  obtain⟨fp6,t1,t2⟩:=c4 _ N 1 [] _ _ f5 j1 (λb B=>by
   rw[A6]at B;simp only[AQ]at B;obtain(B|B)|B|B:=B
   .exact vc b (by simp[B])
   .exact vc b (by simp only[AQ];exact .inr (.inl B))
   .simp only[AO,Ba,C6]at B;obtain rfl|rfl:=B
    .exact nw _ hN
    exact nw _ M
   exact vc b (by simp[B])) λv w=>⟨_,_,hDx _⟩
  obtain⟨w1,w2⟩:=Zh g1 hx;have hx':CC x' l≠AB:=by
   obtain⟨z,rfl,rfl⟩|⟨z,rfl⟩:=hx
   .rw[Kn z];simp
   rw[z];simp
  refine q1 N _ _ [] _ fp6 w2 ?_ (λy=>Zg g1 ((JI _ _).1 h1.ok) (JD _ _ hx') (jX _ _)) (λy=>?_) t1 (old (H3:=H3) t2) (vq f5)
  .rw[g7,w1];rfl
  rw[hDx];exact g2 _
 simp![i1,Kc i1,T.JQ,T.IZ,JT,KL];refine⟨_,Ip.of Wz,_,pW,_,hJ,?_⟩;cases hf:CC x l with
 |none=>
  have g0:=JR.Qc i3 hf;rw[g0];simp only[Bp,Bd,BS];refine⟨Iv (!1),λm hm a E ha O Uz=>⟨a,E,[.ref m,.bl AF],rfl,rfl,Hq,rfl,?_⟩⟩;have vm:a≠m:=λz=>by rw[z,Hq]at ha;cases ha
  have Vv:E≠m:=λz=>by rw[z,Hq]at O;cases O
  rw[Hv vm]at ha;rw[Hv Vv]at O;generalize vn:Hu (Hu (Hu (Hu H2 m (.lst [])) E (.own a)) a (.ins A.array E [])) a (.ins A.array E (af [.ref m,.bl AF]))=H3;have Y:Fr [] H2 H3:=λb o e w=>by
   rw[<-vn,Hv (IJ e ha),Hv (IJ e ha),Hv (IJ e O),Hv (IJ e hm)];exact e
  have ea:H3 a=U (.ins A.array E (i9 m AF)):=by rw[<-vn,Hq];rfl
  have em:H3 m=U (.lst []):=by rw[<-vn,Hv (Ne.symm vm),Hv (Ne.symm vm),Hv (Ne.symm Vv),Hq]
  refine⟨_,_,_,Y _ _ i1 (!2),T.JQ,T.IZ,_,JT _ _,_,Ip.of (Y _ _ Wz (!2)),_,pW,_,Z7.t (k:=pk l) (Y _ _ i2 (!2)) (by rw[Kk];exact Y _ _ eJ (!2)) (by rw[i7];exact Wf g3 g6 h6),?_⟩;rw[TU _ g0];have yt:d∈Z:=by rw[i4];simp
  have tu:a∉Z:=λz=>c1.KO a z ha;have tM:m∉Z:=λz=>c1.KO m z hm;have zG:a≠d:=λz=>tu (z▸yt);have yf:m≠d:=λz=>tM (z▸yt);have hSd:S≠d:=by
   have:=c2;rw[i4,BP]at this;exact λz=>this.1 (by rw[z];simp)
  have sp:=Sw (p:=a) i1 i2 i3 i5 i6 (by rw[<-i4];exact c2) hf Y;rw[<-i4]at sp;refine tail _ a m E [] [] Z [] [] (LZ++[(pk l,.ref a)]) (x++[(l,.array AF [])]) _ ?_ ⟨dx,by rw[Hv hSd];exact Y _ _ i1 (!2)⟩ Hq ?_ ((Hv zG).trans ea) ((Hv yf).trans em) (Kq.2 ⟨rfl,rfl⟩) sp ?_ ?_ (λv=>by rw[Kh hf]) (!2) (.inl ⟨hf,rfl,rfl⟩)
  .intro b o e n;have nb:b≠d:=λz=>n (z▸yt);rw[Hv nb];exact Y b o e (!2)
  .rw[VL _ _ _ _ g0,AI rfl]
  .rw[An,A2];refine⟨c2,by simp[vm],?_⟩;rintro p G q L rfl;simp only[AO,Ba,C6]at L;obtain rfl|rfl:=L
   .exact tu G
   exact tM G
  intro b B;rw[An,AQ]at B;obtain B|B:=B
  .exact .inl B
  simp only[AO,Ba,C6]at B;obtain rfl|rfl:=B
  .exact .inr ha
  exact .inr hm
 |some u=>
  obtain⟨lN,d',Wq,p,lK,k1,k2,b1,b2,b3,b4,b5,b6,b7⟩:=PB c1 hf;have ed:d'=d:=QP b1 i1;subst ed;show 6 i2 b2;rw[b3]at hJ⊢;simp only[Bf,BO,Ai,BX];by_cases pj: ∃J,u=.array AF J
  .obtain⟨J,rfl⟩:=pj;obtain⟨E,m,ps,I,o1,o2,o3,o4,o5⟩:=Jb.1 b5;have hw:wV IQ (.array AF J)<=wR IQ x:=O4 hf;rw[J5]at hw;have hvl:=eV J;refine tail H2 p m E ps I k1 k2 J LZ x _ Fr.refl ⟨_,i1⟩ i2 b3 o1 o2 o3 b7 ?_ ?_ (λv=>rfl) (!3) (.inr ⟨hf,rfl⟩)
   .rw[<-o4,<-b4];exact c2
   intro b B;rw[<-o4,<-b4]at B;exact .inl B
  refine Pg _ _ ?_
  simp![i1,Kc i1,T.JQ,T.IZ,JT,KL];have bad:C7 Cp (i++[l]) r=AB:=by
   rw[g7];have:Cp l x=AB:=by
    unfold Cp;rw[hf];cases u with
    |array b J=>
     cases b with
     |true=>exact absurd ⟨J,rfl⟩ pj
     |false=>rfl
    |_=>rfl
   rw[this];rfl
  refine⟨_,Ip.of Wz,_,pW,_,hJ,p,rfl,?_⟩;obtain⟨hv,iW,fs,e⟩|⟨b,J,iW,m,rfl,e⟩|⟨kd2,y,iW,d2,rfl,e⟩:=b5.kind
  .refine .inr ⟨⟨_,_,_,e,.inl rfl⟩,?_⟩;refine Xc ?_
   exact q2 bad _ g5
  .cases b with
   |true=>exact absurd ⟨J,rfl⟩ pj
   |false=>
    refine .inl ⟨_,_,_,e,?_⟩;refine Xc ?_
    exact q2 bad _ g5
  refine .inr ⟨⟨_,_,_,e,.inr rfl⟩,?_⟩;refine Xc ?_
  exact q2 bad _ g5
end
section
variable{P:BB}{w:BJ}{K:PySem.W.Frag}{mg:Str->Option Value}{base:Heap}{A:JL}
def JN.qE(h:JN A H c B t)(f:Fr W H H')(D:c∉W)(ha:B.ao∉W):JN A H' c B t:=by
 obtain⟨dx,ao,p,e1,e2,e3,e4⟩:=h.ex;have:=h.ao e1;subst this;exact⟨⟨dx,B.ao,p,f _ _ e1 D,f _ _ e2 ha,e3,e4⟩,⟨dx,p,f _ _ e1 D⟩,h.small,h.bytes⟩
def JN.KO(h:JN A H c B t):H c≠AB/\H B.ao≠AB:=by
 obtain⟨dx,ao,p,e1,e2,e3,e4⟩:=h.ex;have:=h.ao e1;subst this;rw[e1,e2];simp
def JN.sf(h:JN A H c B t):t<:+B.b:=by
 obtain⟨dx,ao,p,e1,e2,rfl,e4⟩:=h.ex;exact CO _ _
def JN.gd(h:JN A H c B t)(g:Gd B.b): ∃a,Gd (a++t):=by
 obtain⟨a,ha⟩:=h.sf;exact⟨a,by rw[ha];exact g⟩
noncomputable def qi(A:JL)(H:Hp)(c:AK)(D:Tx)(n:Nat)(t:List Nat)(Q:VK)(E:XK):Prop:=
 (∀v r,VO n t v r-> ∀H' p B,IL A H' v p B->B.Nodup->(∀b∈B,H b=AB)->JN A H' c D r->Fr [c] H H'->Q (.ref p) H')/\(VD n t-> ∀H',Fr [c] H H'->E (.ref A.wi) AB H')
inductive SH (A:JL)(n:Nat)(vs:List V)(H:Hp)(Q:VK)(E:XK):Prop
 |mk (c:AK)(m:Nat)(a:Tx)(t:List Nat)(_:vs=[.ref c,.int (32-(m:Int))])(_:m<=n)(_:JN A H c a t)(_:Gd a.b)(_:qi A H c a m t Q E)
inductive WO (A:JL)(n:Nat)(vs:List V)(H:Hp)(Q:VK)(E:XK):Prop
 |mk (c:AK)(m:Nat)(a:Tx)(r:List Nat)(_:vs=[.ref c,.int (32-(m:Int))])(_:m<=n)(_:JN A H c a (91::r))(_:Gd a.b)(_:qi A H c a (m+1) (91::r) Q E)
inductive WM (A:JL)(n:Nat)(vs:List V)(H:Hp)(Q:VK)(E:XK):Prop
 |mk (c:AK)(m:Nat)(a:Tx)(r:List Nat)(_:vs=[.ref c,.int (32-(m:Int))])(_:m<=n)(_:JN A H c a (123::r))(_:Gd a.b)(_:qi A H c a (m+1) (123::r) Q E)
noncomputable def uc(A:JL)(H H':Hp)(T:AK)(kd:Nat)(rows:Ae)(fp:List AK)(n:Nat)(t r:List Nat):Prop:=
 (∃B D,Pr n rows t (B,r)/\IL A H' (.table kd B) T D/\D.Nodup/\ ∀b∈D,b∈fp\/H b=AB)\/(Dm r/\PD n rows t)
inductive fG (A:JL)(n:Nat)(vs:List V)(H:Hp)(Q:VK)(E:XK):Prop
 |mk (c T:AK)(m a:Nat)(d:Tx)(t:List Nat)(e:Ae)(f:List AK)(_:vs=[.ref c,.ref T,.int (32-(m:Int))])(_:m<=n)(_:JN A H c d t)(_:Gd d.b)(_:IL A H (.table a e) T f)(_:f.Nodup)(_:c∉f)(_:d.ao∉f)(_:wR IQ e<=100000)(_:(∀r H',uc A H H' T a e f m t r->JN A H' c d r->Fr (c::f) H H'->Q .Jm H'))(_:(PD m e t-> ∀H',Fr (c::f) H H'->E (.ref A.wi) AB H'))
def bQ{t:List Nat}(h: ∀k r,ky t=U k->k.2=61::r->VD n (A3 r)):PD n rows t:=by
 intro y D;obtain⟨k,r,x,B,E,F,G,I,rfl⟩:=P7.1 D;exact h k r E F x G
def R0(T:Txt K mg A)(TT:LN K mg)(KK:JH K A)(B:FnAt P w K mg base (10+3*n) "read_value" ["cursor","depth"] [] (SH A n)):FnAt P w K mg base (10+3*n+1) "read_pair" ["cursor","table","depth"] [] (fG A n):=by
 show 8 ["cursor","table","depth","parts"] 68;obtain⟨c,tb,m,kd,ts,t,rows,fp,rfl,hm,hc,hg,Y,nd,Z,lC,hw,q1,q2⟩:=h;refine⟨_,(Gy (IA (i:=3) (Hr (QK T TT) (Hn (pv 0)) (hx:=Ig) (hr:=hr.mono (!5))))
   (Gy (IK (Ie (JX T) (pv 0) (Hx T.gr) (hx:=Ig) (hr:=hr.mono (!5))))
   (Gy (IK (ID (JC T) (pv 0) (hr:=hr.mono (!5))))
   (Hm (IK (Hr (Yp T KK) (Hz (pv 1) (Hz (pv 3) (Hn (Hr B (Hz (pv 0) (Hn (pv 2))) (hx:=Ig) (hr:=hr.mono (!5)))))) (hx:=Ig) (hr:=hr.mono (!5)))))))),?_⟩
 refine II λN1 Nw=>?_;simp?! [];refine⟨c,ts,t,rfl,hc,λx ex H1 pl as Wz yP tl c1 f1=>?_,λen H1 f1=>q2 (bQ λk r z=>by show 6 en z) H1 (f1.mono (!2))⟩;simp?! [];refine Nw _ _ ?_
 clear Nw;simp?! [];obtain⟨kp1,kp2,kp3,kp4⟩:=LJ ex;refine⟨c,61,ts,x.2,rfl,c1,!1,λy0 r0 e5 e6 H2 c2 f2=>?_,λUz=>q2 (bQ λk r E I=>?_) H1 (f1.mono (!2))⟩
 rotate_left
 .show 6 ex E;rw[I]at Uz;exact absurd rfl Uz
 have e61:y0=61:=!5
 subst e61;refine⟨c,ts,r0,rfl,c2,λH3 c3 f3=>?_⟩;have J:Fr [c] H H3:=(f1.trans f2).trans f3;refine⟨c,m,ts,_,rfl,hm,c3,hg,λv r qy H4 p fv hv sv L c4 f4=>?_,λF H4 f4=>?_⟩
 .have M:Fr [c] H H4:=J.trans f4;have f24:Fr [c] H1 H4:=(f2.trans f3).trans f4;have yN:pl∉ [c]:=by
   intro z;rw[AV.1 z]at Wz;exact hc.KO.1 Wz
  have hr4:IL A H4 (.table kd rows) tb fp:=Y.fr M λb O z=>Z (by rw[<-AV.1 z];exact O);have yM:pl∉fp:=λz=>Y.KO pl z Wz;have tl4:K5 H4 as x.1:=tl.keep (Fr.tup c1 f24);have fvd: ∀b∈fv,b∉fp:=λb O z=>by
   have hbn:b∉ [c]:=λy=>Z (by rw[<-AV.1 y];exact z);exact Y.KO b z (J.none (L b O) hbn)
  have y6:c∉fv:=λz=>c3.KO.1 (L c z);have ABK:ts.ao∉fv:=λz=>c3.KO.2 (L _ z);refine⟨tb,pl,p,kd,rows,v,fp,fv,as,x.1,rfl,hr4,nd,f24 _ _ yP yN,yM,tl4,kp2,hw,hv,sv,fvd,λD hd H5 Rt hr5 hn5 yq f5=>?_,λhd H5 f5=>?_⟩
  .have qJ:Fr (c::fp) H H5:=(M.mono (!2)).trans (f5.mono (by intro b O;simp[O]));refine q1 r H5 ?_ (c4.qE f5 Z lC) qJ
   obtain G|⟨Vv,F⟩:=qy
   .refine .inl ⟨D,Rt,P7.2 ⟨x,r0,(v,r),D,ex,e5,G,hd,rfl⟩,hr5,hn5,λb O=>?_⟩;have back:H4 b=AB->b∈fp\/H b=AB:=λz=>by
     by_cases S:b=c
     .rw[S]at z;exact absurd z c4.KO.1
     exact .inr (M.none z (!8 S))
    obtain z|z|z:=yq b O
    .exact .inl z
    .have S:b∉ [c]:=λy=>y6 (by rw[<-AV.1 y];exact z);exact .inr (J.none (L b z) S)
    exact back z
   refine .inr ⟨Vv,bQ λk r' E I=>?_⟩;show 6 ex E;show 6 e5 I;exact F
  have qJ:Fr (c::fp) H H5:=(M.mono (!2)).trans (f5.mono (by intro b O;simp[O]));refine q2 ?_ H5 qJ
  intro y hy;obtain⟨k,r',x',D,E,I,z3,z4,rfl⟩:=P7.1 hy;show 6 ex E;show 6 e5 I;obtain G|⟨Vv,F⟩:=qy
  .cases Val.one G z3;show 6 hd z4
  exact F _ z3
 refine q2 (bQ λk r E I=>?_) H4 ((J.trans f4).mono (!2));show 6 ex E;show 6 e5 I;exact F
noncomputable def ql(A:JL)(H:Hp)(c:AK)(D:Tx)(n:Nat)(B:List Nat)(m:AK)(k:Nat)(H':Hp):Prop:=
 ∃(u:List Nat)(acc:List AU)(ps fl:List AK),JN A H' c D u/\Fr [c] H H'/\H' m=U (.lst (IG ps))/\Ja A H' acc ps fl/\(m::fl).Nodup/\(∀b∈m::fl,H b=AB)/\acc.length<=20000∧
  ((WA n B u acc/\k=u.length+1/\acc.length+u.length<=20000)\/(Dc u/\VD (n+1) B/\k=0))
def T7{c:Nat}(B:c≠256)(h:LP u≠(c:Int)): ∀s,u≠c::s:=λs e=>by rw[e]at h;exact h rfl
def Np{c:Nat}(B:c≠256)(h:LP u=(c:Int)): ∃s,u=c::s:=by
 cases u with
 |nil=>unfold LP at h;simp at h;lia
 |cons x s=>
  rw[JF]at h;exact⟨s,by congr 1;lia⟩
def Ja.fr(h:Ja A H l ps fl)(f:Fr W H H')(hd: ∀b∈fl,b∉W):Ja A H' l ps fl:=h.keep (f.eq h.KO hd)
def grow(hc:J c≠AB)(Y:Fr [c] J F)(M:Fr [c] F G)(hm:F m=U (.lst (IG ps)))(Z:Ja A F acc ps fl)(hn:(m::fl).Nodup)(L: ∀b∈m::fl,J b=AB)(hv:IL A G v p E)(O:E.Nodup)(D: ∀b∈E,F b=AB)(S:F c≠AB):
  G m=U (.lst (IG ps))/\Ja A (Hu G m (.lst (IG ps++[V.ref p]))) (acc++[v]) (ps++[p]) (fl++E)/\(m::(fl++E)).Nodup/\(∀b∈m::(fl++E),J b=AB)/\Hu G m (.lst (IG ps++[V.ref p])) m=U (.lst (IG (ps++[p])))/\Fr [c] J (Hu G m (.lst (IG ps++[V.ref p]))):=by
 have nc: ∀b∈m::fl,b∉ [c]:=λb B z=>by
  rw[AV.1 z]at B;exact hc (L c B)
 have jN:=M _ _ hm (nc m (!2));rw[BP]at hn;have I:m∉E:=λz=>by
  have:=D m z;show 6 hm this
 refine⟨jN,?_,?_,?_,?_,?_⟩
 .refine Ja.snoc ((Z.fr M λb B=>nc b (by simp[B])).keep λb B=>Hv λz=>hn.1 (z▸B)) (hv.keep λb B=>Hv λz=>I (z▸B))
 .rw[BP,A2];refine⟨?_,hn.2,O,?_⟩
  .rw[AQ];rintro(z|z)
   .exact hn.1 z
   exact I z
  rintro a ha b B rfl;exact Z.KO a ha (D a B)
 .intro b B;rw[AO,AQ]at B;obtain B|B|B:=B
  .exact L b (by simp[B])
  .exact L b (by simp[B])
  refine Y.none (D b B) λz=>?_;rw[AV.1 z]at B;exact S (D c B)
 .rw[Hq,KR]
 exact(Y.trans M).wr (L m (!2))
def Uy:Ji ["cursor","depth","members"] ["cursor","depth"] (IV (top 144)):=⟨rfl,rfl,rfl,!0,rfl,!0,!0⟩
def XG(T:Txt K mg A)(I:FnAt P w K mg base (10+3*n) "read_value" ["cursor","depth"] [] (SH A n)):FnAt P w K mg base (10+3*n+1) "read_array" ["cursor","depth"] [] (WO A n):=by
 show 8 ["cursor","depth","members"] 70;obtain⟨c,d,O,r,rfl,hd,hc,hg,q1,q2⟩:=h;refine⟨_,(Gy (IK (Ie (JX T) (pv 0) (Hx T.Jt) (hx:=Ig) (hr:=hr.mono (!5))))
   (Gy (IA (i:=2) (Ib ML))
   (Gy (IK (ID (M3 T) (pv 0) (hr:=hr.mono (!5))))
   (Gy (JS Ag (IB L0 (ID (Iy T) (pv 0) (hr:=hr.mono (!5))) (Hx T.Jx)) (Gy (IK (KZ PySem.F.plainAttrs_list PySem.F.slot_list_append PySem.F.type_list_append Jg (pv 2) (Hn (Hr I (Hz (pv 0) (Hn (pv 1))) (hx:=Ig) (hr:=hr.mono (!5))))))
   (Gy (IK (ID (M3 T) (pv 0) (hr:=hr.mono (!5))))
   (Hm (IS (IB L0 (ID (Iy T) (pv 0) (hr:=hr.mono (!5))) (Hx T.Jx)) (Gy (IK (Ie (JX T) (pv 0) (Hx T.Qq) (hx:=Ig) (hr:=hr.mono (!5))))
   (Hm (IK (ID (M3 T) (pv 0) (hr:=hr.mono (!5)))))) IC)))))
   (Gy (IK (Ie (JX T) (pv 0) (Hx T.Jx) (hx:=Ig) (hr:=hr.mono (!5))))
   (Hm (Hy (Jl (X1 T) (Hz (pv 2) (Hn ND)) (hr:=hr.mono (!5)))))))))),?_⟩
 obtain⟨dx,ao,p,e1,e2,et,hp⟩:=hc.ex;refine II λN1 Nw=>?_;simp?! [e1,Kc e1];refine⟨c,91,O,_,rfl,hc,!1,λy0 r0 e5 e6 H1 c1 f1=>?_,λY=>absurd rfl Y⟩;cases e5;refine Nw _ _ (II λN2 Pg=>?_);clear Nw;simp?! [];refine⟨Iv (!1),λm hm=>Pg _ _ (II λN3 Rq=>?_)⟩;clear Pg;have c2:=c1.new (o:=.lst []) hm;have vX:H m=AB:=c1.free f1 hm;have f2:Fr [c] H (Hu H1 m (.lst [])):=f1.wr vX;have hm2:Hu H1 m (.lst []) m=U (.lst []):=Hq;generalize Hu H1 m (.lst [])=H2 at c2 f2 hm2;simp?! [];refine⟨c,O,_,rfl,c2,λH3 u c3 f3 B=>Rq _ _ ?_⟩;clear Rq;have hmc:m∉ [c]:=λz=>by
  rw[AV.1 z]at vX;exact hc.KO.1 vX
 have Y0:=f2.trans f3;have pH: ∃k,ql A H c O d (91::r) m k H3:=by
  have hu:u.length<=20000:=Aa c3.len c3.small;have base: ∀k,((WA d (91::r) u []/\k=u.length+1/\([]:List AU).length+u.length<=20000)\/(Dc u/\VD (d+1) (91::r)/\k=0))->ql A H c O d (91::r) m k H3:=λk hk=>
   ⟨u,[],[],[],c3,Y0,f3 _ _ hm2 hmc,Kq.2 ⟨rfl,rfl⟩,!2,by simpa using vX,!2,hk⟩
  obtain h|⟨h,Z⟩:=B
  .exact⟨_,base _ (.inl ⟨WA.start h,rfl,by simpa using hu⟩)⟩
  exact⟨_,base _ (.inr ⟨Z,WA.none h,rfl⟩)⟩
 refine II λN4 Yz=>?_;refine⟨λk σ H'=>σ=[U (.ref c),U (.int (32-(d:Int))),U (.ref m)]/\ql A H c O d (91::r) m k H',?_,?_⟩
 .obtain⟨k,hk⟩:=pH;exact⟨k,rfl,hk⟩
 rintro k σ H4 ⟨rfl,u,acc,ps,fl,c4,f4,vW,YL,ye,pX,ha4,pP⟩;simp?! [];refine⟨c,O,u,rfl,c4,?_⟩;simp?! [];by_cases vo:LP u=93
 .obtain⟨s,rfl⟩:=Np (c:=93) (!1) vo;refine nF vo ?_
  refine Yz _ _ ?_
  simp?! [];refine⟨c,93,O,_,rfl,c4,!1,λy0 r0 e5 e6 H5 c5 f5=>?_,λY=>absurd rfl Y⟩;cases e5;simp![KL];have D:Val (d+1) (91::r) (.array AJ acc,s):=by
   obtain⟨M,_⟩|⟨Z,_⟩:=pP
   .exact M.fin
   obtain⟨x,z,e,hx,_⟩:=Z.uX;injection e with e _
   nofun
  refine MO (us:=[.ref m,.bl AJ]) rfl λH6 p hp ⟨dx6,gw⟩ f6=>?_;have nc: ∀b∈m::fl,b∉ [c]:=λb G z=>by
   rw[AV.1 z]at G;exact hc.KO.1 (pX c G)
  have lI:Fr [c] H4 H6:=f5.trans f6.of0;have wH: ∀b∈m::fl,H5 b≠AB:=λb G=>by
   obtain rfl|G:=AO.1 G
   .rw[f5 _ _ vW (nc _ (!2))];simp
   rw[(f5.eq YL.KO λb G=>nc b (by simp[G])) b G];exact YL.KO b G
  refine q1 _ _ (.inl D) H6 p (p::m::fl) ?_ ?_ ?_ (c5.Vx f6) (f4.trans lI)
  .rw[Jb];exact⟨dx6,m,ps,fl,gw,lI _ _ vW (nc m (!2)),YL.fr lI λb G=>nc b (by simp[G]),rfl,λz=>by cases z⟩
  .rw[BP];exact⟨λz=>wH p z hp,ye⟩
  intro b G;obtain rfl|G:=AO.1 G
  .exact c5.free (f4.trans f5) hp
  exact pX b G
 refine nT vo ?_
 have J: ∀s,u≠93::s:=T7 (c:=93) (!1) vo;have outer:VD d u->VD (d+1) (91::r):=λhv=>by
  obtain⟨M,_⟩|⟨_,hv2,_⟩:=pP
  .exact M.vd J hv
  exact hv2
 refine⟨λσ' H'=> ∃m',m'<k/\σ'=[U (V.ref c),U (V.int (32-(d:Int))),U (V.ref m)]/\ql A H c O d (91::r) m m' H',λy y z=>z,Im vW,c,d,O,u,rfl,hd,c4,hg,λv r1 qy H5 p fv hv sv hvf c5 f5=>?_,λhv H5 f5=>q2 (outer hv) H5 (f4.trans f5)⟩;obtain⟨jN,mu,hn6,yp,yg,f6⟩:=grow hc.KO.1 f4 f5 vW YL ye pX hv sv hvf c4.KO.1;have tK:=hc.ne (pX m (!2));have c6:JN A (Hu H5 m (.lst (IG ps++[V.ref p]))) c O r1:=c5.wr tK.1 tK.2;refine⟨_,jN,?_,?_⟩
 .have h9:=YL.length;have e9:Ac=16777216:=CV;unfold IG;rw[AY]
  nofun
 generalize Hu H5 m (.lst (IG ps++[V.ref p]))=H6 at mu yg f6 c6;refine⟨c,O,r1,rfl,c6,λH7 S c7 f7 B=>?_⟩;refine⟨c,O,S,rfl,c7,?_⟩;show 4;have za:Fr [c] H H7:=f6.trans f7;have sM: ∀b∈m::(fl++fv),b∉ [c]:=λb G z=>by
  rw[AV.1 z]at G;exact hc.KO.1 (yp c G)
 have fails:(∀s,S≠93::s)->(∀s,S≠44::s)->VD (d+1) (91::r)->if(!decide (LP S=93))=AF then
   WL A [V.ref c,V.int 44] H7 (λx H1=>
    TC A [V.ref c] H1 (λx H1=>(λσ' H'=> ∃m',m'<k/\σ'=[U (V.ref c),U (V.int (32-(d:Int))),U (V.ref m)]/\ql A H c O d (91::r) m m' H') [U (V.ref c),U (V.int (32-(d:Int))),U (V.ref m)] H1) E0) E
   else(λσ' H'=> ∃m',m'<k/\σ'=[U (V.ref c),U (V.int (32-(d:Int))),U (V.ref m)]/\ql A H c O d (91::r) m m' H') [U (V.ref c),U (V.int (32-(d:Int))),U (V.ref m)] H7:=by
  intro h1 h2 sy;have n93: ¬LP S=93:=λz=>by
   obtain⟨s,e⟩:=Np (c:=93) (!1) z;exact h1 s e
  have xh:LP S≠44:=λz=>by
   obtain⟨s,e⟩:=Np (c:=44) (!1) z;exact h2 s e
  refine nT n93 ?_
  exact⟨c,44,O,S,rfl,c7,!1,λy0 r0 e5 e6=>absurd (by rw[e5,JF];exact e6.symm) xh,λy=>q2 sy H7 za⟩
 obtain D|⟨Vv,sy⟩:=qy
 .obtain⟨M,hk,hlen⟩|⟨Z,_⟩:=pP
  rotate_left
  .exact absurd D (Z.val _)
  have k9:=D.len;dsimp only at k9;obtain B|⟨B,yx⟩:=B
  .have tR:=LR B;by_cases tD: ∃s,S=93::s
   .obtain⟨s,rfl⟩:=tD;have:decide (LP (93::s)=93)=AF:=by rw[JF];decide
    rw[this];simp only[BO,Ai,BX];refine⟨(93::s).length+1,!5,trivial,93::s,acc++[v],ps++[p],fl++fv,c7,za,f7 _ _ yg (sM m (!2)),mu.fr f7 λb G=>sM b (by simp only[AO];exact .inr G),hn6,yp,by rw[AG,Am];nofun,.inl ⟨M.last J D B,rfl,by rw[AG,Am];nofun⟩⟩
   have h1: ∀s,S≠93::s:=λs e=>tD ⟨s,e⟩;by_cases hu4: ∃s,S=44::s
   .obtain⟨r3,rfl⟩:=hu4;have:decide (LP (44::r3)=93)=AJ:=by rw[JF];decide
    rw[this];simp only[Bd,BS];refine⟨c,44,O,_,rfl,c7,!1,λy0 r0 e5 e6 H8 c8 f8=>?_,λY=>absurd rfl Y⟩;cases e5;refine⟨c,O,r3,rfl,c8,λH9 u3 c9 f9 L=>?_⟩;have zV:=f8.trans f9;have fin: ∀k',k'<k->((WA d (91::r) u3 (acc++[v])/\k'=u3.length+1/\(acc++[v]).length+u3.length<=20000)\/(Dc u3/\VD (d+1) (91::r)/\k'=0))-> ∃m',m'<k/\True/\ql A H c O d (91::r) m m' H9:=λk' lA hh=>
     ⟨k',lA,trivial,u3,acc++[v],ps++[p],fl++fv,c9,za.trans zV,zV _ _ (f7 _ _ yg (sM m (!2))) (sM m (!2)),mu.fr (f7.trans zV) λb G=>sM b (by simp only[AO];exact .inr G),hn6,yp,by rw[AG,Am];nofun,hh⟩
    rw[AN]at tR;obtain L|⟨L,yw⟩:=L
    .have pT:=LR L;exact fin _ (!5) (.inl ⟨M.more J D B L,rfl,by rw[AG,Am];nofun⟩)
    refine fin 0 (!5) (.inr ⟨yw,M.no J D λu' e=>?_,rfl⟩);show 6 B e;exact⟨h1,λs e=>by cases e;exact L⟩
   have h2: ∀s,S≠44::s:=λs e=>hu4 ⟨s,e⟩;refine fails h1 h2 (M.no J D λu' e=>?_);show 6 B e;exact⟨h1,λs e=>absurd e (h2 s)⟩
  have hd2:Dm S:=.inl yx;refine fails (λs=>(hd2.ne s).1) (λs=>(hd2.ne s).2.1) (M.no J D λu' e=>?_);show 6 B e
 have hru:S=r1:=by
  obtain B|⟨B,_⟩:=B
  .rw[Vv.sp]at B;cases B;rfl
  rw[Vv.sp]at B;cases B
 subst hru;exact fails (λs=>(Vv.ne s).1) (λs=>(Vv.ne s).2.1) (outer sy)
noncomputable def qk(A:JL)(H:Hp)(c:AK)(D:Tx)(n:Nat)(B:List Nat)(E:AK)(k:Nat)(H':Hp):Prop:=
 ∃(u:List Nat),JN A H' c D u/\Fr [c] H H'∧
  ((∃rows fp,IL A H' (.table 3 rows) E fp/\fp.Nodup/\(∀b∈fp,H b=AB)/\V9 n B u rows/\OK Gd rows/\wR IQ rows+u.length<=20000/\k=u.length+1)\/(Dm u/\VD (n+1) B/\k=0))
def qk.pair{L t:List Nat}{rows:Ae}(hc:D c≠AB)(f0:Fr [c] D H)(hr:IL A H (.table 3 rows) tb fp)(hf: ∀b∈fp,D b=AB)(ho:OK Gd rows)(hg: ∃a,Gd (a++t))(hw:wR IQ rows+t.length<=20000)(hk:t.length<k)(E:H c≠AB)(o:uc A H M tb 3 rows fp d t r)(f1:Fr (c::fp) H M)(c2:JN A H2 c ts (A3 r))(f2:Fr [c] M H2)(alive: ∀B,Pr d rows t (B,r)->V9 d L (A3 r) B)(dead:PD d rows t->VD (d+1) L): ∃k',k'<k/\qk A D c ts d L tb k' H2:=by
 have O:Fr [c] D M:=λb o e n=>f1 b o (f0 b o e n) λz=>by
  obtain z|z:=AO.1 z
  .exact n (by simp[z])
  rw[hf b z]at e;cases e
 have F:=O.trans f2;obtain⟨B,G,hp,S,Y,Z⟩|⟨I,aq⟩:=o
 .obtain⟨a,ga⟩:=hg;obtain⟨w1,w2,w3,w4⟩:=hp.w RK ga ho;dsimp only at w2 w3 w4;have bl:=IE r;have Vx: ∀b∈G,D b=AB:=λb J=>by
   obtain z|z:=Z b J
   .exact hf b z
   refine f0.none z λy=>?_;rw[AV.1 y]at z;exact E z
  refine⟨(A3 r).length+1,!3,A3 r,c2,F,.inl ⟨B,G,S.fr f2 λb J z=>?_,Y,Vx,alive B hp,w3,!3,rfl⟩⟩;rw[AV.1 z]at J;exact hc (Vx c J)
 refine⟨0,!3,A3 r,c2,F,.inr ⟨?_,dead aq,rfl⟩⟩;rw[I.blank];exact I
def Nc:Ji ["cursor","depth","table"] ["cursor","depth"] (IV (top 145)):=⟨rfl,rfl,rfl,!0,rfl,!0,!0⟩
def XF(T:Txt K mg A)(B:FnAt P w K mg base (10+3*n+1) "read_pair" ["cursor","table","depth"] [] (fG A n)):FnAt P w K mg base (10+3*n+1+1) "read_table_in_place" ["cursor","depth"] [] (WM A n):=by
 show 8 ["cursor","depth","table"] 71;obtain⟨c,d,I,r,rfl,hd,hc,hg,q1,q2⟩:=h;refine⟨_,(Gy (IK (Ie (JX T) (pv 0) (Hx T.Nn) (hx:=Ig) (hr:=hr.mono (!5))))
   (Gy (IA (i:=2) (Jl (Qj T) (Hn (Hx T.T3)) (hr:=hr.mono (!5))))
   (Gy (IK (ID (JC T) (pv 0) (hr:=hr.mono (!5))))
   (Gy (IS (IB L0 (ID (Iy T) (pv 0) (hr:=hr.mono (!5))) (Hx T.Kx)) (Gy (IK (Hr B (Hz (pv 0) (Hz (pv 2) (Hn (pv 1)))) (hx:=Ig) (hr:=hr.mono (!5))))
   (Hm (IK (ID (JC T) (pv 0) (hr:=hr.mono (!5)))))) IC)
   (Gy (JS Ag (IB L0 (ID (Iy T) (pv 0) (hr:=hr.mono (!5))) (Hx T.Kx)) (Gy (IK (Ie (JX T) (pv 0) (Hx T.Qq) (hx:=Ig) (hr:=hr.mono (!5))))
   (Gy (IK (ID (JC T) (pv 0) (hr:=hr.mono (!5))))
   (Gy (IK (Hr B (Hz (pv 0) (Hz (pv 2) (Hn (pv 1)))) (hx:=Ig) (hr:=hr.mono (!5))))
   (Hm (IK (ID (JC T) (pv 0) (hr:=hr.mono (!5)))))))))
   (Gy (IK (Ie (JX T) (pv 0) (Hx T.Kx) (hx:=Ig) (hr:=hr.mono (!5))))
   (Hm (Hy (pv 2))))))))),?_⟩
 obtain⟨dx,ao,p,e1,e2,et,hp⟩:=hc.ex;refine II λN1 Nw=>?_;simp?! [e1,Kc e1];refine⟨c,123,I,_,rfl,hc,!1,λy0 r0 e5 e6 H1 c1 f1=>?_,λL=>absurd rfl L⟩;cases e5;refine Nw _ _ (II λN2 Pg=>?_);clear Nw;simp?! [KL];intro G qP vR iA L;refine⟨G,qP,_,rfl,Hq,λH2 d2 M e3 e4 f2=>⟨rfl,Pg _ _ (II λN3 Rq=>?_)⟩⟩;clear Pg;have O:d2≠G:=λz=>by rw[z,Hq]at M;cases M
 have iB:d2≠qP:=λz=>by rw[Hv O,z,Hq]at M;cases M
 rw[Hv O,Hv iB]at M;have lJ:Fr [] H1 H2:=λb o e y=>by
  have n1:b≠G:=IJ e vR;have n2:b≠qP:=IJ e iA;exact f2 b o (by rw[Hv n1,Hv n2];exact e) (!8 n1)
 have c2:=c1.Vx lJ;have U0:Fr [c] H H2:=f1.trans lJ.of0;have hr2:IL A H2 (.table 3 []) G [G,d2]:=M9 (fp:=[]) e4 e3 (KP.2 ⟨rfl,rfl⟩) (!2) (!1);have bA: ∀b∈ [G,d2],H b=AB:=λb hb=>by
  simp only[AO,Ba,C6]at hb;obtain rfl|rfl:=hb
  .exact c1.free f1 vR
  exact c1.free f1 M
 have nd2:[G,d2].Nodup:=by simp[Ne.symm O]
 simp?! [];refine⟨c,I,r,rfl,c2,λH3 c3 f3=>Rq _ _ (II λN4 Yz=>?_)⟩;clear Rq;have Y0:=U0.trans f3;have S: ∀{fp:List AK},(∀b∈fp,H b=AB)-> ∀b∈fp,b∉ [c]:=λ{fp} h b hb z=>by
  rw[AV.1 z]at hb;exact hc.KO.1 (h c hb)
 have naf: ∀{fp:List AK},(∀b∈fp,H b=AB)->I.ao∉fp:=λ{fp} h z=>hc.KO.2 (h _ z);have pQ:=hr2.fr f3 (S bA);have hlen:(A3 r).length+1<=20000:=by
  have h1:=hc.len;have h2:=hc.small;have h3:=IE r;rw[AN]at h1
  nofun
 have loop: ∀k H',qk A H c I d (123::r) G k H'->N4 [U (.ref c),U (.int (32-(d:Int))),U (.ref G)] H':=by
  intro k0 H0 pH;refine Yz _ _ (II λN5 jP=>?_);refine⟨λk σ H'=>σ=[U (.ref c),U (.int (32-(d:Int))),U (.ref G)]/\qk A H c I d (123::r) G k H',⟨k0,rfl,pH⟩,?_⟩;rintro k σ H4 ⟨rfl,u,c4,f4,pP⟩;simp?! [];refine⟨c,I,u,rfl,c4,?_⟩;simp?! [];by_cases D:LP u=125
  .obtain⟨s,rfl⟩:=Np (c:=125) (!1) D;refine nF D ?_
   refine jP _ _ ?_
   simp?! [];refine⟨c,125,I,_,rfl,c4,!1,λy0 r0 e5 e6 H5 c5 f5=>?_,λL=>absurd rfl L⟩;cases e5;obtain⟨rows,fp,Y,Z,F,J,ho,hw,hk⟩|⟨Vv,_⟩:=pP
   .exact q1 _ _ (.inl J.fin) H5 G fp (Y.fr f5 (S F)) Z F c5 (f4.trans f5)
   exact absurd rfl (Vv.ne s).2.2
  have E: ∀s,u≠125::s:=T7 (c:=125) (!1) D;refine nT D ?_
  refine⟨λσ' H'=> ∃m',m'<k/\σ'=[U (V.ref c),U (V.int (32-(d:Int))),U (V.ref G)]/\qk A H c I d (123::r) G m' H',λy y z=>z,c,44,I,u,rfl,c4,!1,λy0 s e5 e6 H5 c5 f5=>?_,λL=>?_⟩
  .have e44:y0=44:=!5
   subst e44;subst e5;obtain⟨rows,fp,Y,Z,F,J,ho,hw,hk⟩|⟨Vv,_⟩:=pP
   rotate_left
   .exact absurd rfl (Vv.ne s).2.1
   refine⟨c,I,s,rfl,c5,λH6 c6 f6=>?_⟩;have lI:=f5.trans f6;have vx:=f4.trans lI;have hr6:=Y.fr lI (S F);have bl:=IE s;rw[AN]at hw hk;refine⟨c,G,d,3,I,_,rows,fp,rfl,hd,c6,hg,hr6,Z,λz=>S F c z (!2),naf F,!5,λr1 H7 o7 c7 f7=>?_,λaq H7 f7=>q2 (J.pd aq) H7 ?_⟩
   .obtain⟨dx7,ao7,p7,e71,e72,et7,yS⟩:=c7.ex;refine⟨c,I,r1,rfl,c7,λH8 c8 f8=>?_⟩;obtain⟨k',h1,lA⟩:=qk.pair (k:=k) hc.KO.1 vx hr6 F ho (c6.gd hg) (!5) (!5) c6.KO.1 o7 f7 c8 f8 (λrp hp=>J.step hp) J.pd;exact⟨k',h1,by trivial,lA⟩
   exact λb o e n=>f7 b o (vx b o e n) λz=>by
    obtain z|z:=AO.1 z
    .exact n (by simp[z])
    rw[F b z]at e;cases e
  refine q2 ?_ H4 f4
  have xh: ∀s,u≠44::s:=T7 (c:=44) (!1) L;obtain⟨rows,fp,Y,Z,F,J,ho,hw,hk⟩|⟨_,sy,_⟩:=pP
  .exact J.other xh E
  exact sy
 simp?! [];refine⟨c,I,_,rfl,c3,?_⟩;simp?! [];by_cases D:LP (A3 r)=125
 .obtain⟨s,hs⟩:=Np (c:=125) (!1) D;refine nF D ?_
  rw[hs]at c3 hlen;exact loop _ H3 ⟨_,c3,Y0,.inl ⟨[],_,pQ,nd2,bA,V9.empty hs,OK.nil,by rw[wR];nofun,rfl⟩⟩
 have E: ∀s,A3 r≠125::s:=T7 (c:=125) (!1) D;refine nT D ?_
 refine⟨c,G,d,3,I,_,[],[G,d2],rfl,hd,c3,hg,pQ,nd2,λz=>S bA c z (!2),naf bA,by rw[wR];nofun,λr1 H4 o4 c4 f4=>?_,λaq H4 f4=>q2 (V9.bad E aq) H4 ?_⟩
 .obtain⟨dx4,ao4,p4,rF,e42,et4,au⟩:=c4.ex;refine⟨c,I,r1,rfl,c4,λH5 c5 f5=>?_⟩;obtain⟨k',_,lA⟩:=qk.pair (k:=(A3 r).length+1) hc.KO.1 Y0 pQ bA OK.nil (c3.gd hg) (by rw[wR];nofun) (!5) c3.KO.1 o4 f4 c5 f5 (λrp hp=>V9.first E hp) (V9.bad E);exact loop k' H5 lA
 exact λb o e n=>f4 b o (Y0 b o e n) λz=>by
  obtain z|z:=AO.1 z
  .exact n (by simp[z])
  rw[bA b z]at e;cases e
def X6(h:KN A H p f v)(B:MV v):IL A H v p [p,f]/\ [p,f].Nodup:=by
 refine⟨(TN B).2 ⟨f,h,rfl⟩,?_⟩;obtain⟨⟨dx,e1⟩,e2⟩:=h;have:p≠f:=OY e1 e2 (by intro z;cases z);simp[this]
def Qy(T:Txt K mg A)(TT:LN K mg)(C:SG K mg)(L:Kf K mg A)(hk:9<=k)(D:FnAt P w K mg base k "read_array" ["cursor","depth"] [] (λvs H Q E=> ∃Z,n=Z+1/\WO A Z vs H Q E))(B:FnAt P w K mg base k "read_table_in_place" ["cursor","depth"] [] (λvs H Q E=> ∃Z,n=Z+1/\WM A Z vs H Q E)):FnAt P w K mg base (k+1) "read_value" ["cursor","depth"] [] (SH A n):=by
 show 8 ["cursor","depth","octet","said"] 69;obtain⟨c,d,ts,t,rfl,hd,O,hg,q1,Y⟩:=h;refine⟨_,(Gy (IA (i:=2) (ID (Iy T) (pv 0) (hr:=hr.mono (!5))))
   (Gy (IS (Ik (Hr (R3 T) (Hn (pv 2)) (hr:=hr.mono (!5)))) (Gy (IA (i:=3) (Hr (U8 T TT) (Hn (pv 0)) (hx:=Ig) (hr:=hr.mono (!5))))
   (Hm (Hy (Jl (gQ T L) (Hz (Hx T.YH) (Hz (Hr (Rx T C) (Hn (pv 3)) (hr:=hr.mono (!5))) (Hn (IT IP T.Jf PySem.boot_len (Hn (pv 3)))))) (hr:=hr.mono (!5)))))) IC)
   (Gy (IS (PW.pt (J2 (IB L0 (pv 2) (Hx T.Jt)) (Jr (IB L0 (pv 2) (Hx T.Nn))))) (Hm (Hy (Hr (Yl T TT C L) (Hn (pv 0)) (hx:=Ig) (hr:=hr.mono (!5))))) IC)
   (Gy (IS (IB JB (pv 1) (Hx T.cy)) (Hm (JE T.Ia rfl)) IC)
   (Gy (IS (IB JB (pv 2) (Hx T.Jt)) (Hm (Hy (Hr D (Hz (pv 0) (Hn (Ij KA (pv 1) Ht))) (hx:=Ig) (hr:=hr.mono (!5))))) IC)
   (Hm (Hy (Hr B (Hz (pv 0) (Hn (Ij KA (pv 1) Ht))) (hx:=Ig) (hr:=hr.mono (!5)))))))))),?_⟩
 refine II λN1 Nw=>?_;simp?! [];refine⟨c,ts,t,rfl,O,?_⟩;simp?! [];refine Nw _ _ ?_
 clear Nw;simp?! [Ms];by_cases I: ∃q r,t=q::r/\(q=34\/q=39)
 .obtain⟨q,r,rfl,I⟩:=I;have:NU (LP (q::r))=AF:=by
   rw[JF];unfold NU;obtain rfl|rfl:=I<;>decide
  refine iT this ?_
  refine⟨c,q,ts,r,rfl,O,I,λx hx sj S p1 gy k9 c1 J=>?_,λhn S J=>Y (Yu I hn) S J⟩;have qy:VO d (q::r) (.str x.1) x.2:=by
   obtain hx|⟨hx,z,hz⟩:=hx
   .exact .inl ((VJ I).2 ⟨x,hx,rfl⟩)
   refine .inr ⟨.inr ⟨z,?_⟩,Yu I hx⟩;obtain rfl|rfl:=I
   .exact .inl hz
   exact .inr hz
  have hlen:x.1.length<=20000:=by
   have h1:=O.len;have h2:=O.small;rw[AN]at h1
   nofun
  simp![KL];refine⟨p1,x.1,rfl,.inl (Ip.of k9),!5,λH2 f hf hfl f2=>⟨IH x.1,.inl (Ip.of (f2 _ _ k9 (!2))),MO (us:=[.int 1,.ref f,.int _]) rfl λH3 p3 SD ⟨jQ,e3⟩ f3=>?_⟩⟩;rw[Hw]at e3;have F:KN A H3 p3 f (.str x.1):=⟨⟨jQ,e3⟩,f3 _ _ hfl (!2)⟩;obtain⟨k1,k2⟩:=X6 F trivial;have nD:Fr [c] S H3:=(f2.trans f3).of0;refine q1 _ _ qy H3 p3 _ k1 k2 (λb hb=>?_) (c1.Vx (f2.trans f3)) (J.trans nD);simp only[AO,Ba,C6]at hb;obtain rfl|rfl:=hb
  .exact c1.free J (f2.none SD (!2))
  exact c1.free J hf
 have hnq:NU (LP t)=AJ:=by
  cases t with
  |nil=>decide
  |cons q r=>
   rw[JF];unfold NU;have: ¬(q=34\/q=39):=λz=>I ⟨q,r,rfl,z⟩;rw[AM (show¬(q:Int)=34 by nofun),AM (show¬(q:Int)=39 by nofun)];rfl
 rw[hnq];refine Ol ?_
 by_cases M:LP t=91
 .obtain⟨r,rfl⟩:=Np (c:=91) (!1) M;rw[Af M];simp only[BO,Ai,BX,BS];by_cases h0:d=0
  .subst h0;rw[Af (show(32:Int)-((0:Nat):Int)=32 by decide)];refine Yy ?_
   exact Y bP.1 H Fr.refl
  rw[AM (show¬(32:Int)-(d:Int)=32 by nofun)];refine Ol ?_
  refine⟨n-1,!5,c,d-1,ts,r,?_,!5,O,hg,?_⟩
  .congr 3
   nofun
  rw[show d-1+1=d by nofun];exact⟨q1,Y⟩
 refine nT M ?_
 by_cases G:LP t=123
 .obtain⟨r,rfl⟩:=Np (c:=123) (!1) G;refine nF G ?_
  by_cases h0:d=0
  .subst h0;rw[Af (show(32:Int)-((0:Nat):Int)=32 by decide)];refine Yy ?_
   exact Y bP.2 H Fr.refl
  rw[AM (show¬(32:Int)-(d:Int)=32 by nofun)];refine Ol ?_
  refine⟨n-1,!5,c,d-1,ts,r,?_,!5,O,hg,?_⟩
  .congr 3
   nofun
  rw[show d-1+1=d by nofun];exact⟨q1,Y⟩
 refine nT G ?_
 have hw: ∀q r,t=q::r-> ¬(q=34\/q=39)/\q≠91/\q≠123:=λq r e=>by
  subst e;rw[JF]at M G;exact⟨λz=>I ⟨q,r,rfl,z⟩,!5,!5⟩
 refine⟨c,ts,t,rfl,O,λx hx S p1 f gy hf1 F c1 J=>?_,λhn S J=>Y (lq hw hn) S J⟩;obtain⟨v1,v2⟩:=fW (n:=d) hw hx;obtain⟨k1,k2⟩:=X6 F v2;refine q1 _ _ (.inl v1) S p1 _ k1 k2 (λb hb=>?_) c1 J;simp only[AO,Ba,C6]at hb;obtain rfl|rfl:=hb
 .exact gy
 exact hf1
def bX(T:Txt K mg A):FnAt P w K mg base (k+1) "read_array" ["cursor","depth"] [] (λvs H Q E=> ∃B,0=B+1/\WO A B vs H Q E):=(T.fn 70 rfl).at λF=>by
 refine F.ZU Uy (λvs H Q E h=>?_) (λKg D outer s H vs Q E hr h=>?_)
 .obtain⟨_,z,_⟩:=h;lia
 obtain⟨_,z,_⟩:=h;lia
def bW(T:Txt K mg A):FnAt P w K mg base (k+1) "read_table_in_place" ["cursor","depth"] [] (λvs H Q E=> ∃B,0=B+1/\WM A B vs H Q E):=(T.fn 71 rfl).at λF=>by
 refine F.ZU Nc (λvs H Q E h=>?_) (λKg D outer s H vs Q E hr h=>?_)
 .obtain⟨_,z,_⟩:=h;omega
 obtain⟨_,z,_⟩:=h;omega
def YQ{sp:Sp}(F:FnAt P w K mg base j x ps B sp)(h:j<=k):FnAt P w K mg base k x ps B sp:=by
 obtain⟨f,D,E,G,I,J,L,M⟩:=F;exact⟨f,D,E,G,I,J,L,M.mono h⟩
def bE{sp:Sp}(F:FnAt P w K mg base k x ps B sp)(h: ∀vs H Q E,D vs H Q E->sp vs H Q E):FnAt P w K mg base k x ps B D:=by
 obtain⟨f,G,I,J,L,M,O,S⟩:=F;exact⟨f,G,I,J,L,M,O,S.imp h⟩
theorem V7(T:Txt K mg A)(TT:LN K mg)(C:SG K mg)(L:Kf K mg A)(KK:JH K A):
  ∀n,FnAt P w K mg base (10+3*n) "read_value" ["cursor","depth"] [] (SH A n)
 |0=>Qy (k:=9) T TT C L (!1) (bX T) (bW T)
 |n+1=>by
  have D:=V7 T TT C L KK n;have F:=XG T D;have G:=R0 T TT KK D;have I:=XF T G;have:=Qy (n:=n+1) (k:=10+3*n+1+1) T TT C L (!5) (bE (YQ F (!5)) λvs H Q E h=>by
   obtain⟨B,e,h⟩:=h;obtain rfl:B=n:=!5
   exact h) (bE I λvs H Q E h=>by
   obtain⟨B,e,h⟩:=h;obtain rfl:B=n:=!5
   exact h)
  exact YQ this (!5)
inductive oM (A:JL)(vs:List V)(H:Hp)(Q:VK)(E:XK):Prop
 |mk (c:AK)(a:Tx)(t:List Nat)(_:vs=[.ref c])(_:JN A H c a t)(_:(∀x u,ky (A3 t)=U x->x.2=93::u-> ∀H' p as,H p=AB->H' p=U (.lst (IG as))->K5 H' as x.1->JN A H' c a u->Fr [c] H H'->Q (.ref p) H'))(_:((∀x u,ky (A3 t)=U x->x.2≠93::u)-> ∀H',Fr [c] H H'->E (.ref A.wi) AB H'))
def NQ(T:Txt K mg A)(TT:LN K mg): !20 9 "read_header_key" ["cursor"] (oM A):=by
 show 8 ["cursor","parts"] 67;obtain⟨c,G,t,rfl,O,q1,S⟩:=h;refine⟨_,(Gy (IK (ID (JC T) (pv 0)))
   (Gy (IA (i:=1) (Hr (QK T TT) (Hn (pv 0)) (hx:=Ig)))
   (Gy (IK (Ie (JX T) (pv 0) (Hx T.Jx) (hx:=Ig)))
   (Hm (Hy (pv 1)))))),?_⟩
 simp?! [];refine⟨c,G,t,rfl,O,λH1 c1 I=>?_⟩;refine⟨c,G,_,rfl,c1,λx ex H2 pl as J D tl Y L=>?_,λen H2 L=>S (λx u z=>by show 6 en z) H2 (I.trans L)⟩;have E:=I.trans L;refine⟨c,93,G,_,rfl,Y,!1,λy0 u e5 e6 H3 c3 M=>?_,λF=>?_⟩
 .have:y0=93:=!3
  subst this;have B:H pl=AB:=c1.free I J;refine q1 x u ex e5 H3 pl as B (M _ _ D λz=>?_) (tl.keep (Fr.tup Y M)) c3 (E.trans M);rw[AV.1 z]at B;exact O.KO.1 B
 refine S (λx' u Z z2=>?_) H2 E;show 6 ex Z;rw[z2]at F;exact F rfl
inductive fL (A:JL)(vs:List V)(H:Hp)(Q:VK)(E:XK):Prop
 |mk (c R:AK)(a:Tx)(r:List Nat)(d:Ae)(e:List AK)(_:vs=[.ref c,.ref R])(_:JN A H c a (91::r))(_:IL A H (.table 1 d) R e)(_:e.Nodup)(_:c∉e)(_:a.ao∉e)(_:wR IQ d<=100000)(_:(∀ks u S H' C x D Rt,lB (91::r) d=U (ks,C x,u)->bS ks C->(∀y,wR IQ y<=wR IQ (C y))->(∀y,D (.table 1 y)=.table 1 (C y))->K6 A H' R S 1 x D Rt->(∀b∈Rt,b∈e\/H b=AB)->JN A H' c a u->Fr (c::e) H H'->Q (.ref S) H'))(_:(lB (91::r) d=AB-> ∀H',Fr (c::e) H H'->E (.ref A.wi) AB H'))
def Vu{act:List Nat->Ae->Option Ae}{rows:Ae}(hc:JN A H c M t)(hr:IL A H (.table 1 rows) R fp)(nd:fp.Nodup)(F:c∉fp)(O:M.ao∉fp)(hw:wR IQ rows<=100000)(Y:H pl=AB)(G:I pl=U (.lst (IG as)))(tl:K5 I as J)(Z:J≠ [])(c1:JN A I c M u)(f1:Fr [c] H I)(q1: ∀S H' C x D B,C7 act J rows=U (C x)->bS J C->(∀y,wR IQ y<=wR IQ (C y))->(∀y,D (.table 1 y)=.table 1 (C y))->K6 A H' R S 1 x D B->(∀b∈B,b∈fp\/H b=AB)->JN A H' c M u->Fr (c::fp) H H'->Q (.ref S) H')(q2:C7 act J rows=AB-> ∀H',Fr (c::fp) H H'->E (.ref A.wi) AB H'):
  ZK A act [.ref R,.ref pl] I Q E:=by
 have nc: ∀b∈fp,b∉ [c]:=λb L z=>F (by rw[<-AV.1 z];exact L);have fr: ∀{H2:Hp},Fr fp I H2->Fr (c::fp) H H2:=λ{H2} f=>(f1.mono (!2)).trans (f.mono (by intro b L;simp[L]));refine⟨R,pl,rows,fp,as,J,rfl,hr.fr f1 nc,nd,G,λz=>hr.KO pl z Y,tl,Z,hw,λS H' C x D B hF hwk x4 hD hh hf f=>?_,λhn H' f=>q2 hn H' (fr f)⟩;refine q1 S H' C x D B hwk hF x4 hD hh (λb L=>?_) (c1.qE f F O) (fr f);obtain z|z:=hf b L
 .exact .inl z
 exact .inr (c1.free f1 z)
set_option tactic.hygienic true
def U9(T:Txt K mg A)(TT:LN K mg)(KK:JH K A): !20 10 "read_header" ["cursor","root"] (fL A):=by
 show 8 ["cursor","root","parts"] 66;obtain⟨c,R,ts,r,rows,fp,rfl,hc,gv,nd,jO,lC,hw,q1,L⟩:=h;refine⟨_,(Gy (IK (Ie (JX T) (pv 0) (Hx T.Jt) (hx:=Ig)))
   (Gy (IS (IB L0 (ID (Iy T) (pv 0)) (Hx T.Jt)) (Hm (Hy (Hr (Uj T KK) (Hz (pv 1) (Hn (Hr (NQ T TT) (Hn (pv 0)) (hx:=Ig)))) (hx:=Ig)))) IC)
   (Gy (IK (Ie (JX T) (pv 0) (Hx T.Jt) (hx:=Ig)))
   (Gy (IA (i:=2) (Hr (NQ T TT) (Hn (pv 0)) (hx:=Ig)))
   (Gy (IK (Ie (JX T) (pv 0) (Hx T.Jx) (hx:=Ig)))
   (Hm (Hy (Hr (SF T KK) (Hz (pv 1) (Hn (pv 2))) (hx:=Ig))))))))),?_⟩
 simp?! [];refine⟨c,91,ts,_,rfl,hc,!1,λy0 r0 e5 e6 H1 c1 f1=>?_,λF=>absurd rfl F⟩;cases e5;refine⟨c,ts,r,rfl,c1,?_⟩;show 4;by_cases I:LP r=91
 .obtain⟨r',rfl⟩:=Np (c:=91) (!1) I;have:decide (LP (91::r')=91)=AF:=by rw[I];decide
  rw[this];refine bB ?_
  refine⟨c,91,ts,_,rfl,c1,!1,λy0 r0 e5 e6 H2 c2 f2=>?_,λF=>absurd rfl F⟩;cases e5;have M:=f1.trans f2;rw[tm]at q1 L;refine⟨c,ts,r',rfl,c2,λx u ex e5 H3 pl as O G tl c3 Y=>?_,λhn H3 Y=>L ?_ H3 ((M.trans Y).mono (!2))⟩
  .obtain⟨jQ,v9,p3,uP,v5,vz,SD⟩:=c3.ex;have J:=M.trans Y;have E:H pl=AB:=c2.free M O;refine⟨c,93,ts,u,rfl,c3,!1,λy0 u2 e6 e7 H4 c4 f4=>?_,λF=>L ?_ H3 (J.mono (!2))⟩
   .have:y0=93:=!3
    subst this;subst e6;have hd: ∀B,C7 Cp x.1 rows=U B->((ky (A3 r')).bind λk=>(match k.2 with
      |93::93::u=>(C7 Cp k.1 rows).map λB=>(k.1,B,u)
      |_=>AB))=U (x.1,B,u2):=λB h=>by
     rw[ex];show 3;rw[e5];simp only;rw[h];rfl
    refine Vu hc gv nd jO lC hw E (f4 _ _ G λz=>?_) (tl.keep (Fr.tup c3 f4)) (LJ ex).2.1 c4 (J.trans f4) (λS H' C y D Z h1 h2 h3 h4 h5 h6 h7 h8=>q1 _ _ S H' C y D Z (hd _ h1) h2 h3 h4 h5 h6 h7 h8) (λh1 H' f'=>L ?_ H' f')
    .rw[AV.1 z]at E;exact hc.KO.1 E
    rw[ex];show 3;rw[e5];simp only;rw[h1];rfl
   rw[ex];show 3;rw[e5];split
   .rename_i u' q;cases q;exact absurd rfl F
   rfl
  cases ex:ky (A3 r')with
  |none=>rfl
  |some k=>
   show 3;split
   .rename_i u' q;exact absurd q (hn k _ ex)
   rfl
 have zL: ∀s,r≠91::s:=T7 (c:=91) (!1) I;have:decide (LP r=91)=AJ:=AM λz=>by exact I z
 rw[this];refine Xc ?_
 rw[tq _ zL]at q1 L;refine⟨c,ts,r,rfl,c1,λx u ex e5 H3 pl as O G tl c3 Y=>?_,λhn H3 Y=>L ?_ H3 ((f1.trans Y).mono (!2))⟩
 .have J:=f1.trans Y;have E:H pl=AB:=c1.free f1 O;have hd: ∀B,C7 CG x.1 rows=U B->((ky (A3 r)).bind λk=>(match k.2 with
    |93::u=>(C7 CG k.1 rows).map λB=>(k.1,B,u)
    |_=>AB))=U (x.1,B,u):=λB h=>by
   rw[ex];show 3;rw[e5];simp only;rw[h];rfl
  refine Vu hc gv nd jO lC hw E G tl (LJ ex).2.1 c3 J (λS H' C y D Z h1 h2 h3 h4 h5 h6 h7 h8=>q1 _ _ S H' C y D Z (hd _ h1) h2 h3 h4 h5 h6 h7 h8) (λh1 H' f'=>L ?_ H' f');rw[ex];show 3;rw[e5];simp only;rw[h1];rfl
 cases ex:ky (A3 r)with
 |none=>rfl
 |some k=>
  show 3;split
  .rename_i u' q;exact absurd q (hn k _ ex)
  rfl
set_option tactic.hygienic false
noncomputable def LS(A:JL)(H:Hp)(R S:AK)(s:AAs)(fp:List AK):Prop:= ∃(C:Ae->Ae)(kd:Nat)(x:Ae)(D:AU->AU),s.rows=C x/\bS s.at_ C/\(∀y,D (.table kd y)=.table 1 (C y))/\K6 A H R S kd x D fp/\ ∀y,wR IQ y<=wR IQ (C y)
def LS.root(h:LS A H R S s fp):IL A H (.table 1 s.rows) R fp/\fp.Nodup:=by
 obtain⟨C,kd,x,D,E,G,F,B,_⟩:=h;have:=B.whole;rw[F,<-E]at this;exact⟨this,B.nd⟩
theorem LS.fr(h:LS A H R S s fp)(f:Fr W H H')(hd: ∀b∈fp,b∉W):LS A H' R S s fp:=by
 obtain⟨C,kd,x,D,B,E,F,G,I⟩:=h;exact⟨C,kd,x,D,B,E,F,G.fr f hd,I⟩
inductive oG (A:JL)(vs:List V)(H:Hp)(Q:VK)(E:XK):Prop
 |mk (c R S:AK)(a:Tx)(t:List Nat)(s:AAs)(d:List AK)(_:vs=[.ref c,.ref R,.ref S])(_:JN A H c a t)(_:Gd a.b)(_:LS A H R S s d)(_:c∉d)(_:a.ao∉d)(_:wR IQ s.rows<=100000)(_:(∀s' t',G8 s t=U (s',t')-> ∀H' S' Rt,LS A H' R S' s' Rt->(∀b∈Rt,b∈d\/H b=AB)->JN A H' c a t'->Fr (c::d) H H'->Q (.ref S') H'))(_:(G8 s t=AB-> ∀H',Fr (c::d) H H'->E (.ref A.wi) AB H'))
def Yo(T:Txt K mg A)(TT:LN K mg)(C:SG K mg)(L:Kf K mg A)(KK:JH K A): !20 108 "read_line" ["cursor","root","table"] (oG A):=by
 show 8 ["cursor","root","table"] 65;obtain⟨c,R,S,Y,t,so,fp,rfl,hc,hg,vY,M,lC,hw,q1,q2⟩:=h;refine⟨_,(Gy (IK (ID (JC T) (pv 0)))
   (Gy (IS (IB JB (ID (Iy T) (pv 0)) (Hx T.Jt)) (Hm (IA (i:=2) (Hr (U9 T TT KK) (Hz (pv 0) (Hn (pv 1))) (hx:=Ig)))) (Hm (IS (IB Wd (ID (Iy T) (pv 0)) (TX (Hz (Hx T.Wx) (Hz (Hx T.Mi) (Hz (Hx T.Mj) (Hn (Hx T.Vq)))))) (hm:=rfl)) (Hm (IK (Hr (R0 T TT KK (V7 T TT C L KK 32)) (Hz (pv 0) (Hz (pv 2) (Hn Ht))) (hx:=Ig)))) IC)))
   (Gy (IK (ID (VB T) (pv 0) (hx:=Ig)))
   (Hm (Hy (pv 2)))))),?_⟩
 obtain⟨dx,ao,p,e1,e2,et,hp⟩:=hc.ex;refine II λN1 Nw=>?_;simp?! [e1,Kc e1];refine⟨c,Y,t,rfl,hc,λH1 c1 f1=>Nw _ _ (II λN2 Pg=>?_)⟩;clear Nw;have nc: ∀{fp:List AK},c∉fp-> ∀b∈fp,b∉ [c]:=λ{fp} h b F z=>h (by rw[<-AV.1 z];exact F);have tO:=vY.fr f1 (nc M);have fin: ∀(H2:Hp)(S2:AK)(s2:AAs)(G:List AK)(u:List Nat),LS A H2 R S2 s2 G->(∀b∈G,b∈fp\/H b=AB)->JN A H2 c Y u->Fr (c::fp) H H2->(G8 so t=(HS u).map λv=>(s2,v))->N2 [U (.ref c),U (.ref R),U (.ref S2)] H2:=by
  intro H2 S2 s2 G u l2 Z c2 J hl;refine Pg _ _ ?_
  have pf:c∉G:=λz=>by
   obtain y|y:=Z c z
   .exact M y
   exact hc.KO.1 y
  simp?! [];refine⟨c,Y,u,rfl,c2,λr hr H3 c3 f3=>?_,λhn H3 f3=>q2 (by rw[hl,hn];rfl) H3 (J.trans (f3.mono (!2)))⟩;exact q1 s2 r (by rw[hl,hr];rfl) H3 S2 G (l2.fr f3 (nc pf)) Z c3 (J.trans (f3.mono (!2)))
 have lK:Fr (c::fp) H H1:=f1.mono (!2);have back: ∀{b:AK},H1 b=AB->H b=AB:=λ{b} h=>c1.free f1 h;simp?! [];refine⟨c,Y,_,rfl,c1,?_⟩;simp?! [];by_cases vp:LP (A3 t)=91
 .obtain⟨r,F⟩:=Np (c:=91) (!1) vp;refine dT vp ?_
  obtain⟨hr1,nd1⟩:=tO.root;rw[F]at c1;refine⟨c,R,Y,r,so.rows,fp,rfl,c1,hr1,nd1,M,lC,hw,λks u S2 H2 C x D G hh hF x4 hD ho Z c2 J=>?_,λhn H2 J=>q2 (by rw[X5 F,hn];rfl) H2 (lK.trans J)⟩;refine fin H2 S2 ⟨C x,ks⟩ G u ⟨C,1,x,D,rfl,hF,hD,ho,x4⟩ (λb F=>?_) c2 (lK.trans J) (by rw[X5 F,hh];rfl);obtain z|z:=Z b F
  .exact .inl z
  exact .inr (back z)
 refine dF vp ?_
 refine⟨c,Y,_,rfl,c1,Iv (!1),λtp htp=>?_⟩;have J:Fr [] H1 (Hu H1 tp (.tup [V.int 35,V.int 10,V.int 13,V.int 256])):=Fr.new htp;have tE:Hu H1 tp (.tup [V.int 35,V.int 10,V.int 13,V.int 256]) tp=U (.tup [V.int 35,V.int 10,V.int 13,V.int 256]):=Hq;generalize Hu H1 tp (.tup [V.int 35,V.int 10,V.int 13,V.int 256])=H2 at J tE;have c2:=c1.Vx J;have tN:=tO.fr J (λw w=>by simp);have U0:Fr (c::fp) H H2:=lK.trans J.of0;refine⟨tp,IH [35,10,13,256],rfl,.inr (NR.of tE),rfl,RS _,?_⟩;show 4;rw[show LP (A3 t)=(((A3 t).getD 0 256:Nat):Int)from rfl,Qn];by_cases B:A3 t=[]\/ ∃c r,A3 t=c::r/\(c=35\/c=10\/c=13)
 .have:([35,10,13,256]:List Nat).contains ((A3 t).getD 0 256)=AF:=by
   obtain e|⟨x,r,e,rfl|rfl|rfl⟩:=B<;>(rw[e];rfl)
  rw[this];simp only[BO,Ai,BX,BS];exact fin H2 S so fp _ tN (λb F=>.inl F) c2 U0 (cW B)
 obtain⟨x,r,F,hx⟩: ∃x r,A3 t=x::r/\ ¬(x=35\/x=10\/x=13):=by
  cases e:A3 t with
  |nil=>exact absurd (.inl e) B
  |cons x r=>exact⟨x,r,rfl,λz=>B (.inr ⟨x,r,e,z⟩)⟩
 have AA7:x<256:=c1.sub x (by rw[F];simp);have O:x≠91:=λz=>vp (by rw[F,JF,z];rfl);have:([35,10,13,256]:List Nat).contains ((A3 t).getD 0 256)=AJ:=by
  rw[F];show([35,10,13,256]:List Nat).contains x=AJ;simp
  lia
 rw[this];refine Xc ?_
 obtain⟨C,kd,y,D,l1,l2,l3,l4,l5⟩:=tN;obtain⟨fx,g1,g2,g3,g4⟩:=l4.put;have y1:c∉fx:=λz=>M (g3 c z);have hax:Y.ao∉fx:=λz=>lC (g3 _ z);rw[F]at c2;refine⟨c,S,32,kd,Y,x::r,y,fx,rfl,AR _,c2,hg,g1,g2,y1,hax,Aa (l5 y) (by rw[<-l1];exact hw),λr1 H3 o3 c3 f3=>?_,λaq H3 f3=>q2 (Rn F O hx l1 l2 aq) H3 ?_⟩
 .have Y0:Fr (c::fp) H H3:=U0.trans (f3.mono (by
   intro b E;obtain z|z:=AO.1 E
   .simp[z]
   simp[g3 b z]))
  obtain⟨I,fx',SD,pQ,hn3,ve⟩|⟨Vv,aq⟩:=o3
  .obtain⟨uH,k1,k2⟩:=g4 H3 (c::fx) kd I fx' f3 (λb E=>by
    obtain z|z:=AO.1 E
    .exact .inr (by rw[z];exact M)
    .exact .inl z) pQ hn3 (λb E=>by
    obtain z|z:=ve b E
    .exact .inl z
    exact .inr λy=>l4.KO b y z)
   obtain⟨a,ga⟩:=c2.gd hg;have ua: ∀b,H2 b=AB->H b=AB:=λb z=>back (J.none z (!2));refine fin H3 S ⟨C I,so.at_⟩ uH r1 ⟨C,kd,I,D,rfl,l2,l3,k1,l5⟩ (λb E=>?_) c3 Y0 (cX F O hx l1 l2 SD)
   obtain z|z:=k2 b E
   .exact .inl z
   obtain z|z:=ve b z
   .exact .inl (g3 b z)
   exact .inr (ua b z)
  have hln:=Rn F O hx l1 l2 aq;refine Pg _ _ ?_
  obtain⟨jQ,v9,p3,uP,v5,vz,SD⟩:=c3.ex;simp?! [uP,Kc uP];exact⟨c,Y,r1,rfl,c3,(λr' hr'=>by rw[Vv.ended]at hr';cases hr'),λw H4 f4=>q2 hln H4 (Y0.trans (f4.mono (!2)))⟩
 exact U0.trans (f3.mono (by
  intro b E;obtain z|z:=AO.1 E
  .simp[z]
  simp[g3 b z]))
inductive n9 (A:JL)(vs:List V)(H:Hp)(Q:VK)(E:XK):Prop
 |mk (a:AK)(t:List Nat)(_:vs=[.ref a])(_:H a=U (.lst (IH t)))(_:t.length<=16384)(_:(∀x∈t,x<256))(_:(∀rows,D1 t=U rows-> ∀H' R fp,IL A H' (.table 1 rows) R fp->(∀b∈fp,H b=AB)->Fr [] H H'->Q (.ref R) H'))(_:(D1 t=AB-> ∀H',Fr [] H H'->E (.ref A.wi) AB H'))
noncomputable def IvR(A:JL)(H:Hp)(c R:AK)(B:Tx)(k:Nat)(S:AK)(H':Hp):Prop:= ∃s u fp,JN A H' c B u/\LS A H' R S s fp/\(∀b∈fp,H b=AB)/\Fr [c] H H'/\XR IQ s/\wR IQ s.rows+u.length<=B.b.length/\ln {} B.b=ln s u/\k=u.length
def Ym(T:Txt K mg A)(TT:LN K mg)(C:SG K mg)(L:Kf K mg A)(KK:JH K A): !20 109 "read_root" ["octets"] (n9 A):=by
 show 8 ["octets","cursor","root","table"] 64;obtain⟨a,t,rfl,ha,hl,G,q1,q2⟩:=h;refine⟨_,(Gy (IS (IB L1 (IT IP T.Jf PySem.boot_len (Hn (pv 0))) (Hx T.Oh)) (Hm (JE T.Ia rfl)) IC)
   (Gy (IK (Hr (iw T) (Hn (pv 0)) (hx:=Ig)))
   (Gy (IA (i:=1) (Jl (Vg T) (Hn (pv 0))))
   (Gy (IA (i:=2) (Jl (Qj T) (Hn (Hx T.Ml))))
   (Gy (IA (i:=3) (pv 2))
   (Gy (JS Ag (IB L0 (ID (Iy T) (pv 1)) (Hx T.Vq)) (Hm (IA (i:=3) (Hr (Yo T TT C L KK) (Hz (pv 1) (Hz (pv 2) (Hn (pv 3)))) (hx:=Ig)))))
   (Hm (Hy (pv 2))))))))),?_⟩
 refine II λN1 Y=>?_;simp![];refine⟨IH t,.inl (Ip.of ha),?_⟩;rw[Hw,AM (show¬(t.length:Int)>16384 by nofun),AD AH];refine Y _ _ (II λN2 Z=>?_);clear Y;simp![];refine⟨a,t,rfl,ha,!5,G,λM H1 f1=>Z _ _ (II λN3 Rq=>?_),λM H1 f1=>q2 ?_ H1 f1⟩
 rotate_left
 .rw[WT,AI];cases e:Rc40.good (t.length+1) t with
  |false=>rfl
  |true=>exact absurd ((Qr t).1 e) M
 clear Z;have zH:=f1 _ _ ha (!2);simp![KL];refine MO (H:=H1) (C:=A.Ic) (g:=zp) (us:=[.ref a]) (Q:=λv H2=>N3 [U (V.ref a),U v,AB,AB] H2) rfl λH2 c pf ⟨v7,ec⟩ f2=>Rq _ _ (II λN4 Yz=>?_);clear Rq;have U0:Fr [] H H2:=f1.trans f2;have c2:JN A H2 c ⟨a,t⟩ t:=⟨⟨v7,a,0,ec,f2 _ _ zH (!2),rfl,Ax _⟩,⟨v7,0,ec⟩,by show t.length<=20000;nofun,G⟩;simp![KL];intro R I hR iA Uz;refine⟨R,I,_,rfl,Hq,λH3 O B e3 e4 f3=>⟨rfl,Yz _ _ (II λN5 jP=>?_)⟩⟩;clear Yz;have E:O≠R:=λz=>by rw[z,Hq]at B;cases B
 have iB:O≠I:=λz=>by rw[Hv E,z,Hq]at B;cases B
 rw[Hv E,Hv iB]at B;have rC:Fr [] H2 H3:=λb o e x=>by
  have n1:b≠R:=IJ e hR;have n2:b≠I:=IJ e iA;exact f3 b o (by rw[Hv n1,Hv n2];exact e) (!8 n1)
 have c3:=c2.Vx rC;have pQ:IL A H3 (.table 1 []) R [R,O]:=M9 (fp:=[]) e4 e3 (KP.2 ⟨rfl,rfl⟩) (!2) (!1);have nd3:[R,O].Nodup:=by simp[Ne.symm E]
 have qE: ∀b∈ [R,O],H2 b=AB:=λb G=>by
  simp only[AO,Ba,C6]at G;obtain rfl|rfl:=G
  .exact hR
  exact B
 simp![];refine jP _ _ (II λN6 px=>?_);clear jP;have back: ∀{H':Hp},Fr [c] H2 H'->Fr [] H H':=λ{H'} f b o e _=>f b o (U0 b o e (!2)) λz=>by
  rw[AV.1 z,f1.none pf (!2)]at e;cases e
 refine⟨λk σ H'=> ∃S,σ=[U (.ref a),U (.ref c),U (.ref R),U (.ref S)]/\IvR A H2 c R ⟨a,t⟩ k S H',⟨_,R,rfl,{},t,[R,O],c3,⟨id,1,[],λv=>v,rfl,YN,λx=>rfl,K6.root pQ nd3,λx=>AR _⟩,qE,rC.of0,XR.nil,?_,rfl,rfl⟩,?_⟩
 .show wR IQ []+t.length<=t.length;rw[wR]
  nofun
 rintro k σ H4 ⟨S,rfl,so,u,fp,c4,vY,D,f4,yD,su,J,rfl⟩;simp?! [];refine⟨c,_,u,rfl,c4,?_⟩;simp?! [];cases u with
 |nil=>
  have:decide (LP []=256)=AF:=!1
  rw[this];refine bB ?_
  refine px _ _ ?_
  simp![];refine q1 so.rows ?_ H4 R fp vY.root.1 (λb G=>U0.none (D b G) (!2)) (back f4)
  rw[WT,AD (by rw[(Qr t).2 M];simp)];show(ln {} t).map _=_;rw[J,pB];rfl
 |cons y r=>
  have hy:y<256:=c4.sub y (!2);have:decide (LP (y::r)=256)=AJ:=AM (by rw[JF];nofun);rw[this];refine Xc ?_
  have jO:c∉fp:=λz=>c2.KO.1 (D c z);have lC:a∉fp:=λz=>c2.KO.2 (D a z);have ht:t.length<=16384:=hl;have hwt:wR IQ so.rows<=t.length:=by
   have:wR IQ so.rows+(y::r).length<=t.length:=su
   nofun
  refine⟨λσ' H'=> ∃m',m'<(y::r).length/\ ∃S,σ'=[U (.ref a),U (.ref c),U (.ref R),U (.ref S)]/\IvR A H2 c R ⟨a,t⟩ m' S H',λx x z=>z,c,R,S,⟨a,t⟩,_,so,fp,rfl,c4,M,vY,jO,lC,!5,λs' t' F H5 S5 fp5 l5 yq c5 f5=>?_,λF H5 f5=>?_⟩
  .obtain⟨g,gg⟩:=c4.gd M;obtain⟨w1,w2,w3⟩:=gX RK yD gg F;have YK:=Wn F (!2);refine⟨t'.length,YK,S5,rfl,s',t',fp5,c5,l5,λb G=>?_,λb o e n=>?_,w2,?_,?_,rfl⟩
   .obtain z|z:=yq b G
    .exact D b z
    refine f4.none z λy=>?_;rw[AV.1 y]at z;exact c4.KO.1 z
   .refine f5 b o (f4 b o e n) λz=>?_;obtain z|z:=AO.1 z
    .exact n (by simp[z])
    rw[D b z]at e;cases e
   .have:wR IQ so.rows+(y::r).length<=t.length:=su;show wR IQ s'.rows+t'.length<=t.length
    nofun
   show ln {} t=_;rw[J,aU (!2),F];rfl
  refine q2 ?_ H5 (back λb o e n=>f5 b o (f4 b o e n) λz=>?_)
  .rw[WT,AD (by rw[(Qr t).2 M];simp)];show(ln {} t).map _=_;rw[J,aU (!2),F];rfl
  obtain z|z:=AO.1 z
  .exact n (by simp[z])
  rw[D b z]at e;cases e
noncomputable def Oe(k:List Nat):Bool:=decide (1<=k.length/\k.length<=5)&&k.all BY
inductive mQ (vs:List V)(H:Hp)(Q:VK)(E:XK):Prop
 |mk (a:AK)(t:List Nat)(_:vs=[.ref a])(_:H a=U (.tup (IH t)))(_: ∀H',Fr [] H H'->Q (.bl (Oe t)) H'):mQ vs H Q E
def Zx(T:Txt K mg A): !20 2 "is_index" ["part"] mQ:=by
 show 8 ["part","octet"] 75;obtain⟨a,t,rfl,ha,q⟩:=h;refine⟨_,(Hm (Hy (RJ (Ks J6 J6 Ht (IT IP T.Jf PySem.boot_len (Hn (pv 0))) (Hx T.Pf)) (MI (IT (Zq rfl) T.gM RZ (Hn ((aL rfl S.nd (ZP (pv 0)) (Ou (N:=["part","octet"]) (sc:=IV (top 152)) (own:=[("octet",1)]) (!0)) (λy y y y y=>JO (i:=1) S.nd rfl (CW rfl) (HX rfl)) (λy y y y y=>QW) (λy y y y y=>Hr (LA T) (Hn (pv 1))))))))))),?_⟩;simp![Ms];refine⟨IH t,.inr (NR.of ha),?_⟩;rw[Hw];unfold Oe at q;by_cases G:1<=t.length
 .refine dT (show(1:Int)<=(t.length:Int)by lia) ?_
  by_cases E:t.length<=5
  .refine dT (show(t.length:Int)<=5 by lia) ?_
   rw[Af ⟨G,E⟩,BZ]at q;refine⟨⟨_,NR.of ha⟩,λD I=>?_⟩;refine lcT (xs:=IH t) (PvA t H D) ⟨Ax _,Fr.new I,Hq⟩ (λi H' y h=>NR.of (h.2.1 _ _ ha (!2))) ?_ ?_
   .rintro i x H' hx ⟨L,f,B⟩;obtain⟨u,J,rfl⟩:=LH hx;obtain⟨F,_⟩:=List.getElem?_eq_some_iff.mp J;refine⟨_,B,?_,F,f.Z8 I,?_⟩
    .rw[AY,AY,AW];exact Bg (De _ _) (Bg E (!1))
    rw[Hq,Br,J,A8,A8,NV];rfl
   rintro H' ⟨L,f,B⟩;rw[Hw,BG]at B;refine⟨D,_,rfl,Ip.of B,?_⟩;rw[show(t.map BY).all id=t.all BY by rw[Gk];rfl];exact q _ f
  refine dF (show¬(t.length:Int)<=5 by lia) ?_
  rw[AM (λz=>E z.2)]at q;exact q _ Fr.refl
 refine dF (show¬(1:Int)<=(t.length:Int)by lia) ?_
 rw[AM (λz=>G z.1)]at q;exact q _ Fr.refl
def YE(v:AU)(k:List Nat):Option AU:=match v with
 |.table _ r=>CC r k
 |.array _ l=>if Oe k=AF then l[Ao 10 k]? else AB
 |_=>AB
def cu(v:AU)(k:List Nat)(B:List (List Nat)):B0 v (k::B)=(YE v k).bind λx=>B0 x B:=by
 cases v with
 |table kd r=>rw[B0];rfl
 |array b l=>
  rw[B0];show _=(if Oe k=AF then l[Ao 10 k]? else AB).bind _;have:(k.isEmpty=AJ/\k.all BY=AF/\k.length<=5)↔Oe k=AF:=by
   unfold Oe;rw[AX,Ak];cases k with
   |nil=>simp
   |cons a r=>
    simp only[List.isEmpty_cons,AN,Ea];constructor
    .rintro⟨D,E⟩;exact⟨!3,D⟩
    rintro⟨D,E⟩;exact⟨E,!3⟩
  by_cases h:Oe k=AF
  .rw[AI (this.2 h),AI h]
  rw[AD λz=>h (this.1 z),AD h];rfl
 |_=>rw[B0]<;>first|rfl|exact λy y z=>nomatch z
inductive oJ (A:JL)(vs:List V)(H:Hp)(Q:VK)(E:XK):Prop
 |mk (p a:AK)(v:AU)(k:List Nat)(c:List AK)(_:vs=[.ref p,.ref a])(_:IL A H v p c)(_:H a=U (.tup (IH k)))(_:(∀u,YE v k=U u-> ∀H' q fq,IL A H' u q fq->(∀b∈fq,b∈c)->Fr [] H H'->Q (.ref q) H'))(_:(YE v k=AB-> ∀H',Fr [] H H'->E (.ref A.wi) AB H'))
def dj(T:Txt K mg A)(KK:JH K A): !20 3 "within" ["thing","part"] (oJ A):=by
 show 8 ["thing","part","index"] 74;obtain⟨p,kp,v,k,fp,rfl,E,O,q1,L⟩:=h;refine⟨_,(Gy (IS (PW.pt (J2 (Ik (IT JZ T.JP Iu (Hz (pv 0) (Hn (Je (cT T) rfl))))) (Jr (KY (fw (Mm hr) (pv 1) (Ih (pv 0) rfl)))))) (Hm (Hy (Qa (Mm hr) (Ih (pv 0) rfl) (pv 1) (λy y=>rfl)))) IC)
   (Gy (IS (PW.pt (J2 (Ik (IT JZ T.JP Iu (Hz (pv 0) (Hn (Je (cA T) rfl))))) (Jr (Ik (Hr (Zx T) (Hn (pv 1))))))) (Gy (IA (i:=2) (Hr (Ke T) (Hn (pv 1))))
   (Hm (IS (IB Kt (pv 2) (IT IP T.Jf PySem.boot_len (Hn (Ih (pv 0) rfl)))) (Hm (Hy (KS Jh (Ih (pv 0) rfl) (pv 2) (λy y=>rfl)))) IC))) IC)
   (Hm (JE T.Ia rfl)))),?_⟩
 refine II λN1 S=>?_;simp![];have second:((∃kd r,v=.table kd r)->YE v k=AB)->N1 [U (V.ref p),U (V.ref kp),AB] H:=by
  intro Y;refine S _ _ ?_
  simp![];obtain⟨Z,dx,fs,e⟩|⟨b,l,dx,m,rfl,e⟩|⟨kd,r,dx,d,rfl,e⟩:=E.kind
  .refine⟨_,KK.leaf.ty e,_,KK.la,?_⟩;refine Ol ?_
   refine L ?_ H Fr.refl
   cases v<;>first|rfl|exact Z.elim
  .refine⟨_,KK.array.ty e,_,Kw _ _,?_⟩;refine Yy ?_
   refine⟨kp,k,rfl,O,λH1 B=>?_⟩;show 4;obtain⟨iW,m2,ps,fl,o1,o2,o3,o4,o5⟩:=Jb.1 E;by_cases G:Oe k=AF
   .refine iT G ?_
    have F:=G;unfold Oe at F;rw[AX,Ak]at F;refine⟨kp,k,rfl,.inr (NR.of (B _ _ O (!2))),λx hx=>A7.1 F.2 x hx,!5,?_⟩;have hs:YE (.array b l) k=l[Ao 10 k]? :=by
     show(if Oe k=AF then l[Ao 10 k]? else AB)=_;rw[AI G]
    refine⟨_,_,_,B _ _ o1 (!2),T.LM,T.JU,_,LB _ _,_,.inl (Ip.of (B _ _ o2 (!2))),?_⟩;show 4;have I:(IG ps).length=l.length:=by unfold IG;rw[AY];exact o3.length
    rw[I];by_cases J:Ao 10 k<l.length
    .refine dT (show((Ao 10 k:Nat):Int)<(l.length:Int)by nofun) ?_
     obtain⟨q,fq,g1,g2,g3⟩:=o3.get (List.getElem?_eq_getElem J);refine⟨_,_,_,B _ _ o1 (!2),T.LM,T.JU,_,LB _ _,_,Ip.of (B _ _ o2 (!2)),.ref q,KU ?_,?_⟩
     .unfold IG;rw[List.getElem?_map,g1];rfl
     refine q1 _ (by rw[hs,List.getElem?_eq_getElem J]) H1 q fq (g2.fr B λy y=>by simp) (λb hb=>?_) B;rw[o4];simp[g3 b hb]
    refine dF (show¬((Ao 10 k:Nat):Int)<(l.length:Int)by nofun) ?_
    exact L (by rw[hs,List.getElem?_eq_none (!5)]) H1 B
   refine W5 G ?_
   refine L ?_ H1 B
   show(if Oe k=AF then l[Ao 10 k]? else AB)=_;rw[AD G]
  refine⟨_,KK.table.ty e,_,KK.ta,?_⟩;refine Ol ?_
  exact L (Y ⟨kd,r,rfl⟩) H Fr.refl
 obtain⟨Z,dx,fs,e⟩|⟨b,l,dx,m,rfl,e⟩|⟨kd,r,dx,d,rfl,e⟩:=E.kind
 .refine⟨_,KK.leaf.ty e,_,KK.lt,?_⟩;refine Ol ?_
  exact second (by rintro⟨_,_,rfl⟩;exact Z.elim)
 .refine⟨_,KK.array.ty e,_,KK.at_,?_⟩;refine Ol ?_
  exact second (by rintro⟨_,_,z⟩;cases z)
 refine⟨_,KK.table.ty e,_,Kw _ _,?_⟩;refine Yy ?_
 obtain⟨iW,d2,LZ,fl,i1,i2,i3,i4,i5,i6,i7⟩:=K0 E;have D:MA H d2 (.ref kp) (Lp LZ (pk k)):=MA.t (k:=pk k) i2 (by rw[Kk];exact O);refine⟨_,_,_,i1,T.JQ,T.IZ,_,JT _ _,_,D,?_⟩;cases M:CC r k with
 |none=>
  rw[JR.Qc i3 M];simp only[Bp,Ai,BX];exact second λy=>M
 |some u=>
  obtain⟨q,B,g1,g2,b1,b2,b3,_⟩:=JR.find i3 i5 M;rw[b3]at D⊢;simp only[Bf,BS];refine⟨_,_,_,i1,T.JQ,T.IZ,_,JT _ _,_,D,?_⟩;refine q1 u M H q B b2 (λb hb=>?_) Fr.refl;rw[i4,b1];simp[hb]
inductive jr (A:JL)(vs:List V)(H:Hp)(Q:VK)(E:XK):Prop
 |mk (a:AK)(t:List Nat)(_:vs=[.ref a])(_:H a=U (.lst (IH t)))(_:t.length<=4096)(_:(∀x∈t,x<256))(_:(∀ws,Cd t=U ws-> ∀H' p as,H' p=U (.lst (IG as))->K5 H' as ws->Fr [] H H'->Q (.ref p) H'))(_:(Cd t=AB-> ∀H',Fr [] H H'->E (.ref A.wi) AB H'))
def VA(T:Txt K mg A)(TT:LN K mg): !20 9 "parts_of_way" ["way"] (jr A):=by
 show 8 ["way","cursor","parts"] 73;obtain⟨a,t,rfl,ha,hl,hb,I,J⟩:=h;refine⟨_,(Gy (IS (IB L1 (IT IP T.Jf PySem.boot_len (Hn (pv 0))) (Hx T.QD)) (Hm (JE T.Ia rfl)) IC)
   (Gy (IS (IB JB (IT IP T.Jf PySem.boot_len (Hn (pv 0))) Ht) (Hm (Hy (Ib ML))) IC)
   (Gy (IA (i:=1) (Jl (Vg T) (Hn (pv 0))))
   (Gy (IA (i:=2) (Hr (QK T TT) (Hn (pv 1)) (hx:=Ig)))
   (Gy (IS (IB L0 (ID (Iy T) (pv 1)) (Hx T.Vq)) (Hm (JE T.Ia rfl)) IC)
   (Hm (Hy (pv 2)))))))),?_⟩
 refine II λN1 B=>?_;simp![];refine⟨IH t,.inl (Ip.of ha),?_⟩;rw[Hw,AM (show¬(t.length:Int)>4096 by nofun),AD AH];refine B _ _ (II λN2 D=>?_);clear B;simp![];refine⟨IH t,.inl (Ip.of ha),?_⟩;rw[Hw];rw[XU]at I J;by_cases M:t=[]
 .subst M;have:decide (((([]:List Nat).length:Nat):Int)=0)=AF:=!1
  refine iT this ?_
  refine⟨Ax _,λp hp=>?_⟩;exact I [] (AI rfl) _ p [] Hq .nil (Fr.new hp)
 have S:0<t.length:=CJ.2 M;refine dF (show¬((t.length:Nat):Int)=0 by nofun) ?_
 refine D _ _ (II λN3 E=>?_);clear D;rw[AD M]at I J;simp![KL];refine MO (H:=H) (C:=A.Ic) (g:=zp) (us:=[.ref a]) (Q:=λv H2=>N3 [U (V.ref a),U v,AB] H2) rfl λH2 c O ⟨F,Y⟩ Z=>E _ _ ?_;clear E;have c2:JN A H2 c ⟨a,t⟩ t:=⟨⟨F,a,0,Y,Z _ _ ha (!2),rfl,Ax _⟩,⟨F,0,Y⟩,by show t.length<=20000;nofun,hb⟩;have back: ∀{H':Hp},Fr [c] H2 H'->Fr [] H H':=λ{H'} f b o e _=>f b o (Z b o e (!2)) λz=>by
  rw[AV.1 z,O]at e;cases e
 simp?! [];refine⟨c,_,t,rfl,c2,λx ex H3 pl as Wz G tl c3 L=>?_,λen H3 L=>J (by rw[en];rfl) H3 (back L)⟩;refine⟨c,_,_,rfl,c3,?_⟩;show 4;by_cases hx:x.2=[]
 .have:decide (LP x.2=256)=AF:=by rw[hx];decide
  rw[this];refine bB ?_
  exact I x.1 (by rw[ex];show 3;rw[AI hx]) H3 pl as G tl (back L)
 have:decide (LP x.2=256)=AJ:=by
  cases e:x.2 with
  |nil=>exact absurd e hx
  |cons y r=>
   have:=c3.sub y (by rw[e];simp);rw[JF];exact AM λz=>by nofun
 rw[this];refine Xc ?_
 exact J (by rw[ex];show 3;rw[AD hx]) H3 (back L)
inductive jw (A:JL)(vs:List V)(H:Hp)(Q:VK)(E:XK):Prop
 |mk (R a:AK)(v:AU)(t:List Nat)(b:List AK)(_:vs=[.ref R,.ref a])(_:IL A H v R b)(_:H a=U (.lst (IH t)))(_:t.length<=4096)(_:(∀x∈t,x<256))(_:(∀u,((Cd t).bind λws=>B0 v ws)=U u-> ∀H' q fq,IL A H' u q fq->Fr [] H H'->Q (.ref q) H'))(_:(((Cd t).bind λws=>B0 v ws)=AB-> ∀H',Fr [] H H'->E (.ref A.wi) AB H'))
def i8(T:Txt K mg A)(TT:LN K mg)(KK:JH K A): !20 10 "at_way" ["root","way"] (jw A):=by
 show 8 ["root","way","thing","part"] 72;obtain⟨R,a,v,t,fp,rfl,L,ha,hl,hb,M,I⟩:=h;refine⟨_,(Gy (IA (i:=2) (pv 0))
   (Gy (LG Ag rfl (L7 (Hr (VA T TT) (Hn (pv 1)) (hx:=Ig))) (JO (i:=3) S.nd rfl (CW rfl)) (Hm (IA (i:=2) (Hr (dj T KK) (Hz (pv 2) (Hn (pv 3))) (hx:=Ig)))))
   (Hm (Hy (pv 2))))),?_⟩
 simp![];refine⟨a,t,rfl,ha,hl,hb,λws O Y pl as F tl G=>?_,λhn Y G=>I (by rw[hn];rfl) Y G⟩;rw[O]at M I;simp only[AE]at M I;refine⟨⟨_,Ip.of F⟩,forL (xs:=IG as) (λi J H'=> ∃p cur E z,Fr [] Y H'/\IL A H' cur p E/\B0 v ws=B0 cur (ws.drop i)/\J=[U (.ref R),U (.ref a),U (.ref p),z]) ⟨R,v,fp,_,Fr.refl,L.fr G (λy y=>by simp),rfl,rfl⟩ ?_ ?_ ?_⟩
 .rintro i J H' _ ⟨p,cur,E,z,f,_⟩;exact Ip.of (f _ _ F (!2))
 .rintro i x J H' hx ⟨p,cur,E,z,f,Z,B,rfl⟩;obtain⟨kp,k,rfl,hk,hkp⟩:=tl.get hx;have D:ws.drop i=k::ws.drop (i+1):=by
   obtain⟨h1,h2⟩:=List.getElem?_eq_some_iff.1 hk;rw[Cn h1,h2]
  rw[D,cu]at B;show _;simp![];refine⟨p,kp,cur,k,E,rfl,Z,f _ _ hkp (!2),λu hu H2 q fq2 hq y f2=>?_,λhn H2 f2=>I (by rw[B,hn];rfl) H2 (G.trans (f.trans f2))⟩;rw[hu]at B;exact⟨f.trans f2,q,u,fq2,hq,B,rfl,_,rfl⟩
 rintro J H' ⟨p,cur,E,z,f,Z,B,rfl⟩;have:(IG as).length=ws.length:=by unfold IG;rw[AY];exact tl.length
 rw[this,EX]at B;exact M cur (by rw[B,B0]) H' p E Z (G.trans f)
noncomputable def XN(A:JL)(H:Hp)(W:List AK):Pc->AK->Prop
 |.txt t,p=>H p=U (.lst (IH t))/\p∉W
 |.val v,p=> ∃f,IL A H v p f/\ ∀b∈f,b∉W
inductive Q5 (A:JL)(H:Hp)(W:List AK):List Pc->List AK->Prop
 |nil:Q5 A H W [] []
 |cons {x:Pc}{p:AK}{xs:List Pc}{ps:List AK}:XN A H W x p->Q5 A H W xs ps->Q5 A H W (x::xs) (p::ps)
theorem XN.fr(h:XN A H W x p)(f:Fr W H H'):XN A H' W x p:=by
 cases x with
 |txt t=>exact⟨f _ _ h.1 h.2,h.2⟩
 |val v=>
  obtain⟨fp,h,hd⟩:=h;exact⟨fp,h.fr f hd,hd⟩
def XN.less(h:XN A H W x p)(B: ∀b∈W',b∈W):XN A H W' x p:=by
 cases x with
 |txt t=>exact⟨h.1,λz=>h.2 (B p z)⟩
 |val v=>
  obtain⟨fp,h,hd⟩:=h;exact⟨fp,h,λb D z=>hd b D (B b z)⟩
theorem Q5.fr(h:Q5 A H W xs ps)(f:Fr W H H'):Q5 A H' W xs ps:=by
 induction h with
 |nil=>exact .nil
 |cons a b B=>exact .cons (a.fr f) B
theorem Q5.less(h:Q5 A H W xs ps)(B: ∀b∈W',b∈W):Q5 A H W' xs ps:=by
 induction h with
 |nil=>exact .nil
 |cons a b D=>exact .cons (a.less B) D
theorem Q5.length(h:Q5 A H W xs ps):ps.length=xs.length:=by
 induction h with
 |nil=>rfl
 |cons a b B=>rw[AN,AN,B]
def Q5.append(h:Q5 A H W xs ps)(B:Q5 A H W D E):Q5 A H W (xs++D) (ps++E):=by
 induction h with
 |nil=>exact B
 |cons a b F=>exact .cons a F
def Q5.snoc(h:Q5 A H W xs ps)(B:XN A H W y p):Q5 A H W (xs++[y]) (ps++[p]):=h.append (.cons B .nil)
def Q5.rev(h:Q5 A H W xs ps):Q5 A H W xs.reverse ps.reverse:=by
 induction h with
 |nil=>exact .nil
 |cons a b B=>
  rw[DR,DR];exact B.snoc a
theorem Q5.last: ∀{xs:List Pc}{y:Pc}{ps:List AK},Q5 A H W (xs++[y]) ps-> ∃B p,ps=B++[p]/\Q5 A H W xs B/\XN A H W y p
 |[],y,ps,h=>by
  cases h with
  |cons a b=>cases b;exact⟨[],_,rfl,.nil,a⟩
 |x::xs,y,ps,h=>by
  cases h with
  |cons a b=>
   obtain⟨B,p,D,E,F⟩:=Q5.last b;exact⟨_::B,p,by rw[D];rfl,.cons a E,F⟩
noncomputable def Off(H:Hp)(fp W:List AK):Prop:=(∀b∈W,H b≠AB)/\ ∀b∈fp,b∉W
noncomputable def AAP(A:JL)(H:Hp)(fp:List AK)(xs:List Pc)(Q:VK):Prop:= ∀H' p ps,H p=AB->H' p=U (.lst (IG ps))->(∀W,Off H fp W->Q5 A H' (p::W) xs ps)->Fr [] H H'->Q (.ref p) H'
inductive QQ (A:JL)(g:AU->Prop)(vs:List V)(H:Hp)(Q:VK)(E:XK):Prop
 |mk (a:AK)(v:AU)(b:List AK)(_:vs=[.ref a])(_:IL A H v a b)(_:g v)(_:wV Kj v<=200000)(_:wV Kb v<=2000000)(_:AAP A H b (R8 v) Q)
noncomputable def isA(v:AU):Prop:= ∃b l,v=.array b l
noncomputable def R5(A:JL)(H:Hp)(fp:List AK)(m:AK)(xs:List Pc)(H':Hp):Prop:= ∃ps,H' m=U (.lst (IG ps))/\(∀W,Off H fp W->Q5 A H' (m::W) xs ps)/\Fr [] H H'/\xs.length<=200000/\ps.length=xs.length
def Wb{xs:List Pc}(h:ps.length=xs.length)(D:xs.length<=200000):(IG ps).length=xs.length/\(IG ps).length<Ac:=by
 have B:(IG ps).length=xs.length:=by unfold IG;rw[AY];exact h
 have e:Ac=16777216:=CV;exact⟨B,!3⟩
def R5.room(h:R5 A H fp m xs H'): ∃ps,H' m=U (.lst (IG ps))/\(IG ps).length=xs.length/\(IG ps).length<Ac:=by
 obtain⟨ps,B,I,J,D,E⟩:=h;obtain⟨F,G⟩:=Wb E D;exact⟨ps,B,F,G⟩
def R5.text(hm:H m=AB)(h:R5 A H fp m xs H')(B:H' q=AB)(D:H2 q=U (.lst (IH t)))(f:Fr [] H' H2)(O:xs.length<200000):
  ∃ps,H2 m=U (.lst (IG ps))/\(IG ps).length<Ac/\R5 A H fp m (xs++[.txt t]) (Hu H2 m (.lst (IG ps++[.ref q]))):=by
 obtain⟨ps,F,L,G,M,I⟩:=h;have E:q≠m:=λz=>by rw[z,F]at B;cases B
 refine⟨ps,f _ _ F (!2),(Wb I M).2,ps++[q],by rw[Hq,KR],λW J=>?_,(G.trans f).Z8 hm,by rw[AG,Am];nofun,by rw[AG,AG,I];rfl⟩;refine(((L W J).fr f.of0).snoc (y:=.txt t) ⟨D,λz=>?_⟩).fr (Fr.upd (!2));obtain z|z:=AO.1 z
 .exact E z
 have:=J.1 q z;cases e:H q with
 |none=>exact this e
 |some o=>rw[G q o e (!2)]at B;cases B
def R5.eY(hm:H m=AB)(h:R5 A H fp m xs H')(D:IL A H v p E)(hs: ∀b∈E,b∈fp)(O:xs.length<200000):
  ∃ps,H' m=U (.lst (IG ps))/\(IG ps).length<Ac/\R5 A H fp m (xs++[.val v]) (Hu H' m (.lst (IG ps++[.ref p]))):=by
 obtain⟨ps,J,L,F,M,G⟩:=h;refine⟨ps,J,(Wb G M).2,ps++[p],by rw[Hq,KR],λW I=>?_,F.Z8 hm,by rw[AG,Am];lia,by rw[AG,AG,G];rfl⟩;refine((L W I).snoc (y:=.val v) ⟨E,D.fr F (λx x=>by simp),λb B z=>?_⟩).fr (Fr.upd (!2));obtain z|z:=AO.1 z
 .rw[z]at B;exact D.KO m B hm
 exact I.2 b (hs b B) z
theorem Xv(v:AU): ∀(b:Bool)(l:List AU),Q3 b (l++[v])=Q3 b l++((if b=AF\/l≠ []then [Pc.txt [44]]else [])++[Pc.val v])
 |b,[]=>by
  cases b<;>simp[Q3]
 |b,u::l=>by
  rw[Az,Q3,Q3,Xv v AF l];simp
theorem TY(k:List Nat)(v:AU): ∀(b:Bool)(r:Ae),P9 b (r++[(k,v)])=P9 b r++((if b=AF\/r≠ []then [Pc.txt [44]]else [])++[Pc.txt (By k++[58]),Pc.val v])
 |b,[]=>by
  cases b<;>simp[P9]
 |b,u::l=>by
  rw[Az,P9,P9,TY k v AF l];simp
theorem SQ: ∀(b:Bool)(l:List AU),(Q3 b l).length<=2*l.length/\(l≠ []->0<(Q3 b l).length)
 |b,[]=>⟨AR _,λz=>absurd rfl z⟩
 |b,v::l=>by
  have:=(SQ AF l).1;rw[Q3,AG,AN,AN];have h:(if b=AF then [Pc.txt [44]]else []).length<=1:=by cases b<;>decide
  exact⟨!5,λy=>by nofun⟩
theorem SO: ∀(b:Bool)(r:Ae),(P9 b r).length<=3*r.length/\(r≠ []->0<(P9 b r).length)
 |b,[]=>⟨AR _,λz=>absurd rfl z⟩
 |b,v::l=>by
  have:=(SO AF l).1;rw[P9,AG,AN,AN,AN];have h:(if b=AF then [Pc.txt [44]]else []).length<=1:=by cases b<;>decide
  exact⟨!3,λy=>by lia⟩
theorem fi: ∀l:List AU,3*l.length<=wL Kj l
 |[]=>by dsimp only[wL];exact AR _
 |v::l=>by
  rw[wL,AN];have:=fi l;have B:1<=wV Kj v:=WV (.val v);have D:Kj.c1=2:=rfl
  lia
theorem fh: ∀r:Ae,3*r.length<=wR Kj r
 |[]=>by dsimp only[wR];exact AR _
 |(k,v)::l=>by
  rw[wR,wX,AN];have:=fh l;have B:1<=wV Kj v:=WV (.val v);have D:Kj.c1=2:=rfl
  lia
def R5.first(E:H p=AB)(hm:Hu H p (.lst (IH t)) m=AB):H m=AB/\R5 A H fp m [.txt t] (Hu (Hu H p (.lst (IH t))) m (.lst [.ref p])):=by
 have B:p≠m:=λz=>by rw[<-z,Hq]at hm;cases hm
 have D:H m=AB:=by rw[Hv (Ne.symm B)]at hm;exact hm
 refine⟨D,[p],Hq,λW F=>.cons ⟨(Hv B).trans Hq,λz=>?_⟩ .nil,λb o e y=>?_,!2,rfl⟩
 .obtain z|z:=AO.1 z
  .exact B z
  exact F.1 p z E
 rw[Hv (IJ e D),Hv (IJ e E)];exact e
def Uk(T:Txt K mg A): !20 1 "array_pieces" ["array"] (QQ A isA):=by
 show 8 ["array","pieces","thing"] 12;obtain⟨a,v,fp,rfl,gv,⟨b,l,rfl⟩,hw,_,q⟩:=h;refine⟨_,(Gy (IA (i:=1) (Ib (Hn (Ib (Hn (Hx T.Jt))))))
   (Gy (LG Ag rfl (L7 (Ih (pv 0) rfl)) (JO (i:=2) S.nd rfl (CW rfl)) (Gy (IS (IB L1 (IT IP T.Jf PySem.boot_len (Hn (pv 1))) Ht) (Hm (IK (KZ PySem.F.plainAttrs_list PySem.F.slot_list_append PySem.F.type_list_append Jg (pv 1) (Hn (Ib (Hn (Hx T.Qq))))))) IC)
   (Hm (IK (KZ PySem.F.plainAttrs_list PySem.F.slot_list_append PySem.F.type_list_append Jg (pv 1) (Hn (pv 2)))))))
   (Gy (IK (KZ PySem.F.plainAttrs_list PySem.F.slot_list_append PySem.F.type_list_append Jg (pv 1) (Hn (Ib (Hn (Hx T.Jx))))))
   (Hm (Hy (pv 1)))))),?_⟩
 obtain⟨dx,ml,pl,fl,o1,o2,o3,o4,o5⟩:=Jb.1 gv;refine II λN1 M=>?_;simp![];refine⟨Iv (!1),λp1 gy=>⟨Iv (!1),λm hm=>M _ _ (II λN2 Pg=>?_)⟩⟩;clear M;obtain⟨H1,e1,B,O⟩: ∃H1,Hu (Hu H p1 (.lst [V.int 91])) m (.lst [V.ref p1])=H1/\H m=AB/\R5 A H fp m [.txt [91]] H1:=⟨_,rfl,R5.first (t:=[91]) gy hm⟩;rw[e1];have hW:Kj.c0=3:=rfl;rw[J5,hW]at hw;have hL:=fi l;have f1:Fr [] H H1:=let⟨_,_,_,f,_⟩:=O;f;have Y:=f1 _ _ o1 (!2);have o21:=f1 _ _ o2 (!2);simp![Y,Kc Y,T.LM,T.JU,LB];refine⟨⟨_,Ip.of o21⟩,forL (xs:=IG pl) (λi σ H'=>(∃z,σ=[U (.ref a),U (.ref m),z])/\R5 A H fp m (.txt [91]::Q3 AJ (l.take i)) H') ⟨⟨_,rfl⟩,O⟩ ?_ ?_ ?_⟩
 .rintro i σ H' _ ⟨_,_,_,_,f,_⟩;exact Ip.of (f _ _ o2 (!2))
 .rintro i x σ H' hx ⟨⟨z,rfl⟩,G⟩;show _;simp![];obtain⟨ps,g1,g2,g3⟩:=G.room;have D:=(SQ AJ (l.take i)).1;have Z:i<l.length:=by
   have I:=(List.getElem?_eq_some_iff.1 hx).1;unfold IG at I;rw[AY,o3.length]at I;exact I
  rw[AW]at D;obtain⟨q,fq,k1,k2,k3⟩:=o3.get (List.getElem?_eq_getElem Z);obtain rfl:x=.ref q:=by
   unfold IG at hx;rw[List.getElem?_map,k1]at hx;cases hx;rfl
  have Zf:l.take (i+1)=l.take i++[l[i]]:=by
   rw[Cw,List.getElem?_eq_getElem Z];rfl
  have J:(Pc.txt [91]::Q3 AJ (l.take i)).length=(Q3 AJ (l.take i)).length+1:=rfl;refine⟨_,.inl (Ip.of g1),?_⟩;rw[g2,Zf,Xv];by_cases h0:l.take i=[]
  .have I:Q3 AJ (l.take i)=[]:=by rw[h0];rfl
   rw[I];rw[I]at G;rw[AM (!2),AD AH,AD (by simp[h0])];obtain⟨xQ,L,j2,j3⟩:=G.eY B k2 (λb hb=>by rw[o4];simp[k3 b hb]) (!2);exact⟨Im L,_,L,j2,⟨_,rfl⟩,j3⟩
  have I:=(SQ AJ (l.take i)).2 h0;rw[Af (by rw[J];nofun),AI rfl,AI (.inr h0)];refine⟨Im g1,Iv (!1),λp2 E=>?_⟩;obtain⟨xQ,L,j2,j3⟩:=G.text (t:=[44]) B E Hq (Fr.new E) (by rw[J];nofun);refine⟨_,L,j2,?_⟩;obtain⟨r9,t1,t2,t3⟩:=j3.eY B k2 (λb hb=>by rw[o4];simp[k3 b hb]) (by rw[AG,J,Am];nofun);refine⟨Im t1,_,t1,t2,⟨_,rfl⟩,?_⟩;rw[Ah]at t3;exact t3
 rintro σ H' ⟨⟨z,rfl⟩,G⟩;refine Pg _ _ ?_
 simp![];obtain⟨ps,g1,g2,g3⟩:=G.room;have D:(IG pl).length=l.length:=by unfold IG;rw[AY];exact o3.length
 rw[D,BG]at G;have vZ:=(SQ AJ l).1;refine⟨Im g1,Iv (!1),λp2 E=>?_⟩;obtain⟨xQ,L,j2,r9,t1,t2,t3,t4,t5⟩:=G.text (t:=[93]) B E Hq (Fr.new E) (by rw[AN];nofun);refine⟨_,L,j2,q _ m r9 B t1 ?_ t3⟩;exact t2
theorem JR.get: ∀{r:Ae}{B:List (List Key×V)}{fl:List AK}{i:Nat}{k:List Key}{u:V},JR A H r B fl->B[i]? =U (k,u)-> ∃x p f,r[i]? =U x/\k=pk x.1/\u=.ref p/\IL A H x.2 p f/\ ∀b∈f,b∈fl
 |[],B,fl,i,k,u,h,e=>by
  rw[KP]at h;rw[h.1]at e;simp at e
 |x::r,B,fl,0,k,u,h,e=>by
  rw[Jc]at h;obtain⟨p,D,F,J,rfl,rfl,G,I⟩:=h;cases e;exact⟨x,p,F,rfl,rfl,rfl,G,λb E=>by simp[E]⟩
 |x::r,B,fl,i+1,k,u,h,e=>by
  rw[Jc]at h;obtain⟨p,D,F,J,rfl,rfl,G,I⟩:=h;obtain⟨y,L,f,M,O,S,Y,Z⟩:=JR.get I (show D[i]? =U (k,u)from e);exact⟨y,L,f,M,O,S,Y,λb E=>by simp[Z b E]⟩
def Sr(h:a≠b):Hu (Hu H a o) b u=Hu (Hu H b u) a o:=by
 funext c
 by_cases B:c=b
 .rw[B,Hq,Hv (Ne.symm h),Hq]
 by_cases D:c=a
 .rw[D,Hv h,Hq,Hq]
 rw[Hv B,Hv D,Hv D,Hv B]
def R5.mE(hm:H m=AB)(B:m≠d)(hd:H3 d=U o)(h:R5 A H fp m xs (Hu H3 d u))(F:H3 q=AB)(G:E q=U (.lst (IH t)))(f:Fr [] H3 E)(L:xs.length<200000):
  ∃ps,E m=U (.lst (IG ps))/\(IG ps).length<Ac/\R5 A H fp m (xs++[.txt t]) (Hu (Hu E m (.lst (IG ps++[.ref q]))) d u):=by
 have D:q≠d:=λz=>by rw[z,hd]at F;cases F
 obtain⟨ps,I,M,O⟩:=h.text (H2:=Hu E d u) (t:=t) hm ((Hv D).trans F) ((Hv D).trans G) (λb S e y=>by
  by_cases J:b=d
  .rw[J,Hq]at e⊢;exact e
  rw[Hv J]at e⊢;exact f b S e (!2)) L
 rw[Hv B]at I;refine⟨ps,I,M,?_⟩;rw[Sr B];exact O
def R5.nZ(hm:H m=AB)(B:m≠d)(h:R5 A H fp m xs (Hu H3 d u))(E:IL A H v p F)(hs: ∀b∈F,b∈fp)(G:xs.length<200000):
  ∃ps,H3 m=U (.lst (IG ps))/\(IG ps).length<Ac/\R5 A H fp m (xs++[.val v]) (Hu (Hu H3 m (.lst (IG ps++[.ref p]))) d u):=by
 obtain⟨ps,D,I,J⟩:=h.eY hm E hs G;rw[Hv B]at D;refine⟨ps,D,I,?_⟩;rw[Sr B];exact J
def dH{r:Ae}{x:List Nat×AU}(h:x∈r):x.1.length<=wR Kb r:=by
 induction r with
 |nil=>cases h
 |cons y r B=>
  rw[wR];obtain rfl|h:=AO.1 h
  .obtain⟨k,v⟩:=x;rw[wX];have:k.length<=(By k).length:=by
    unfold By;rw[AN,AG];have: ∀k:List Nat,k.length<=(k.flatMap (λc=>if c=34\/c=92 then [92,c]else if c<32 then [92,117,48,48,CP (c/16),CP (c%16)]else [c])).length:=by
     intro k
     induction k with
     |nil=>simp
     |cons c k B=>
      rw[BW,AG,AN];have:1<=(if c=34\/c=92 then [92,c]else if c<32 then [92,117,48,48,CP (c/16),CP (c%16)]else [c]).length:=by split;simp;split<;>simp
      omega
    have:=this k;omega
   have D:Kb.kw k=(By k).length:=rfl;show 4;omega
  have:=B h;omega
def UZ(T:Txt K mg A)(C:SG K mg): !20 4 "table_pieces" ["table"] (QQ A qx):=by
 show 8 ["table","pieces","part","thing"] 11;obtain⟨a,v,fp,rfl,gv,⟨kd,r,rfl⟩,hw,vP,q⟩:=h;refine⟨_,(Gy (IA (i:=1) (Ib (Hn (Ib (Hn (Hx T.Nn))))))
   (Gy (kH (LG Ag rfl (cF (Ih (pv 0) rfl)) (WY rfl (Ls (JO (i:=2) S.nd rfl (CW rfl)) (Ls (JO (i:=3) S.nd rfl (CW rfl)) SN))) (Gy (IS (IB L1 (IT IP T.Jf PySem.boot_len (Hn (pv 1))) Ht) (Hm (IK (KZ PySem.F.plainAttrs_list PySem.F.slot_list_append PySem.F.type_list_append Jg (pv 1) (Hn (Ib (Hn (Hx T.Qq))))))) IC)
   (Gy (IK (KZ PySem.F.plainAttrs_list PySem.F.slot_list_append PySem.F.type_list_append Jg (pv 1) (Hn (Ij Mv (Hr (Rx T C) (Hn (pv 2))) (Ib (Hn (Hx T.kr)))))))
   (Hm (IK (KZ PySem.F.plainAttrs_list PySem.F.slot_list_append PySem.F.type_list_append Jg (pv 1) (Hn (pv 3)))))))))
   (Gy (IK (KZ PySem.F.plainAttrs_list PySem.F.slot_list_append PySem.F.type_list_append Jg (pv 1) (Hn (Ib (Hn (Hx T.Kx))))))
   (Hm (Hy (pv 1)))))),?_⟩
 obtain⟨dx,d,B,fl,i1,i2,i3,i4,i5,i6,i7⟩:=K0 gv;refine II λN1 Nw=>?_;simp![];refine⟨Iv (!1),λp1 gy=>⟨Iv (!1),λm hm=>Nw _ _ (II λN2 Pg=>?_)⟩⟩;clear Nw;obtain⟨H1,e1,I,ps0⟩: ∃H1,Hu (Hu H p1 (.lst [V.int 123])) m (.lst [V.ref p1])=H1/\H m=AB/\R5 A H fp m [.txt [123]] H1:=⟨_,rfl,R5.first (t:=[123]) gy hm⟩;rw[e1];have hW:Kj.c0=3:=rfl;rw[Io,hW]at hw;have hR:=fh r;have f1:Fr [] H H1:=let⟨_,_,_,f,_⟩:=ps0;f;have i11:=f1 _ _ i1 (!2);have i21:=f1 _ _ i2 (!2);refine⟨d,_,i21,trivial,λod=>?_⟩;have D:m≠d:=λz=>by rw[z,i2]at I;cases I
 have zG:a≠d:=OY i1 i2 (by intro z;cases z);have i12:Hu H1 d (.MZ od (.dT B)) a=U (.ins A.table dx (tf (MY kd) d)):=(Hv zG).trans i11;have hid:Hu (Hu H1 d (.MZ od (.dT B))) d (.dT B)=H1:=by
  funext b
  by_cases hb:b=d
  .rw[hb,Hq,i21]
  rw[Hv hb,Hv hb]
 refine⟨A.table,dx,_,i12,T.JQ,T.IZ,V.ref d,JT _ _,d,od,B,rfl,Hq,?_⟩;refine zT (λi σ H'=>(∃z1 z2,σ=[U (.ref a),U (.ref m),z1,z2])/\H' d=U (.MZ od (.dT B))/\R5 A H fp m (.txt [123]::P9 AJ (r.take i)) (Hu H' d (.dT B))) ⟨⟨_,_,rfl⟩,Hq,by rw[hid];exact ps0⟩ (λi σ H' y h=>h.2.1) ?_ ?_
 .rintro i k u σ H' tp L va ⟨⟨z1,z2,rfl⟩,hd,hp⟩ Y hqk;obtain⟨x,p,f,hx,rfl,rfl,yG,yC⟩:=i3.get va;have hil:i<r.length:=(List.getElem?_eq_some_iff.1 hx).1;have hxi:r[i]? =U x:=hx
  have Zf:r.take (i+1)=r.take i++[(x.1,x.2)]:=by
   rw[Cw,hx];rfl
  have hlen:=(SO AJ (r.take i)).1;rw[AW]at hlen;have sj:(Pc.txt [123]::P9 AJ (r.take i)).length=(P9 AJ (r.take i)).length+1:=rfl;have M:tp≠d:=λz=>by rw[z,hd]at Y;cases Y
  have f2:Fr [] (Hu H' d (.dT B)) (Hu (Hu H' tp (.tup [V.ref L,V.ref p])) d (.dT B)):=by
   rw[Sr M];exact Fr.new ((Hv M).trans Y)
  have O:Hu H' tp (.tup [V.ref L,V.ref p]) d=U (.MZ od (.dT B)):=(Hv (Ne.symm M)).trans hd;have J:Hu H' tp (.tup [V.ref L,V.ref p]) L=U (.tup (IH x.1)):=by
   rw[Hv (IJ hqk Y),<-Kk];exact hqk
  have E:R5 A H fp m (.txt [123]::P9 AJ (r.take i)) (Hu (Hu H' tp (.tup [V.ref L,V.ref p])) d (.dT B)):=by
   obtain⟨ps,Z,g2,g3,g4,g5⟩:=hp;exact⟨ps,f2 _ _ Z (!2),λW hW=>(g2 W hW).fr f2.of0,g3.trans f2,g4,g5⟩
  refine⟨tp,[V.ref L,V.ref p],rfl,NR.of Hq,rfl,?_⟩;dsimp only[a9,qA,UG];refine II λN3 Rq=>?_;generalize Hu H' tp (.tup [V.ref L,V.ref p])=H2 at O J E⊢;have rest: ∀(H3:Hp)(xs:List Pc),H3 d=U (.MZ od (.dT B))->H3 L=U (.tup (IH x.1))->R5 A H fp m xs (Hu H3 d (.dT B))->xs.length+2<200000->xs++[.txt (By x.1++[58]),.val x.2]=.txt [123]::P9 AJ (r.take (i+1))->N3 [U (V.ref a),U (V.ref m),U (V.ref L),U (V.ref p)] H3:=by
   intro H3 xs vg hq3 SD hxs T8;refine Rq _ _ ?_
   simp![];obtain⟨r9,g13,_⟩:=SD.room;rw[Hv D]at g13;have vb:x.1.length<=2000000:=by
    have h9:=dH (BI hx);have h8:Kb.c0=2:=rfl;rw[Io,h8]at vP
    nofun
   refine⟨Im g13,L,x.1,rfl,.inr (NR.of hq3),vb,λH4 f hf pX nB=>⟨Iv (!1),λp5 G=>⟨IH (By x.1),?_,[V.int 58],Hq,?_,λp6 gw=>?_⟩⟩⟩
   .rw[Hv (IJ pX G)];exact pX
   .rw[Hw];have h9:=Na x.1;have e9:Ac=16777216:=CV;show _+1<=_
    nofun
   have lI:Fr [] H3 (Hu (Hu H4 p5 (.lst [V.int 58])) p6 (.lst (IH (By x.1)++[V.int 58]))):=(nB.trans (Fr.new G)).trans (Fr.new gw);have yT:H3 p6=AB:=(nB.trans (Fr.new G)).none gw (!2);have e6:Hu (Hu H4 p5 (.lst [V.int 58])) p6 (.lst (IH (By x.1)++[V.int 58])) p6=U (.lst (IH (By x.1++[58]))):=by
    rw[Hq,Iq];rfl
   obtain⟨ps6,j1,j2,j3⟩:=R5.mE (t:=By x.1++[58]) I D vg SD yT e6 lI (!5);refine⟨_,j1,j2,?_⟩;obtain⟨ps7,t1,t2,t3⟩:=j3.nZ I D yG (λb hb=>by rw[i4];simp[yC b hb]) (by rw[AG,Am];nofun);refine⟨Im t1,_,t1,t2,⟨_,rfl⟩,?_,?_⟩
   .rw[Hv (Ne.symm D),Hv (Ne.symm D)];exact lI _ _ vg (!2)
   rw[<-T8];rw[Ah]at t3;exact t3
  obtain⟨ps,Z,g2,g3⟩:=E.room;rw[Hv D]at Z;simp![];refine⟨_,.inl (Ip.of Z),?_⟩;rw[g2];by_cases h0:r.take i=[]
  .have h1:P9 AJ (r.take i)=[]:=by rw[h0];rfl
   rw[h1,AM (!2),AD AH];rw[h1]at E;refine rest H2 _ O J E (!2) ?_
   rw[Zf,TY,h1,AD (by simp[h0])];rfl
  have h1:=(SO AJ (r.take i)).2 h0;refine dT (by rw[sj];nofun) ?_
  refine⟨Im Z,Iv (!1),λp5 G=>?_⟩;obtain⟨ps6,j1,j2,j3⟩:=R5.mE (t:=[44]) I D O E G Hq (Fr.new G) (by rw[sj];nofun);refine⟨_,j1,j2,rest _ _ ?_ ?_ j3 (by rw[AG,sj,Am];nofun) ?_⟩
  .rw[Hv (Ne.symm D),Hv (IJ O G)];exact O
  .have vS:L≠m:=λz=>by rw[z,Z]at J;cases J
   rw[Hv vS,Hv (IJ J G)];exact J
  rw[Zf,TY,AI (.inr h0)];simp
 rintro σ H' ⟨⟨z1,z2,rfl⟩,hd,hp⟩;refine⟨hd,Pg _ _ ?_⟩;simp![];rw[i7,BG]at hp;obtain⟨ps,Z,g2,g3⟩:=hp.room;have vZ:=(SO AJ r).1;refine⟨Im Z,Iv (!1),λp2 E=>?_⟩;obtain⟨xQ,j1,j2,r9,t1,t2,t3,t4,t5⟩:=hp.text (t:=[125]) I E Hq (Fr.new E) (by rw[AN];nofun);exact⟨_,j1,j2,q _ m r9 I t1 t2 t3⟩
def Yq(T:Txt K mg A)(C:SG K mg)(KK:JH K A): !20 5 "pieces_of" ["thing"] (QQ A λv=> ¬MV v):=by
 show 8 ["thing"] 10;obtain⟨a,v,fp,rfl,B,F,E,D,q⟩:=h;refine⟨_,(Gy (IS (Ik (IT JZ T.JP Iu (Hz (pv 0) (Hn (Je (cT T) rfl))))) (Hm (Hy (Hr (UZ T C) (Hn (pv 0))))) IC)
   (Hm (Hy (Hr (Uk T) (Hn (pv 0)))))),?_⟩
 simp![];obtain⟨G,_⟩|⟨b,l,dx,m,rfl,e⟩|⟨kd,r,dx,d,rfl,e⟩:=B.kind
 .exact absurd G F
 .refine⟨_,KK.array.ty e,_,KK.at_,?_⟩;refine Ol ?_
  exact⟨a,_,fp,rfl,B,⟨b,l,rfl⟩,E,D,q⟩
 refine⟨_,KK.table.ty e,_,Kw _ _,?_⟩;refine Yy ?_
 exact⟨a,_,fp,rfl,B,⟨kd,r,rfl⟩,E,D,q⟩
noncomputable def Z4(x:Pc):Prop:= ∀v,x=.val v->wV Kj v<=200000/\wV Kb v<=2000000
inductive oO (A:JL)(vs:List V)(H:Hp)(Q:VK)(E:XK):Prop
 |mk (a:AK)(v:AU)(b:List AK)(_:vs=[.ref a])(_:IL A H v a b)(_:wV Kj v<=200000)(_:wV Kb v<=2000000)(_:VE H (IH (fm v)) Q)
noncomputable def ue(A:JL)(H:Hp)(v:AU)(B D:AK)(k:Nat)(H':Hp):Prop:=
 ∃(done:List Nat)(xs:List Pc)(ps:List AK),H' B=U (.lst (IH done))/\H' D=U (.lst (IG ps))/\Q5 A H' [B,D] xs ps/\done++xs.reverse.flatMap Uq=fm v/\(∀x∈xs,Z4 x)/\PF xs<=200000/\Fr [] H H'/\k=PF xs
def gZ(D:wV Kj v<=200000)(E:wV Kb v<=2000000): ∀x∈R8 v,Z4 x:=by
 intro x hx u I;subst I;cases v with
 |array b l=>
  have hm:u∈l:=by
   have key: ∀(b:Bool)(l:List AU),Pc.val u∈Q3 b l->u∈l:=by
    intro b l
    induction l generalizing b with
    |nil=>intro h;cases h
    |cons y l F=>
     intro h;rw[Q3,AQ]at h;obtain h|h:=h
     .cases b<;>simp at h
     obtain h|h:=AO.1 h
     .cases h;simp
     simp[F AF h]
   have B:Pc.val u∈Pc.txt [91]::(Q3 AJ l++[.txt [93]]):=hx;simp at B;exact key AJ l B
  rw[J5]at D E;have:=Sh (P:=Kj) hm;have:=Sh (P:=Kb) hm;exact⟨!3,!3⟩
 |table kd r=>
  have hm: ∃y∈r,y.2=u:=by
   have key: ∀(b:Bool)(r:Ae),Pc.val u∈P9 b r-> ∃y∈r,y.2=u:=by
    intro b r
    induction r generalizing b with
    |nil=>intro h;cases h
    |cons y r F=>
     intro h;rw[P9,AQ]at h;obtain h|h:=h
     .cases b<;>simp at h
     obtain h|h:=AO.1 h
     .cases h
     obtain h|h:=AO.1 h
     .cases h;exact⟨y,!2,rfl⟩
     obtain⟨z,J,L⟩:=F AF h;exact⟨z,by simp[J],L⟩
   have B:Pc.val u∈Pc.txt [123]::(P9 AJ r++[.txt [125]]):=hx;simp at B;exact key AJ r B
  obtain⟨y,G,rfl⟩:=hm;rw[Io]at D E;have:=WE (P:=Kj) G;have:=WE (P:=Kb) G;exact⟨!3,!3⟩
 |_=>
  simp[R8]at hx;subst hx;exact⟨D,E⟩
def kG(l:List Pc):PF l.reverse=PF l:=by
 induction l with
 |nil=>rfl
 |cons x l B=>
  rw[DR,K2,KW,KW,SM,B]
  nofun
def fU(l:List AK):(IG l).reverse=IG l.reverse:=by unfold IG;rw[List.map_reverse]
def fV(l m:List AK):IG l++IG m=IG (l++m):=by unfold IG;rw[A8]
def dq(T:Txt K mg A)(C:SG K mg)(L:Kf K mg A)(KK:JH K A): !20 6 "form_of" ["thing"] (oO A):=by
 show 8 ["thing","form","waiting","piece"] 9;obtain⟨a,v,fp,rfl,gv,hw,vP,q⟩:=h;refine⟨_,(Gy (IA (i:=1) (Ib ML))
   (Gy (IA (i:=2) (Ib (Hn (pv 0))))
   (Gy (JS Ag (IB L1 (IT IP T.Jf PySem.boot_len (Hn (pv 2))) Ht) (Gy (IA (i:=3) (oW PySem.F.plainAttrs_list PySem.F.slot_list_pop PySem.F.type_list_pop oy (pv 2)))
   (Hm (IS (Ik (IT JZ T.JP Iu (Hz (pv 3) (Hn (oV rfl T.gL UU))))) (Hm (IK (KZ PySem.F.plainAttrs_list PySem.F.slot_list_extend PySem.F.type_list_extend Kl (pv 1) (Hn (pv 3))))) (Hm (IS (Ik (IT JZ T.JP Iu (Hz (pv 3) (Hn (Je (cL L) rfl))))) (Hm (IK (KZ PySem.F.plainAttrs_list PySem.F.slot_list_extend PySem.F.type_list_extend Kl (pv 1) (Hn (Ih (pv 3) rfl))))) (Hm (IK (KZ PySem.F.plainAttrs_list PySem.F.slot_list_extend PySem.F.type_list_extend Kl (pv 2) (Hn (ZS rfl T.gL rfl T.ZY rfl (Hn (Hr (Yq T C KK) (Hn (pv 3)))))))))))))))
   (Hm (Hy (pv 1)))))),?_⟩
 refine II λN1 Nw=>?_;simp![];refine⟨Ax _,λD Y=>Nw _ _ (II λN2 Pg=>?_)⟩;clear Nw;simp![];refine⟨Iv (!1),λB Z=>Pg _ _ (II λN3 Rq=>?_)⟩;clear Pg;have S:D≠B:=λz=>by rw[<-z,Hq]at Z;cases Z
 have J:H B=AB:=by rw[Hv (Ne.symm S)]at Z;exact Z
 have f1:Fr [] H (Hu (Hu H D (.lst [])) B (.lst [V.ref a])):=λb o e w=>by
  rw[Hv (IJ e J),Hv (IJ e Y)];exact e
 have pH:ue A H v D B (wV Kj v) (Hu (Hu H D (.lst [])) B (.lst [V.ref a])):=by
  refine⟨[],[.val v],[a],(Hv S).trans Hq,Hq,.cons ⟨fp,gv.fr f1 (λw w=>by simp),λb hb z=>?_⟩ .nil,by simp[Uq],λx hx u hu=>?_,by simpa[PF,pw]using hw,f1,by simp[PF,pw]⟩
  .simp only[AO,Ba,C6]at z;obtain rfl|rfl:=z
   .exact gv.KO _ hb Y
   exact gv.KO _ hb J
  rw[AV.1 hx]at hu;cases hu;exact⟨hw,vP⟩
 refine⟨λk σ H'=>(∃z,σ=[U (.ref a),U (.ref D),U (.ref B),z])/\ue A H v D B k H',⟨_,⟨_,rfl⟩,pH⟩,?_⟩;rintro k σ H2 ⟨⟨z,rfl⟩,done,xs,ps,g1,g2,g3,g4,g5,g6,g7,rfl⟩;simp![];refine⟨_,.inl (Ip.of g2),?_⟩;have hfm:(fm v).length<=2000000:=Aa (bD v) vP;have hlen:(IG ps).length=xs.length:=by unfold IG;rw[AY];exact g3.length
 rw[hlen];obtain rfl|⟨G,y,rfl⟩:=EM xs
 .refine dF (!2) ?_
  refine Rq _ _ ?_
  simp![];refine q H2 D Y ?_ g7
  rw[<-g4];simpa using g1
 rw[Fv]at*;refine dT (!2) ?_
 obtain⟨O,p,rfl,h1,h2⟩:=g3.last;have e9:Ac=16777216:=CV;rw[KR]at g2;have rC:Fr [D,B] H2 (Hu H2 B (.lst (IG O))):=Fr.upd (!2);have E:Hu H2 B (.lst (IG O)) D=U (.lst (IH done)):=(Hv S).trans g1;have I:Hu H2 B (.lst (IG O)) B=U (.lst (IG O)):=Hq;have zR:Fr [] H (Hu H2 B (.lst (IG O))):=g7.Z8 J;have mx:=h1.fr rC;have rB:=h2.fr rC;have hdl:(IG O++[V.ref p]).dropLast=IG O:=F5;have zS:done++(Uq y++G.reverse.flatMap Uq)=fm v:=by
  rw[<-g4,GA,List.reverse_singleton,EL,BW]
 have ABJ:done.length+(Uq y).length<=2000000:=by
  have:=congrArg A5 zS;rw[AG,AG]at this
  nofun
 have g5': ∀x∈G,Z4 x:=λx hx=>g5 x (by simp[hx]);have hwy:=g5 y (!2);have yK:PF (G++[y])=PF G+pw y:=by rw[K2,KW,SM,E1]
 have ABH:=WV y;refine⟨λσ' H'=> ∃m',m'<PF (G++[y])/\(∃z,σ'=[U (V.ref a),U (V.ref D),U (V.ref B),z])/\ue A H v D B m' H',λw w z=>z,Im g2,_,g2,.ref p,!2,?_⟩;rw[hdl];generalize Hu H2 B (.lst (IG O))=H3 at rC E I zR mx rB;have put: ∀(b:AK)(t:List Nat),H3 b=U (.lst (IH t))->Uq y=t->IH done++IH t=IH (done++t)->ue A H v D B (PF G) (Hu H3 D (.lst (IH done++IH t))):=by
  intro b t hb ht ho;refine⟨done++t,G,O,by rw[Hq,ho],(Hv (Ne.symm S)).trans I,mx.fr (Fr.upd (!2)),?_,g5',!5,zR.Z8 Y,rfl⟩;rw[<-zS,ht,Ah]
 cases y with
 |txt t=>
  obtain⟨k1,k2⟩:=rB;refine⟨_,.lst k1,_,gh _,?_⟩;refine Yy ?_
  refine⟨Im E,_,E,_,k1,?_,PF G,!5,⟨_,rfl⟩,put p t k1 rfl (Iq _ _).symm⟩;rw[Hw,Hw];have:(Uq (.txt t)).length=t.length:=rfl
  nofun
 |val u=>
  obtain⟨f,k1,k2⟩:=rB;obtain⟨w1,w2⟩:=hwy u rfl;have cont: ¬MV u->QQ A (λv=> ¬MV v) [V.ref p] H3 (λx H1=> ∃a_1,x=V.ref a_1/\ ∃x,H1 a_1=U (HO.lst x)/\ ∀(xT:AK),H1 xT=AB->Et (Hu H1 xT (HO.lst x.reverse)) B xT λH5=>
    ∃m',m'<PF (G++[.val u])/\(∃z,[U (V.ref a),U (V.ref D),U (V.ref B),U (V.ref p)]=[U (V.ref a),U (V.ref D),U (V.ref B),z])/\ue A H v D B m' H5) E0:=by
   intro hl;refine⟨p,u,f,rfl,k1,hl,w1,w2,λH4 l ls hl0 YL hP M=>⟨l,rfl,_,YL,λR hR=>?_⟩⟩;have hRw:R≠B:=λz=>by rw[z,M _ _ I (!2)]at hR;cases hR
   have hRf:R≠D:=λz=>by rw[z,M _ _ E (!2)]at hR;cases hR
   have off:Off H3 f [D,B]:=⟨λb hb=>by
    simp only[AO,Ba,C6]at hb;obtain rfl|rfl:=hb
    .rw[E];simp
    rw[I];simp,k2⟩
   have Wz:=((hP _ off).less (W':=[D,B]) (by intro b hb;simp[hb])).rev;have f45:Fr [D,B] H4 (Hu H4 R (.lst (IG ls).reverse)):=Fr.new hR;have f5:Fr [D,B] (Hu H4 R (.lst (IG ls).reverse)) (Hu (Hu H4 R (.lst (IG ls).reverse)) B (.lst (IG O++(IG ls).reverse))):=Fr.upd (!2);have hlw:PF (R8 u)<wV Kj u:=oX hl;have hlu:pw (.val u)=wV Kj u:=rfl;have hps:PF (G++(R8 u).reverse)=PF G+PF (R8 u):=by rw[K2,kG]
   refine⟨IG O,(Hv (Ne.symm hRw)).trans (M _ _ I (!2)),_,Hq,?_,PF (G++(R8 u).reverse),!5,⟨_,rfl⟩,done,G++(R8 u).reverse,O++ls.reverse,?_,?_,?_,?_,?_,!5,?_,rfl⟩
   .have a1:=WU G;have a2:=WU (R8 u);have a3:=mx.length;have a4:=(hP _ off).length;unfold IG;rw[GB,AY,AY]
    nofun
   .rw[Hv S,Hv (Ne.symm hRf)];exact M _ _ E (!2)
   .rw[Hq,fU,fV]
   .exact((((mx.fr M.of0).append Wz).fr f45).fr f5)
   .rw[GA,List.reverse_reverse,Ce,cK,<-zS];rfl
   .intro x hx;obtain hx|hx:=AQ.1 hx
    .exact g5' x hx
    exact gZ w1 w2 x (List.mem_reverse.1 hx)
   exact((zR.trans M).trans (Fr.new hR)).Z8 J
  obtain⟨hl,dx,fs,e⟩|⟨b,l,dx,m,rfl,e⟩|⟨kd,r,dx,d,rfl,e⟩:=k1.kind
  .refine⟨_,KK.leaf.ty e,_,KK.ll,?_⟩;refine Ol ?_
   refine⟨_,KK.leaf.ty e,_,Kw _ _,?_⟩;refine Yy ?_
   obtain⟨f',⟨⟨lN,e'⟩,e2⟩,_⟩:=(TN hl).1 k1;refine⟨Im E,_,_,_,e',T.PU,T.Nj,.ref f',rfl,_,E,_,e2,?_,PF G,!5,⟨_,rfl⟩,put f' _ e2 (bC hl) (Iq _ _).symm⟩;rw[Hw,Hw];have:(Uq (.val u)).length=(ES 1 u).length:=congrArg A5 (bC hl)
   nofun
  .refine⟨_,KK.array.ty e,_,KK.al_,?_⟩;refine Ol ?_
   refine⟨_,KK.array.ty e,_,KK.al,?_⟩;refine Ol ?_
   exact⟨Im I,cont (by intro z;exact z)⟩
  refine⟨_,KK.table.ty e,_,KK.tl_,?_⟩;refine Ol ?_
  refine⟨_,KK.table.ty e,_,KK.tl,?_⟩;refine Ol ?_
  exact⟨Im I,cont (by intro z;exact z)⟩
noncomputable def Il(l:List Int):List V:=l.map V.int
def Lu(l:List Int):(Il l).length=l.length:=by unfold Il;exact AY _
noncomputable def wf(l:AK)(p:Int):List (Str×V):=[("numbers",.ref l),("place",.int p)]
def NT(l:AK)(p:Int):(wf l p).lookup ("numbers":Str)=U (V.ref l):=!6
def ON(l:AK)(p:Int):(wf l p).lookup ("place":Str)=U (V.int p):=!6
def WC(l:AK)(p q:Int):NA "place" (.int q) (wf l p)=wf l q:=!6
def eT(l:AK)(p:Int):(wf l p).length<1000:=by show 2<1000;decide
def Uu(l:AK)(p:Int):(wf l p).lookup ("has_more":Str)=AB:=!6
def LQ(l:AK)(p:Int):(wf l p).lookup ("take_number":Str)=AB:=!6
def Mp(l:AK)(p:Int):(wf l p).lookup ("take_row":Str)=AB:=!6
noncomputable def Wa(K:PySem.W.Frag)(A:JL)(H:Hp)(c l:AK)(ns:List Int)(p:Nat):Prop:=(∃dx,H c=U (.ins A.calls dx (wf l (p:Int))))/\Ip K H l (Il ns)/\p<=ns.length/\ns.length<=1000000
noncomputable def LL(K:PySem.W.Frag)(H:Hp)(l:AK)(xs:List V)(W:List AK):Prop:=(∀H',Ip K H' l xs)\/(Rd H l (.lst xs)/\l∉W)
def LL.sq(h:LL K H l xs W):Ip K H l xs:=by
 obtain h|h:=h
 .exact h H
 exact .inl h.1
def r8(h:Rd H l o)(f:Fr W H H')(B:l∉W):Rd H' l o:=by
 obtain h|⟨u,h⟩:=h
 .exact .inl (f _ _ h B)
 exact .inr ⟨u,f _ _ h B⟩
def LL.fr{V:List AK}(h:LL K H l xs W)(f:Fr V H H')(B: ∀x∈V,x∈W):LL K H' l xs W:=by
 obtain h|h:=h
 .exact .inl h
 exact .inr ⟨r8 h.1 f λz=>h.2 (B l z),h.2⟩
def LL.grow(h:LL K H l xs W)(B: ∀y∈W',y∈W\/H y=AB):LL K H l xs W':=by
 obtain h|h:=h
 .exact .inl h
 refine .inr ⟨h.1,λz=>?_⟩;obtain q|q:=B l z
 .exact h.2 q
 obtain e|⟨u,e⟩:=h.1<;> ·show 6 e q
def fC(h:Ip K H l xs):LL K H l xs []:=by
 obtain h|h:=h
 .exact .inr ⟨h,!2⟩
 exact .inl λH'=>.inr h
def Wa.fr(h:Wa K A H c l ns p)(f:Fr W H H')(B:c∉W)(D:Ip K H' l (Il ns)):Wa K A H' c l ns p:=by
 obtain⟨⟨dx,e⟩,e2,e3⟩:=h;exact⟨⟨dx,f _ _ e B⟩,D,e3⟩
def Wa.Vx(h:Wa K A H c l ns p)(f:Fr [] H H'):Wa K A H' c l ns p:=h.fr f (!2) ((fC h.2.1).fr f (!2)).sq
def Wa.go(h:Wa K A H c l ns p)(B:q<=ns.length):Wa K A (Hu H c (.ins A.calls dx (wf l (q:Int)))) c l ns q:=by
 obtain⟨⟨D,e⟩,e2,e3,e4⟩:=h;refine⟨⟨dx,Hq⟩,?_,B,e4⟩;obtain(e2|⟨u,e2⟩)|e2:=e2
 .exact .inl (.inl ((Hv (OY e2 e (by intro z;cases z))).trans e2))
 .exact .inl (.inr ⟨u,(Hv (OY e2 e (by intro z;cases z))).trans e2⟩)
 exact .inr e2
inductive fH (K:PySem.W.Frag)(A:JL)(vs:List V)(H:Hp)(Q:VK)(E:XK):Prop
 |mk (c l:AK)(a:List Int)(p:Nat)(_:vs=[.ref c])(_:Wa K A H c l a p)(_:Q (.bl (decide (p<a.length))) H)
instance {K : PySem.W.Frag} {A : JL} : Z5 A.calls "has_more" (fH K A) := ⟨fun _ _ _ _ _ h => by
  obtain ⟨_, _, _, _,  e, ⟨⟨dx, e1⟩, _⟩, _⟩ := h
  injection e with e
  exact ⟨_, dx, _, e, e1, rfl⟩⟩
def Zy(T:Txt K mg A):Pk P w K mg base 1 A.calls "has_more" ["self"] [] (fH K A):=T.Ql.at λF=>by
 show 9 ["self"];obtain⟨c,l,ns,p,rfl,B,q⟩:=h;refine⟨_,(Hm (Hy (KD Kt (Ih (pv 0) rfl) (IT IP T.Jf PySem.boot_len (Hn (Ih (pv 0) rfl)))))),?_⟩;obtain⟨⟨dx,e1⟩,e2,e3,e4⟩:=B;simp![e1,Kc e1,T.KQ,T.Jw,T.KG,ON,NT];refine⟨_,.inl e2,?_⟩;rw[Lu];have:decide ((p:Int)<(ns.length:Int))=decide (p<ns.length):=by rw[FQ];omega
 rw[this];exact q
inductive Xj (K:PySem.W.Frag)(A:JL)(vs:List V)(H:Hp)(Q:VK)(E:XK):Prop
 |mk (c l:AK)(a:List Int)(p:Nat)(x:Int)(_:vs=[.ref c])(_:Wa K A H c l a p)(_:a[p]? =U x)(_: ∀H',Wa K A H' c l a (p+1)->Fr [c] H H'->Q (.int x) H')
instance {K : PySem.W.Frag} {A : JL} : Z5 A.calls "take_number" (Xj K A) := ⟨fun _ _ _ _ _ h => by
  obtain ⟨_, _, _, _, _,  e, ⟨⟨dx, e1⟩, _⟩, _⟩ := h
  injection e with e
  exact ⟨_, dx, _, e, e1, rfl⟩⟩
def M1(T:Txt K mg A):Pk P w K mg base 1 A.calls "take_number" ["self"] [] (Xj K A):=T.Oa.at λF=>by
 show 9 ["self","number"];obtain⟨c,l,ns,p,x,rfl,E,hx,q⟩:=h;refine⟨_,(Gy (IA (i:=1) (KS Jh (Ih (pv 0) rfl) (Ih (pv 0) rfl) (λz z=>rfl)))
  (Gy (Ju (pv 0) Ht La)
  (Hm (Hy (pv 1))))),?_⟩
 have B:=E;obtain⟨⟨dx,e1⟩,e2,e3,e4⟩:=E;have D:=(List.getElem?_eq_some_iff.1 hx).1;simp![e1,Kc e1,T.KQ,T.Jw,T.KG,ON,NT,WC];refine⟨Il ns,e2,.int x,KU (by unfold Il;rw[List.getElem?_map,hx];rfl),eT _ _,?_⟩;exact q _ (by exact B.go (q:=p+1) D) (Fr.upd (!2))
def ic(t:List Int)(i n:Nat)(h:i+n<=t.length):Ma (Il t) (U (i:Int)) (U ((i:Int)+(n:Int)))=Il ((t.drop i).take n):=by
 unfold Ma;rw[show((i:Int)+(n:Int))=((i+n:Nat):Int)by nofun,HT.Mf,HT.Mf,Lu];unfold Il;rw[<-Dr,<-Dq,DJ (!5),DJ (!5),FR]
inductive mK (K:PySem.W.Frag)(A:JL)(vs:List V)(H:Hp)(Q:VK)(E:XK):Prop
 |mk (c l:AK)(a r:List Int)(p:Nat)(n:Int)(_:vs=[.ref c])(_:Wa K A H c l a p)(_:a.drop p=n::r)(_:0<=n)(_:n.toNat<=r.length)(_: ∀H' q,H q=AB->H' q=U (.lst (Il (r.take n.toNat)))->Wa K A H' c l a (p+1+n.toNat)->Fr [c] H H'->Q (.ref q) H')
instance {K : PySem.W.Frag} {A : JL} : Z5 A.calls "take_row" (mK K A) := ⟨fun _ _ _ _ _ h => by
  obtain ⟨_, _, _, _, _, _,  e, ⟨⟨dx, e1⟩, _⟩, _⟩ := h
  injection e with e
  exact ⟨_, dx, _, e, e1, rfl⟩⟩
def QI(T:Txt K mg A):Pk P w K mg base 2 A.calls "take_row" ["self"] [] (mK K A):=T.Qk.at λF=>by
 show 9 ["self","length","row"];obtain⟨c,l,ns,r,p,n,rfl,hw,hd,h0,hn,q⟩:=h;refine⟨_,(Gy (IA (i:=1) (ID (M1 T) (pv 0)))
   (Gy (IA (i:=2) (IY Ii (Ih (pv 0) rfl) (IX (Ih (pv 0) rfl)) (IX (Ij KA (Ih (pv 0) rfl) (pv 1)))))
   (Gy (Ju (pv 0) (pv 1) La)
   (Hm (Hy (pv 2)))))),?_⟩
 have S:=hw;obtain⟨⟨dx,e1⟩,e2,e3,e4⟩:=hw;refine II λN1 I=>?_;simp![e1,Kc e1,T.KQ,T.Jw,T.KG,ON,NT,WC,LQ];have hx:ns[p]? =U n:=by
  have:=congrArg (λz=>z[0]?) hd;simpa using this
 have Y:=(List.getElem?_eq_some_iff.1 hx).1;have J:r=ns.drop (p+1):=by
  rw[Cn Y]at hd;injection hd with _ hd
  exact hd.symm
 have tG:r.length=ns.length-(p+1):=by rw[J,AS]
 refine⟨c,l,ns,p,n,rfl,S,hx,λH1 w1 f1=>I _ _ ?_⟩;clear I;have Z:=w1;obtain⟨⟨zh,B⟩,e21,uP,rF⟩:=w1;simp![B,Kc B,T.KQ,T.Jw,T.KG,ON,NT,WC];refine⟨Il ns,e21,λL E=>?_⟩;have en:n=((n.toNat:Nat):Int):=!5
 have M:Ma (Il ns) (U ((p+1:Nat):Int)) (U (((p+1:Nat):Int)+n))=Il (r.take n.toNat):=by
  rw[J]
  conv=>lhs;rw[en]
  exact ic ns (p+1) n.toNat (!5)
 rw[M];have G:c≠L:=IJ B E;have O:Hu H1 L (.lst (Il (r.take n.toNat))) c=U (.ins A.calls zh (wf l ((p+1:Nat):Int))):=(Hv G).trans B;refine⟨_,_,_,O,T.KQ,T.Jw,_,ON _ _,_,_,O,eT _ _,?_⟩;rw[WC];have w2:Wa K A (Hu H1 L (.lst (Il (r.take n.toNat)))) c l ns (p+1):=Z.Vx (Fr.new E);have D:H L=AB:=f1.none E (by simpa using Ne.symm G);refine q _ L D ?_ ?_ (((f1.wr D)).trans (Fr.upd (!2)))
 .rw[Hv (Ne.symm G),Hq]
 rw[show((p+1:Nat):Int)+n=((p+1+n.toNat:Nat):Int)by nofun];exact w2.go (!5)
noncomputable def Bk(A:JL)(H:Hp)(b:AK)(s:DI)(fp:List AK):Prop:= ∃dx,(s.root=AB/\H b=U (.ins A.book dx [("root",.Jm)])/\fp=[b])\/ ∃R r f,s.root=U r/\H b=U (.ins A.book dx [("root",.ref R)])/\IL A H (.table 1 r) R f/\fp=b::f/\b∉f
theorem Bk.fr(h:Bk A H b s fp)(f:Fr W H H')(hd: ∀x∈fp,x∉W):Bk A H' b s fp:=by
 obtain⟨dx,⟨B,D,rfl⟩|⟨R,r,g,B,D,E,rfl,F⟩⟩:=h
 .exact⟨dx,.inl ⟨B,f _ _ D (hd b (!2)),rfl⟩⟩
 exact⟨dx,.inr ⟨R,r,g,B,f _ _ D (hd b (!2)),E.fr f λx hx=>hd x (by simp[hx]),rfl,F⟩⟩
inductive jv (A:JL)(vs:List V)(H:Hp)(Q:VK)(E:XK):Prop
 |mk (b:AK)(s:DI)(a:List AK)(_:vs=[.ref b])(_:Bk A H b s a)(_: ∀H' p,H p=AB->H' p=U (.lst (Il [0]))->Bk A H' b {} [b]->Fr [b] H H'->Q (.ref p) H')
def iy(T:Txt K mg A): !20 1 "begin" ["book"] (jv A):=by
 show 8 ["book"] 79;obtain⟨b,I,fp,rfl,G,q⟩:=h;refine⟨_,(Gy (Ko (pv 0) LW rfl)
   (Hm (Hy (Ib (Hn Ht))))),?_⟩
 simp![];obtain⟨dx,v,E⟩: ∃dx v,H b=U (.ins A.book dx [("root",v)]):=by
  obtain⟨dx,⟨_,F,_⟩|⟨R,r,g,_,F,_⟩⟩:=G
  .exact⟨dx,_,F⟩
  exact⟨dx,_,F⟩
 refine⟨_,_,_,E,T.Qw,T.LI,show 1<1000 by decide,Iv (!1),λp B=>?_⟩;have D:b≠p:=λz=>by rw[<-z,Hq]at B;cases B
 refine q _ p (by rw[Hv (Ne.symm D)]at B;exact B) Hq ⟨dx,.inl ⟨rfl,(Hv D).trans Hq,rfl⟩⟩ ?_
 exact(Fr.upd (!2)).trans (Fr.new B)
inductive oA (A:JL)(vs:List V)(H:Hp)(Q:VK)(E:XK):Prop
 |mk (b a:AK)(s:DI)(c:List AK)(t:List Nat)(_:vs=[.ref b,.ref a])(_:Bk A H b s c)(_:H a=U (.lst (IH t)))(_:t.length<=16384)(_:(∀x∈t,x<256))(_:(∀rows,D1 t=U rows-> ∀H' p f,H p=AB->H' p=U (.lst (Il [0]))->Bk A H' b {root:=U rows} (b::f)->(∀x∈f,H x=AB)->Fr [b] H H'->Q (.ref p) H'))(_:(D1 t=AB-> ∀H',Fr [] H H'->E (.ref A.wi) AB H'))
def lX(T:Txt K mg A)(TT:LN K mg)(C:SG K mg)(L:Kf K mg A)(KK:JH K A): !20 110 "read" ["book","text"] (oA A):=by
 show 8 ["book","text"] 80;obtain⟨b,a,so,fp,t,rfl,hb,ha,hl,O,q1,q2⟩:=h;refine⟨_,(Gy (Ko (pv 0) (Hr (Ym T TT C L KK) (Hn (pv 1)) (hx:=Ig)) rfl)
   (Hm (Hy (Ib (Hn Ht))))),?_⟩
 simp![];obtain⟨dx,v,D⟩: ∃dx v,H b=U (.ins A.book dx [("root",v)]):=by
  obtain⟨dx,⟨_,S,_⟩|⟨R,r,g,_,S,_⟩⟩:=hb
  .exact⟨dx,_,S⟩
  exact⟨dx,_,S⟩
 refine⟨a,t,rfl,ha,hl,O,λrows B M R f hr Z E=>?_,λhn M E=>q2 hn M E⟩;have Y:=E _ _ D (!2);refine⟨_,_,_,Y,T.Qw,T.LI,show 1<1000 by decide,Iv (!1),λp F=>?_⟩;have G:b≠p:=λz=>by rw[<-z,Hq]at F;cases F
 have I:b∉f:=λz=>by
  have:=Z b z;show 6 D this
 have J:Fr [b] M (Hu (Hu M b (.ins A.book dx [("root",V.ref R)])) p (.lst [V.int 0])):=(Fr.upd (!2)).trans (Fr.new F);refine q1 rows B _ p f (E.none (by rw[Hv (Ne.symm G)]at F;exact F) (!2)) Hq ⟨dx,.inr ⟨R,rows,f,rfl,(Hv G).trans Hq,hr.fr J λx hx z=>I (by rw[<-AV.1 z];exact hx),rfl,I⟩⟩ Z (E.of0.trans J)
inductive jo (A:JL)(vs:List V)(H:Hp)(Q:VK)(E:XK):Prop
 |mk (b a:AK)(s:DI)(c:List AK)(t:List Nat)(_:vs=[.ref b,.ref a])(_:Bk A H b s c)(_:H a=U (.lst (IH t)))(_:t.length<=4096)(_:(∀x∈t,x<256))(_:(s.root=AB->E (.ref A.nr) AB H))(_:(∀r u,s.root=U r->((Cd t).bind λws=>B0 (.table 1 r) ws)=U u-> ∀H' q fq,IL A H' u q fq->Fr [] H H'->Q (.ref q) H'))(_:(∀r,s.root=U r->((Cd t).bind λws=>B0 (.table 1 r) ws)=AB-> ∀H',Fr [] H H'->E (.ref A.wi) AB H'))
def UY(T:Txt K mg A)(TT:LN K mg)(KK:JH K A): !20 11 "thing_at" ["book","way"] (jo A):=by
 show 8 ["book","way"] 83;obtain⟨b,a,Z,fp,t,rfl,F,ha,G,E,I,J,L⟩:=h;refine⟨_,(Gy (IS (KY (MJ (Ih (pv 0) rfl))) (Hm (JE T.Pn rfl)) IC)
   (Hm (Hy (Hr (i8 T TT KK) (Hz (Ih (pv 0) rfl) (Hn (pv 1))) (hx:=Ig))))),?_⟩
 obtain⟨dx,⟨D,B,_⟩|⟨R,r,g,D,B,M,_⟩⟩:=F
 .simp![B,Kc B,T.Qw,T.LI];refine⟨.Jm,rfl,?_⟩;refine dT rfl ?_
  exact I D
 simp![B,Kc B,T.Qw,T.LI];refine⟨.ref R,rfl,?_⟩;refine dF (by intro z;cases z) ?_
 exact⟨.ref R,rfl,R,a,_,t,g,rfl,M,ha,G,E,λu O H' q S Y f=>J r u D O H' q S Y f,λhn H' f=>L r D hn H' f⟩
def n6(A:JL):Sp:=λvs H Q E=> ∃(b a:AK)(s:DI)(fp:List AK)(t:List Nat)(m:Int),vs=[.ref b,.ref a,.int m]/\Bk A H b s fp/\Pj s/\H a=U (.lst (IH t))/\t.length<=4096/\(∀x∈t,x<256)∧
 (s.root=AB-> ∀H',Fr [] H H'->E (.ref A.nr) AB H')/\(∀r,s.root=U r->((Cd t).bind λws=>B0 (.table 1 r) ws)=AB-> ∀H',Fr [] H H'->E (.ref A.wi) AB H')∧
 (∀r v,s.root=U r->((Cd t).bind λws=>B0 (.table 1 r) ws)=U v->EU m<(fm v).length-> ∀H',Fr [] H H'->E (.ref A.tl) AB H')∧
 (∀r v,s.root=U r->((Cd t).bind λws=>B0 (.table 1 r) ws)=U v-> ¬EU m<(fm v).length-> ∀H' p,H p=AB->H' p=U (.lst (Il (((fm v).length:Int)::_S.gn (fm v))))->Fr [] H H'->Q (.ref p) H')
def Vf(l:List Nat):IH l=Il (_S.gn l):=by unfold IH Il _S.gn;rw[Gi];rfl
def rO{t:List Nat}(D:Pj s)(hr:s.root=U r)(B:((Cd t).bind λws=>B0 (.table 1 r) ws)=U v):wV Kj v<=200000/\wV Kb v<=2000000:=by
 obtain⟨_,_,G,I⟩:=D r hr;cases e:Cd t with
 |none=>show 6 e B
 |some ws=>
  rw[e]at B;have E:=Tz (P:=Kj) (show B0 (.table 1 r) ws=U v from B);have F:=Tz (P:=Kb) (show B0 (.table 1 r) ws=U v from B);rw[Io]at E F;have J:Kj.c0=3:=rfl;have L:Kb.c0=2:=rfl;exact⟨!3,!3⟩
def lW(T:Txt K mg A)(TT:LN K mg)(C:SG K mg)(L:Kf K mg A)(KK:JH K A): !20 12 "show" ["book","way","most"] (n6 A):=by
 show 8 ["book","way","most","form","allowed"] 81;obtain⟨b,a,so,fp,t,m,rfl,hb,ho,ha,hl,S,q0,q1,q2,q3⟩:=h;refine⟨_,(Gy (IA (i:=3) (Hr (dq T C L KK) (Hn (Hr (UY T TT KK) (Hz (pv 0) (Hn (pv 1))) (hx:=Ig)))))
   (Gy (IA (i:=4) (NC (MH J6 J6 (Hx T.Ww) (pv 2) (Hx T.SA)) (pv 2) Ht))
   (Gy (IS (IB L1 (IT IP T.Jf PySem.boot_len (Hn (pv 3))) (pv 4)) (Hm (JE T.VG rfl)) IC)
   (Hm (Hy (Ij Mv (Ib (Hn (IT IP T.Jf PySem.boot_len (Hn (pv 3))))) (pv 3))))))),?_⟩
 refine II λN1 G=>?_;simp![];refine⟨b,a,so,fp,t,rfl,hb,ha,hl,S,λh=>q0 h H Fr.refl,λr u D Y H1 q fq hq Z=>?_,λr D hn H1 Z=>q1 r D hn H1 Z⟩;obtain⟨w1,w2⟩:=rO ho D Y;refine⟨q,u,fq,rfl,hq,w1,w2,λH2 fo hfo B f2=>G _ _ ?_⟩;clear G;have E:=Z.trans f2;have hfl:(fm u).length<=2000000:=Aa (bD u) w2;refine II λN2 Pg=>?_;have key:N2 [U (V.ref b),U (V.ref a),U (V.int m),U (V.ref fo),U (V.int ((EU m:Nat):Int))] H2:=by
  refine Pg _ _ ?_
  simp![];refine⟨IH (fm u),.inl (Ip.of B),?_⟩;rw[Hw];by_cases I:EU m<(fm u).length
  .refine dT (show((EU m:Nat):Int)<((fm u).length:Int)by lia) ?_
   exact q2 r u D Y I H2 E
  refine dF (show¬((EU m:Nat):Int)<((fm u).length:Int)by lia) ?_
  refine⟨IH (fm u),.inl (Ip.of B),Iv (!1),λp1 F=>?_⟩;refine⟨[V.int ((IH (fm u)).length:Int)],Hq,IH (fm u),?_,?_,λp2 J=>?_⟩
  .rw[Hv (IJ B F)];exact B
  .rw[Hw];have e9:Ac=16777216:=CV;show 1+_<=_
   lia
  refine q3 r u D Y I _ p2 ((E.trans (Fr.new F)).none J (!2)) ?_ ((E.trans (Fr.new F)).trans (Fr.new J))
  rw[Hq,Hw,Vf];rfl
 simp![];unfold EU at key;by_cases M:1<=m
 .refine dT M ?_
  by_cases O:m<=1048576
  .refine dT O ?_
   rw[AI ⟨M,O⟩,show((m.toNat:Nat):Int)=m by lia]at key;exact key
  refine dF O ?_
  rw[AD λz=>O z.2]at key;exact key
 refine dF M ?_
 rw[AD λz=>M z.1]at key;exact key
inductive oH (A:JL)(vs:List V)(H:Hp)(Q:VK)(E:XK):Prop
 |mk (b a:AK)(s:DI)(c:List AK)(t:List Nat)(_:vs=[.ref b,.ref a])(_:Bk A H b s c)(_:H a=U (.lst (IH t)))(_:t.length<=4096)(_:(∀x∈t,x<256))(_:(s.root=AB-> ∀H',Fr [] H H'->E (.ref A.nr) AB H'))(_:(∀r,s.root=U r->((Cd t).bind λws=>B0 (.table 1 r) ws)=AB-> ∀H',Fr [] H H'->E (.ref A.wi) AB H'))(_:(∀r v,s.root=U r->((Cd t).bind λws=>B0 (.table 1 r) ws)=U v-> ∀H' p,H p=AB->H' p=U (.lst (Il [(Ee v:Int),(D8 v:Int)]))->Fr [] H H'->Q (.ref p) H'))
def lY(T:Txt K mg A)(TT:LN K mg)(KK:JH K A): !20 12 "kind" ["book","way"] (oH A):=by
 show 8 ["book","way","thing"] 82;obtain⟨b,a,Y,fp,t,rfl,Z,ha,hl,I,q0,q1,q3⟩:=h;refine⟨_,(Gy (IA (i:=2) (Hr (UY T TT KK) (Hz (pv 0) (Hn (pv 1))) (hx:=Ig)))
   (Gy (IS (Ik (IT JZ T.JP Iu (Hz (pv 2) (Hn (Je (cT T) rfl))))) (Hm (Hy (Ib (Hz (Hx T.Wv) (Hn (IT dZ T.Jf PySem.boot_len (Hn (Ih (pv 2) rfl)))))))) IC)
   (Gy (IS (Ik (IT JZ T.JP Iu (Hz (pv 2) (Hn (Je (cA T) rfl))))) (Hm (Hy (Ib (Hz (Hx T.Wy) (Hn (IT IP T.Jf PySem.boot_len (Hn (Ih (pv 2) rfl)))))))) IC)
   (Hm (Hy (Ib (Hz (Ih (pv 2) rfl) (Hn (Ih (pv 2) rfl))))))))),?_⟩
 refine II λN1 F=>?_;simp![];refine⟨b,a,Y,fp,t,rfl,Z,ha,hl,I,λh=>q0 h H Fr.refl,λr u E hu O q fq G B=>?_,λr E hn O B=>q1 r E hn O B⟩;refine F _ _ ?_
 clear F;simp![];have fin:=q3 r u E hu;obtain⟨J,dx,fs,e⟩|⟨bb,l,dx,m,rfl,e⟩|⟨kd,rr,dx,d,rfl,e⟩:=G.kind
 .refine⟨_,KK.leaf.ty e,_,KK.lt,?_⟩;refine Ol ?_
  refine⟨_,KK.leaf.ty e,_,KK.la,?_⟩;refine Ol ?_
  obtain⟨f',⟨⟨lN,S⟩,e2⟩,_⟩:=(TN J).1 G;refine⟨_,_,_,S,T.PU,T.Qh,_,rfl,_,_,_,S,T.PU,T.Ni,_,rfl,Iv (!1),λp D=>fin _ p (B.none D (!2)) Hq (B.trans (Fr.new D))⟩
 .refine⟨_,KK.array.ty e,_,KK.at_,?_⟩;refine Ol ?_
  refine⟨_,KK.array.ty e,_,Kw _ _,?_⟩;refine Yy ?_
  obtain⟨L,m2,ps,fl,o1,o2,o3,o4,o5⟩:=Jb.1 G;refine⟨_,_,_,o1,T.LM,T.JU,_,LB _ _,_,.inl (Ip.of o2),Iv (!1),λp D=>fin _ p (B.none D (!2)) ?_ (B.trans (Fr.new D))⟩;have:(IG ps).length=l.length:=by unfold IG;rw[AY];exact o3.length
  rw[Hq,this];rfl
 refine⟨_,KK.table.ty e,_,Kw _ _,?_⟩;refine Yy ?_
 obtain⟨L,d2,M,fl,i1,i2,i3,i4,i5,i6,i7⟩:=K0 G;refine⟨_,_,_,i1,T.JQ,T.IZ,_,JT _ _,d2,rfl,M,i2,Iv (!1),λp D=>fin _ p (B.none D (!2)) ?_ (B.trans (Fr.new D))⟩;rw[Hq,i7];rfl
theorem Bk.KO(h:Bk A H b s fp): ∀x∈fp,H x≠AB:=by
 obtain⟨dx,⟨D,B,rfl⟩|⟨R,r,g,D,B,E,rfl,F⟩⟩:=h
 .intro x hx;rw[AV.1 hx,B];simp
 intro x hx;obtain rfl|hx:=AO.1 hx
 .rw[B];simp
 exact E.KO x hx
def Bk.mem(h:Bk A H b s fp):b∈fp:=by
 obtain⟨dx,⟨B,D,rfl⟩|⟨R,r,g,B,D,E,rfl,F⟩⟩:=h<;>simp
noncomputable def St(s:DI)(cl:List (List Int)):DI×List Int:=BN s (Bu cl)
noncomputable def Done(K:PySem.W.Frag)(A:JL)(H H':Hp)(b c l:AK)(ns t:List Int)(s':DI)(fp:List AK):Prop:= ∃B D,Bk A H' b s' B/\(∀y∈B,y∈fp\/H y=AB)/\Wa K A H' c l ns D/\ns.drop D=t/\Fr [c,b] H H'
def oE(K:PySem.W.Frag)(A:JL):Sp:=λvs H Q E=> ∃(b c l:AK)(s:DI)(fp:List AK)(ns t r:List Int)(p:Nat)(x:Int)(cl:List (List Int)),vs=[.ref b,.ref c]/\Bk A H b s fp/\Pj s/\Wa K A H c l ns p/\c∉fp/\LL K H l (Il ns) (c::fp)/\ns.drop p=x::r/\DY Bo (x::r)=U (cl,t)/\Dl Ct cl=AF∧
 (∀H' q,H q=AB->H' q=U (.lst (Il (St s cl).2))->Done K A H H' b c l ns t (St s cl).1 fp->Q (.ref q) H')∧
 (St s cl=(s,[-1])-> ∀H',Done K A H H' b c l ns t s fp->E (.ref A.wi) AB H')/\(St s cl=(s,[-2])-> ∀H',Done K A H H' b c l ns t s fp->E (.ref A.tl) AB H')/\(St s cl=(s,[-4])-> ∀H',Done K A H H' b c l ns t s fp->E (.ref A.nr) AB H')
def NN{ns:List Int}(h:ns.drop p=x::r):ns[p]? =U x/\ns.drop (p+1)=r:=by
 have D:ns[p]? =U x:=by
  have:=congrArg (λz=>z[0]?) h;simpa using this
 refine⟨D,?_⟩;have B:=(List.getElem?_eq_some_iff.1 D).1;rw[Cn B]at h;injection h with _ h
def VC(T:Txt K mg A)(TT:LN K mg)(C:SG K mg)(L:Kf K mg A)(KK:JH K A): !20 111 "answer_next" ["book","waiting"] (oE K A):=by
 show 8 ["book","waiting","call","most"] 78;obtain⟨b,c,l,J,fp,ns,t,r,p,x,cl,rfl,hb,ho,hw,jO,yh,hd,tr,q7,q0,q1,q2,q4⟩:=h;refine⟨_,(Gy (IA (i:=2) (ID (M1 T) (pv 1)))
   (Gy (IS (IB JB (pv 2) (Hx T.ku)) (Hm (Hy (Hr (iy T) (Hn (pv 0))))) IC)
   (Gy (IS (IB JB (pv 2) (Hx T.pN)) (Hm (Hy (Hr (lX T TT C L KK) (Hz (pv 0) (Hn (ID (QI T) (pv 1)))) (hx:=Ig)))) IC)
   (Gy (IS (IB JB (pv 2) (Hx T.pM)) (Gy (IA (i:=3) (ID (M1 T) (pv 1)))
   (Hm (Hy (Hr (lW T TT C L KK) (Hz (pv 0) (Hz (ID (QI T) (pv 1)) (Hn (pv 3)))) (hx:=Ig))))) IC)
   (Hm (Hy (Hr (lY T TT KK) (Hz (pv 0) (Hn (ID (QI T) (pv 1)))) (hx:=Ig)))))))),?_⟩
 refine II λN1 Nw=>?_;obtain⟨hx,M⟩:=NN hd;have x5:=hw;obtain⟨⟨dx,e1⟩,e2,e3,e4⟩:=hw;have y9:c≠b:=λz=>jO (by rw[z];exact hb.mem);simp![e1,Kc e1,LQ,T.KQ];refine⟨c,l,ns,p,x,rfl,x5,hx,λH1 w1 f1=>Nw _ _ ?_⟩;clear Nw;have nc: ∀y∈fp,y∉ [c]:=λy G z=>jO (by rw[<-AV.1 z];exact G);have ph:=hb.fr f1 nc;have rP:=w1;obtain⟨⟨zh,O⟩,e21,uP,rF⟩:=w1;have done: ∀{H2 H3:Hp}{s':DI}{Rt:List AK}{p':Nat},Fr [c] H1 H2->Wa K A H2 c l ns p'->ns.drop p'=t->Bk A H3 b s' Rt->(∀y∈Rt,y∈fp\/H2 y=AB)->Fr [b] H2 H3->Done K A H H3 b c l ns t s' fp:=by
  intro H2 H3 s' Rt p' E I ht rA ve B;have U0:Fr [c] H H2:=f1.trans E;refine⟨Rt,p',rA,λy G=>?_,I.fr B (!8 y9) ((yh.fr U0 (!2)).fr B (by simp[hb.mem])).sq,ht,(U0.mono (!2)).trans (B.mono (!2))⟩;obtain z|z:=ve y G
  .exact .inl z
  refine .inr (U0.none z λe=>?_);obtain⟨⟨_,ec⟩,_⟩:=I;rw[AV.1 e,ec]at z;cases z
 have v8: ∀{H2:Hp}{q:AK}{p':Nat},Fr [c] H1 H2->Wa K A H2 c l ns p'->H2 q=AB->H q=AB:=by
  intro H2 q p' E I hq;refine(f1.trans E).none hq λe=>?_;obtain⟨⟨_,ec⟩,_⟩:=I;rw[AV.1 e,ec]at hq;cases hq
 have conv: ∀{x:List Int},x.all (Em 0 255)=AF->Il x=IH (A4 x)/\ ∀y∈A4 x,y<256:=λ{x} h=>by
  obtain⟨g1,g2⟩:=cR h;refine⟨?_,g2⟩;rw[Vf]
  conv=>lhs;rw[g1]
  rfl
 have ow: ∀(x:List Int),(A4 x).length=x.length:=λx=>by unfold A4;exact AY _
 have S: ∀{H2:Hp},Fr [c] H1 H2->Bk A H2 b J fp:=λ{H2} f=>ph.fr f nc;obtain⟨rfl,rfl,rfl⟩|⟨rfl,n,Y,rfl,jM,pS,rfl,rfl⟩|⟨rfl,m,n,Y,rfl,jM,pS,rfl,rfl⟩|⟨rfl,n,Y,rfl,jM,pS,rfl,rfl⟩:=QH tr
 .simp![];simp only[CB,BS];refine⟨b,J,fp,rfl,ph,λH2 q yI hq vj E=>q0 H2 q (v8 Fr.refl rP yI) hq (done Fr.refl rP M vj (λy G=>.inl ?_) E)⟩;rw[AV.1 G];exact hb.mem
 .simp![O,Kc O,Mp,T.KQ];refine dF (!1) ?_
  simp only[CB,BS];obtain⟨_,Z⟩:=NN M;obtain⟨i1,i2⟩:=RO (most:=16384) (.inl rfl) q7;obtain⟨v1,v2⟩:=conv i2;refine⟨c,l,ns,Y,p+1,n,rfl,rP,M,jM,pS,λH2 q hq F I E=>?_⟩;rw[v1]at F;have mv:ns.drop (p+1+1+n.toNat)=Y.drop n.toNat:=by rw[<-BR,Z]
  have D:=VT J i1;refine⟨b,q,J,fp,_,rfl,S E,F,by rw[ow];exact i1,v2,λrows tF H3 p3 f tI SD rA hf B=>?_,λhn H3 B=>?_⟩
  .have e:St J [[1],Y.take n.toNat]=({root:=U rows},[0]):=by
    unfold St;rw[D];unfold Pa;rw[tF]
   rw[e]at q0;refine q0 H3 p3 (v8 E I tI) SD (done E I mv rA (λy G=>?_) B);obtain rfl|G:=AO.1 G
   .exact .inl hb.mem
   exact .inr (hf y G)
  refine q1 ?_ H3 (done E I mv ((S E).fr B λw w=>by simp) (λy G=>.inl G) B.of0)
  unfold St;rw[D];unfold Pa;rw[hn]
 .simp![O,Kc O,Mp,LQ,T.KQ];rw[AM (!1),AD AH,AM (!1),AD AH];simp only[CB,BS];obtain⟨hx1,Z⟩:=NN M;obtain⟨_,vg⟩:=NN Z;obtain⟨i1,i2⟩:=RO (most:=4096) (.inr rfl) q7;obtain⟨v1,v2⟩:=conv i2;refine⟨c,l,ns,p+1,m,rfl,rP,hx1,λH1' w1' lK=>?_⟩;obtain⟨⟨iW,zf⟩,_⟩:=id w1';refine⟨c,l,ns,Y,p+1+1,n,rfl,w1',Z,jM,pS,λH2 q hq F I f2'=>?_⟩;have E:=lK.trans f2';rw[v1]at F;have mv:ns.drop (p+1+1+1+n.toNat)=Y.drop n.toNat:=by rw[<-BR,vg]
  have D:=VS ho i1 m;have fin: ∀{H3:Hp},Fr [] H2 H3->Done K A H H3 b c l ns (Y.drop n.toNat) J fp:=λ{H3} B=>done E I mv ((S E).fr B λw w=>by simp) (λy G=>.inl G) B.of0;refine⟨b,q,J,fp,_,m,rfl,S E,ho,F,by rw[ow];exact i1,v2,λh H3 B=>q4 ?_ H3 (fin B),λrr h1 h2 H3 B=>q1 ?_ H3 (fin B),λrr v h1 h2 h3 H3 B=>q2 ?_ H3 (fin B),λrr v h1 h2 h3 H3 p3 tI SD B=>?_⟩
  .unfold St;rw[D];unfold PZ;rw[h]
  .unfold St;rw[D];unfold PZ;rw[h1];show 4;rw[h2]
  .unfold St;rw[D];unfold PZ;rw[h1];show 4;rw[h2];show 4;rw[AI h3]
  have e:St J [[2,m],Y.take n.toNat]=(J,((fm v).length:Int)::_S.gn (fm v)):=by
   unfold St;rw[D];unfold PZ;rw[h1];show 4;rw[h2];show 4;rw[AD h3]
  rw[e]at q0;exact q0 H3 p3 (v8 E I tI) SD (fin B)
 simp![O,Kc O,Mp,T.KQ];rw[AM (!1),AD AH,AM (!1),AD AH,AM (!1),AD AH];obtain⟨_,Z⟩:=NN M;obtain⟨i1,i2⟩:=RO (most:=4096) (.inl rfl) q7;obtain⟨v1,v2⟩:=conv i2;refine⟨c,l,ns,Y,p+1,n,rfl,rP,M,jM,pS,λH2 q hq F I E=>?_⟩;rw[v1]at F;have mv:ns.drop (p+1+1+n.toNat)=Y.drop n.toNat:=by rw[<-BR,Z]
 have D:=VU ho i1;have fin: ∀{H3:Hp},Fr [] H2 H3->Done K A H H3 b c l ns (Y.drop n.toNat) J fp:=λ{H3} B=>done E I mv ((S E).fr B λw w=>by simp) (λy G=>.inl G) B.of0;refine⟨b,q,J,fp,_,rfl,S E,F,by rw[ow];exact i1,v2,λh H3 B=>q4 ?_ H3 (fin B),λrr h1 h2 H3 B=>q1 ?_ H3 (fin B),λrr v h1 h2 H3 p3 tI SD B=>?_⟩
 .unfold St;rw[D];unfold Q2;rw[h]
 .unfold St;rw[D];unfold Q2;rw[h1];show 4;rw[h2]
 have e:St J [[3],Y.take n.toNat]=(J,[(Ee v:Int),(D8 v:Int)]):=by
  unfold St;rw[D];unfold Q2;rw[h1];show 4;rw[h2]
 rw[e]at q0;exact q0 H3 p3 (v8 E I tI) SD (fin B)
structure uo(K:PySem.W.Frag)(A:JL):Prop where
 ww:PySem.W.exmOne K (.ref A.wi) (.ref A.wi)=U AF
 tw:PySem.W.exmOne K (.ref A.tl) (.ref A.wi)=U AJ
 tt:PySem.W.exmOne K (.ref A.tl) (.ref A.tl)=U AF
 nw:PySem.W.exmOne K (.ref A.nr) (.ref A.wi)=U AJ
 nt:PySem.W.exmOne K (.ref A.nr) (.ref A.tl)=U AJ
 nn:PySem.W.exmOne K (.ref A.nr) (.ref A.nr)=U AF
def UJ(h:jE K mg x C):mg x=U (.ref C):=by
 first|exact h.1|exact h.bound|exact h.mg|(obtain⟨h,_⟩:=h;exact h)
inductive fP (K:PySem.W.Frag)(A:JL)(vs:List V)(H:Hp)(Q:VK)(E:XK):Prop
 |mk (b c l:AK)(s:DI)(a:List AK)(d t r:List Int)(p:Nat)(x:Int)(e:List (List Int))(_:vs=[.ref b,.ref c])(_:Bk A H b s a)(_:Pj s)(_:Wa K A H c l d p)(_:c∉a)(_:LL K H l (Il d) (c::a))(_:d.drop p=x::r)(_:DY Bo (x::r)=U (e,t))(_:Dl Ct e=AF)(_: ∀H' q,H q=AB->H' q=U (.lst (Il (St s e).2))->Done K A H H' b c l d t (St s e).1 a->Q (.ref q) H')
theorem Done.new(h:Done K A H H' b c l ns t s fp)(D:H' q=AB):Done K A H (Hu H' q o) b c l ns t s fp:=by
 obtain⟨B,E,F,G,I,J,L⟩:=h;have f:Fr [] H' (Hu H' q o):=Fr.new D;exact⟨B,E,F.fr f λz z=>by simp,G,I.Vx f,J,L.trans f.of0⟩
theorem Done.none(h:Done K A H H' b c l ns t s fp)(B:H' q=AB):H q=AB:=by
 obtain⟨E,I,D,J,⟨⟨dx,F⟩,_⟩,L,G⟩:=h;refine G.none B λz=>?_;obtain rfl|z:=AO.1 z
 .show 6 F B
 rw[AV.1 z]at B;exact D.KO _ D.mem B
def du(T:Txt K mg A)(TT:LN K mg)(C:SG K mg)(L:Kf K mg A)(KK:JH K A)(X:uo K A): !20 112 "answer_or_refusal" ["book","waiting"] (fP K A):=(T.fn 77 rfl).at λF=>by
 obtain⟨g,fd,ds,hm,Z,J,M,Fo⟩:=(VC T TT C L KK);show 9 ["book","waiting"];obtain⟨b,c,l,so,fp,ns,t,r,p,x,cl,rfl,hb,ho,hw,O,S,hd,E,Y,I⟩:=h;refine⟨_,(Hm (cC (c:=⟨"WrongInput",A.wi,_,_,_,_,jj (jl (Xe (u9 (rU λi=>V.int (-i)) (tC (V.int 1))) Y9))⟩) (cs:=[⟨"TooLong",A.tl,_,_,_,_,jj (jl (Xe (u9 (rU λi=>V.int (-i)) (tC (V.int 2))) Y9))⟩,⟨"NothingRead",A.nr,_,_,_,_,jj (jl (Xe (u9 (rU λi=>V.int (-i)) (tC (V.int 4))) Y9))⟩]) _ rfl Fo (hr.mono (!1)) rfl hm Z J M (Hz (pv 0) (Hn (pv 1))) (λz G=>?_))),?_⟩
 .obtain rfl|G:=AO.1 G
  .exact⟨rfl,UJ T.Ia,(show(("WrongInput":Str)==("__debug__":Str))=AJ by decide),λe=>Hm (Hy (Ib (Hn (Kr J9 Ht))))⟩
  obtain rfl|G:=AO.1 G
  .exact⟨rfl,UJ T.VG,(show(("TooLong":Str)==("__debug__":Str))=AJ by decide),λe=>Hm (Hy (Ib (Hn (Kr J9 Ht))))⟩
  rw[AV]at G;subst G;exact⟨rfl,UJ T.Pn,(show(("NothingRead":Str)==("__debug__":Str))=AJ by decide),λe=>Hm (Hy (Ib (Hn (Kr J9 Ht))))⟩
 unfold aC;simp![];refine⟨b,c,l,so,fp,ns,t,r,p,x,cl,rfl,hb,ho,hw,O,S,hd,E,Y,I,λe H' B=>⟨_,rfl,?_⟩,λe H' B=>⟨_,rfl,?_⟩,λe H' B=>⟨_,rfl,?_⟩⟩;all_goals rw[e]at I
 .refine⟨AF,X.ww,?_⟩;refine WJ rfl ?_
  simp![];exact⟨!1,λq D=>I (Hu H' q (.lst [V.int (-1)])) q (B.none D) Hq (B.new D)⟩
 .refine⟨AJ,X.tw,?_⟩;refine W5 AH ?_
  refine⟨AF,X.tt,?_⟩;refine WJ rfl ?_
  simp![];exact⟨!1,λq D=>I (Hu H' q (.lst [V.int (-2)])) q (B.none D) Hq (B.new D)⟩
 refine⟨AJ,X.nw,?_⟩;refine W5 AH ?_
 refine⟨AJ,X.nt,?_⟩;refine W5 AH ?_
 refine⟨AF,X.nn,?_⟩;refine WJ rfl ?_
 simp![];exact⟨!1,λq D=>I (Hu H' q (.lst [V.int (-4)])) q (B.none D) Hq (B.new D)⟩
def lU(h:DY Bo (p::r)=U (c,t)):t.length<=r.length:=by
 obtain⟨_,_,rfl⟩|⟨_,n,B,rfl,_,_,_,rfl⟩|⟨_,m,n,B,rfl,_,_,_,rfl⟩|⟨_,n,B,rfl,_,_,_,rfl⟩:=QH h
 .exact AR _
 all_goals
  simp only[AS,AN]
  lia
def cO(E:Pj s)(h:DY Bo (p::r)=U (c,t))(B:Dl Ct c=AF):Pj (St s c).1:=by
 unfold St;obtain⟨_,rfl,rfl⟩|⟨_,n,F,rfl,_,_,rfl,rfl⟩|⟨_,m,n,F,rfl,_,_,rfl,rfl⟩|⟨_,n,F,rfl,_,_,rfl,rfl⟩:=QH h
 .rw[bt];exact Pj.nil
 .obtain⟨D,G⟩:=RO (most:=16384) (.inl rfl) B;rw[VT s D];refine E.read ?_
  unfold A4;rw[AY];exact D
 .obtain⟨D,G⟩:=RO (most:=4096) (.inr rfl) B;rw[VS E D m];exact E
 obtain⟨D,G⟩:=RO (most:=4096) (.inl rfl) B;rw[VU E D];exact E
noncomputable def IvC(K:PySem.W.Frag)(A:JL)(b c l g:AK)(ns:List Int)(k:Nat)(H:Hp):Prop:= ∃(s:DI)(fp:List AK)(p:Nat)(given:List Int),Bk A H b s fp/\Pj s/\Wa K A H c l ns p/\c∉fp/\g∉c::fp/\LL K H l (Il ns) (g::c::fp)/\Due ns s given (ns.drop p)/\H g=U (.lst (Il given))/\k=(ns.drop p).length
def O8(K:PySem.W.Frag)(A:JL):Sp:=λvs H Q z=> ∃(l:AK)(ns:List Int),vs=[.ref l]/\Ip K H l (Il ns)/\ns.length<=1000000/\Ef ns=AF/\ ∀H' q,H' q=U (.lst (Il (C8 ns)))->Q (.ref q) H'
def Z0(T:Txt K mg A)(TT:LN K mg)(C:SG K mg)(L:Kf K mg A)(KK:JH K A)(X:uo K A)(F:XS K "answers" "answers" (top 161) f fd):Lh P w K mg base (Q6 P w) 113 f fd ["calls"] (O8 K A):=by
 show 9 ["calls","book","waiting","given","answer"];obtain⟨l,ns,rfl,hl,hn,zE,q⟩:=h;refine⟨_,(Gy (IA (i:=1) (cG (ke T)))
   (Gy (IA (i:=2) (Jl (gR T) (Hn (pv 0))))
   (Gy (IA (i:=3) (Ib ML))
   (Gy (JS Ag (Ik (ID (Zy T) (pv 2))) (Gy (IA (i:=4) (Hr (du T TT C L KK X) (Hz (pv 1) (Hn (pv 2)))))
   (Gy (IK (KZ PySem.F.plainAttrs_list PySem.F.slot_list_append PySem.F.type_list_append Jg (pv 3) (Hn (IT IP T.Jf PySem.boot_len (Hn (pv 4))))))
   (Hm (IK (KZ PySem.F.plainAttrs_list PySem.F.slot_list_extend PySem.F.type_list_extend Kl (pv 3) (Hn (pv 4))))))))
   (Hm (Hy (pv 3))))))),?_⟩
 refine II λN1 Nw=>?_;simp![KL];refine MO (H:=H) (C:=A.book) (g:=bf) (us:=[]) (Q:=λv H2=>N1 [U (V.ref l),U v,AB,AB,AB] H2) rfl λH1 b vk ⟨dxb,eb⟩ f1=>Nw _ _ (II λN2 Pg=>?_);clear Nw;simp![KL];refine MO (H:=H1) (C:=A.calls) (g:=caf) (us:=[.ref l]) (Q:=λv H2=>N2 [U (V.ref l),U (V.ref b),U v,AB,AB] H2) rfl λH2 c zB ⟨v7,ec⟩ f2=>Pg _ _ (II λN3 Rq=>?_);clear Pg;simp![];refine⟨Ax _,λg G=>Rq _ _ (II λN4 Yz=>?_)⟩;clear Rq;obtain⟨zj,eJ⟩:=Due.start zE;have f3:Fr [] H2 (Hu H2 g (.lst [])):=Fr.new G;have eb2:=f2 _ _ eb (!2);have eb3:=f3 _ _ eb2 (!2);have ec3:=f3 _ _ ec (!2);have y9:c≠b:=λz=>by rw[z,eb]at zB;cases zB
 have hgb:g≠b:=λz=>by rw[z,eb2]at G;cases G
 have hgc:g≠c:=λz=>by rw[z,ec]at G;cases G
 have vZ:LL K (Hu H2 g (.lst [])) l (Il ns) [g,c,b]:=by
  have l2:=(((fC hl).fr f1 (!2)).fr f2 (!2)).fr f3 (!2);have l0:LL K H l (Il ns) [g,c,b]:=(fC hl).grow λy B=>.inr ?_
  .exact l0.fr ((f1.trans f2).trans f3) (!2)
  simp only[AO,Ba,C6]at B;obtain rfl|rfl|rfl:=B
  .exact(f1.trans f2).none G (!2)
  .exact f1.none zB (!2)
  exact vk
 have pH:IvC K A b c l g ns ns.length (Hu H2 g (.lst [])):=⟨{},[b],0,[],⟨dxb,.inl ⟨rfl,eb3,rfl⟩⟩,Pj.nil,⟨⟨v7,ec3⟩,vZ.sq,Ax _,hn⟩,by simpa using y9,by simp[hgb,hgc],vZ,by rw[DB];exact zj,Hq,rfl⟩;refine⟨λk σ H'=>(∃z,σ=[U (.ref l),U (.ref b),U (.ref c),U (.ref g),z])/\IvC K A b c l g ns k H',⟨_,⟨_,rfl⟩,pH⟩,?_⟩;rintro k σ H4 ⟨⟨z,rfl⟩,O,fp,p,given,S,ho,su,jO,hgf,YL,E,Y,rfl⟩;have sr:=su;obtain⟨⟨dx4,rF⟩,e42,e43,e44⟩:=su;simp![rF,Kc rF,T.KQ,Uu];refine⟨c,l,ns,p,rfl,sr,?_⟩;by_cases YK:p<ns.length
 .rw[Af YK];show 4;refine WJ rfl ?_
  obtain⟨x,r,hd⟩: ∃x r,ns.drop p=x::r:=⟨_,_,Cn YK⟩;rw[hd]at E;obtain⟨cl,t,D,q7,zi,hsz⟩:=E.next;refine⟨λσ' H'=> ∃m',m'<(ns.drop p).length/\(∃z,σ'=[U (.ref l),U (.ref b),U (.ref c),U (.ref g),z])/\IvC K A b c l g ns m' H',λu u z=>z,?_⟩;have J:g≠c:=λz=>hgf (by simp[z]);have tV:g∉fp:=λz=>hgf (by simp[z]);simp![];refine⟨b,c,l,O,fp,ns,t,r,p,x,cl,rfl,S,ho,sr,jO,YL.grow (λy B=>.inl (by simp[AO.1 B])),hd,D,q7,λH5 q5 hq0 hq5 dn=>?_⟩;obtain⟨I,p5,zD,Z,hw5,hd5,f5⟩:=dn;have hg5:H5 g=U (.lst (Il given)):=f5 _ _ Y λz=>by
   simp only[AO,Ba,C6]at z;obtain z|z:=z
   .exact J z
   exact tV (by rw[z];exact S.mem)
  have hqg:q5≠g:=λz=>by rw[z,Y]at hq0;cases hq0
  have e9:Ac=16777216:=CV;have ABE:given.length+1+(St O cl).2.length<=(C8 ns).length:=hsz;have M:Fr [g] H5 (Hu (Hu H5 g (.lst (Il given++[V.int ((Il (St O cl).2).length:Int)]))) g (.lst (Il given++[V.int ((Il (St O cl).2).length:Int)]++Il (St O cl).2))):=(Fr.upd (!2)).trans (Fr.upd (!2));have yi:=YL.fr f5 (by simp[S.mem]);have mu:=yi.fr M (!2);have nw: ∀y,(y∈I->y∈fp\/H4 y=AB):=Z;have tX:g∉I:=λz=>by
   obtain z|z:=Z g z
   .exact tV z
   show 6 Y z
  have y8:c∉I:=λz=>by
   obtain z|z:=Z c z
   .exact jO z
   show 6 rF z
  have tQ:LL K H5 l (Il ns) (g::c::I):=(YL.grow (W':=g::c::(I++fp)) λy B=>by
   simp only[AO,AQ]at B⊢;obtain B|B|B|B:=B
   .exact .inl (.inl B)
   .exact .inl (.inr (.inl B))
   .obtain z|z:=Z y B
    .exact .inl (.inr (.inr z))
    exact .inr z
   exact .inl (.inr (.inr B))).fr f5 (by simp[S.mem])|>.grow λy B=>.inl (by
   simp only[AO,AQ]at B⊢;obtain B|B|B:=B
   .exact .inl B
   .exact .inr (.inl B)
   exact .inr (.inr (.inl B)))
  refine⟨Im hg5,Il (St O cl).2,.inl (Ip.of hq5),Il given,hg5,by rw[Lu];nofun,Im Hq,_,Hq,Il (St O cl).2,(Hv hqg).trans hq5,by rw[AG,Lu,Lu];simp only[AN,Cr];nofun,
   t.length,?_,⟨_,rfl⟩,(St O cl).1,I,p5,given++(((St O cl).2.length:Int)::(St O cl).2),zD.fr M (λy B z=>tX (by rw[<-AV.1 z];exact B)),cO ho D q7,hw5.fr M (by simpa using Ne.symm J) (tQ.fr M (!2)).sq,y8,by simp[J,tX],tQ.fr M (!2),?_,?_,by rw[hd5]⟩
  .rw[hd,AN];have:=lU D
   nofun
  .rw[hd5];exact zi
  rw[Hq];unfold Il;rw[AY,A8,Av,Ah];rfl
 rw[AM YK];show 4;refine W5 AH ?_
 have e:ns.drop p=[]:=List.drop_eq_nil_of_le (!5);rw[e]at E;refine Yz _ _ ?_
 simp![];refine q H4 g ?_
 rw[<-E.fin];exact Y
end
def qd{P:BB}{w:BJ}{K:PySem.W.Frag}{mg:Str->Option Value}{base:Heap}{A:JL}(T:Txt K mg A)(TT:LN K mg)(C:SG K mg)(L:Kf K mg A)(KK:JH K A)(X:uo K A){f:AK}{B:CY}(F:XS K "answers" "answers" (top 161) f B):Lh P w K mg base (Q6 P w) 113 f B ["calls"] (O8 K A):=by
 exact Z0 T TT C L KK X F
section
variable{K:PySem.W.Frag}{h:Heap}{mg:Str->Option Value}{x m qual:Str}{st:DW}{ps:List Str}{f C:AK}{oc kV doc pm Kg ct:Value}{od an:Option AK}{Xw:Array (Option Value)}
noncomputable def Ent:List Cc->List (Int×Int)->Prop
 |[],[]=>True
 |e::B,p::ps=>(∃t,e.key=.int p.1 t)/\e.hash=hashInt p.1/\(∃t,e.val=.int p.2 t)/\Ent B ps
 |_,_=>False
theorem iU(P:BB)(w:BJ): ∀(D:List Cc)(B:List (Int×Int)),Ent D B-> ∃vs:List (Key×Value),KV (Uv B) vs/\Pairs (J0 P w) D vs/\(∀e∈D,∃k,(J0 P w).is k e.key=AF/\e.hash=(J0 P w).hash k)/\vs.map (·.1)=B.map λp=>(Cf p.1:Key)
 |[],[],_=>⟨[],.nil,.nil,λe h=>absurd h (!2),rfl⟩
 |e::D,p::ps,h=>by
  obtain⟨⟨t,G⟩,I,⟨J,L⟩,M⟩:=h;obtain⟨vs,a,b,c,d⟩:=iU P w D ps M;have F:(J0 P w).is (Cf p.1) e.key=AF:=by rw[G];exact Vi _ t
  refine⟨(Cf p.1,e.val)::vs,.cons ⟨rfl,J,L⟩ a,.cons F rfl b,λu E=>?_,?_⟩
  .obtain rfl|E:=AO.1 E
   .exact⟨_,F,I⟩
   exact c u E
  rw[Av,d];rfl
 |[],_::_,h=>h.elim
 |_::_,[],h=>h.elim
def jh(l:K.lookup d=U ⟨.type "dict",AB,.dict D E,#[]⟩)(hd:(d==CM)=AJ)(F:Ent D.toList B)(nd:(B.map λp=>(Cf p.1:Key)).Nodup):Z1 K d B:=
 ⟨hd,λP w h G=>by
  obtain⟨vs,a,b,c,e⟩:=iU P w _ _ F;exact⟨vs,a,_,D,E,G _ _ l,⟨rfl,rfl,rfl⟩,rfl,λu I=>c u (!8 I),b,by rw[e];exact nd⟩⟩
def aA(l:K.lookup a=U ⟨.type "tuple",dd,.seq B n,D⟩)(hs:B.size<=100)(v:IM xs B.toList):L9 K a xs:=
 ⟨_,B,n,l,rfl,rfl,Aa hs (by show 100<=Ac;decide),v⟩
end
def finish{P:BB}{w:BJ}{K:PySem.W.Frag}{mg:Str->Option Value}{A:JL}{E:AK}(D:mg "answers"=U (.ref E))(T:Txt K mg A)(TT:LN K mg)(C:SG K mg)(L:Kf K mg A)(KK:JH K A)(X:uo K A):
  ∃B:CY,(∀(s:AZ)(us:List Value),us.length=(["calls"]:List Str).length->BindsTo s B ⟨us,[]⟩ ((["calls"]:List Str).zip us))/\ ∀base:Heap,K.In base->base.Ns BQ mg->Lh P w K mg base (Q6 P w) 113 E B ["calls"] (O8 K ⟨0,0,0,0,0,0,0,0,0⟩):=by
 obtain⟨f,B,F,hm,_⟩:=(T.fn 76 rfl);show 6 D hm;refine⟨B,λs us G=>?_,λbase z z=>qd T TT C L KK X F⟩;obtain⟨oc,od,kV,doc,pm,an,Kg,ct,Xw,rfl,J,I⟩:=F.ex;obtain⟨_,rfl⟩: ∃a,us=[a]:=⟨_,aS .none _ _ G⟩;exact .of_eq rfl
end _S
namespace _H
open PySem PySem.W PyProof.Rows
noncomputable abbrev RH:BB:=PySem.Challenge.pw_settingsbook_s01_answers
noncomputable abbrev fe:Pos:=⟨0,0,0,0⟩
noncomputable def qN:Env:={scope:=RH.main.scope,locals:=mainNs,globals:=mainNs,cells:=[],code:=.ref 13,frame:=U 14}
def Zr:Code:=.body (behindTheImports RH) qN
abbrev vt:List Frame:=[topFrame fe]
noncomputable abbrev d9:Option Value:=U (.ref 6)
noncomputable def s0T(w:BJ)(os:OsState):AZ:=⟨boot_heap w.params,⟨[]⟩,boot_drawn,boot_toks,os⟩
noncomputable def mD:List Obj->Nat->BT->BT
 |[],_,t=>t
 |o::os,i,t=>mD os (i+1) (t.ins i o)
def qG(w:BJ)(s:AZ)(p:Pos):topRun treeTable RH w 11 d9 2 s ⟨doneF .next,Zr,p,vt⟩=U s:=by kernel_rfl
def kR{N:Nat}(B:Fe 600 N=AF)(w:BJ):(fencedOpening treeTable RH w N).map (λs=>(s.heap,s.gens,s.drawn,s.toks))=U (boot_heap w.params,⟨[]⟩,boot_drawn,boot_toks):=
 boot_open (by kernel_rfl) B (λs=>by kernel_rfl) w
def jx(w:BJ):((boot_heap w.params).isNs BQ&&(⟨[]⟩:Array GenState).size==0,(boot_heap w.params).objs.size,(boot_heap w.params).nsMap BQ "__annotations__")=(AF,11,d9):=by kernel_rfl
def gc{G:BJ->α}{M:Nat}{B:CF->Heap}(D: ∀w:BJ,(fencedOpening treeTable p w N).map (λs=>(s.heap,s.gens,s.drawn,s.toks))=U (B w.params,F,I,k0))(size: ∀w:BJ,((B w.params).isNs BQ&&F.size==0,(B w.params).objs.size,(B w.params).nsMap BQ "__annotations__")=(AF,J,ann))(le:Fe M N=AF)(h: ∀w os,∃s,topRun treeTable p w J ann M ⟨B w.params,F,I,k0,os⟩ (topStub p)=U s/\(staticsOk (importedModules p.main.body) (B w.params) s.heap&&namesBound p s.heap&&gensDone s&&laidKept (B w.params) s.heap)=AF/\openSeen q loose (importedModules p.main.body) Xt AF s=openGood q loose/\L s=G w):LeftO p q loose Xt L G N:=λw=>by
 obtain⟨⟨O,E,d,k,os⟩,e,S⟩:=EB.mp (D w);obtain⟨rfl,rfl,rfl,rfl⟩:O=B w.params/\E=F/\d=I/\k=k0:=by simpa using S
 obtain⟨Y,Z,z3⟩:_/\_/\_:=by simpa only[DM]using size w
 obtain⟨s,hr,l1,l2,l3⟩:=h w os;have r:=topRun_mono (N-M) _ _ _ _ hr;rw[show M+(N-M)=N by have:=DN le;nofun]at r;have t:topFrom treeTable p w N ⟨B w.params,E,d,k,os⟩=U s:=by
  unfold topFrom;show 4;rw[Y,Z,z3,r];show(match staticsOk (importedModules p.main.body) (B w.params) s.heap&&namesBound p s.heap&&gensDone s&&laidKept (B w.params) s.heap with|true=>_|false=>_)=_;rw[l1]
 unfold openEnds;rw[e];show(topFrom treeTable p w N _).map _=_;rw[t];exact congrArg U (Prod.ext l2 l3)
end _H
namespace _H
open PySem PySem.W PyProof.Rows
open _S (top)
def qv:BB:={RH with main:={RH.main with body:=[top 161]}}
noncomputable def nmS:DW->List Str
 |.FunctionDef x .. =>[x]
 |.ClassDef x .. =>[x]
 |.Assign [.Name x _] _ _=>[x]
 |_=>[]
def Wm:List Str:=RH.main.body.flatMap nmS
end _H
namespace _H
open _S (top)
open _L (J8 J1 IV IF)
noncomputable section
open PySem PySem.W
noncomputable def vi(i:Int)(t:Nat):Value:=.int i t
noncomputable def vs(x:Str)(t:Nat):Value:=.str x t
noncomputable def vr(a:Nat):Value:=.ref a
noncomputable def tp(l:List Value):Obj:=⟨.type "tuple",AB,.seq l.toArray,#[]⟩
noncomputable def fl(c:Value)(l:List Value):Obj:=⟨c,AB,.fields l.toArray,#[]⟩
noncomputable def dc(c:Value)(B:List Cc)(n:Nat):Obj:=⟨c,AB,.dict B.toArray n,#[]⟩
noncomputable def fm(l:List (Option Value)):Obj:=⟨.type "frame",AB,.plain,l.toArray⟩
noncomputable def en(P:CF)(x:Str)(t:Nat)(v:Value):Cc:=⟨PyData.keyHash P x,.str x t,v⟩
noncomputable def ei(i t j u:Nat):Cc:=⟨i,.int i t,.int j u⟩
noncomputable def lR:Str:="/claim/cut.py"
def kd(nm:Str)(t ln a:Nat):Obj:=fl (.type "code") [vs nm t,vs nm (t+1),vs lR (t+2),vi ln 0,vi 0 0,vi 0 0,vi 0 0,vi 0 0,vr (a-2),.bool AJ,vi 181 0,vr (a-1),.none,.none,.none,.none,vi (t+3:Nat) 0,vi ln 0,vs lR (t+4)]
noncomputable def kl(nm:Str)(bs mro:List Value)(ns:Nat)(B:Option Value)(D E:Nat)(nw:String):Obj:=⟨.type "type",AB,.cls {name:=nm,bases:=bs,mro:=mro,ns:=ns,qualname:=nm},#[B,AB,U (.str nm D),U (.str nm E),U (.builtin nw),U (.bool AF)]⟩
noncomputable def stN:DW->Str×Nat
 |.FunctionDef x _ _ _ _ _ _ _ _ p=>(x,p.line)
 |_=>(F8,0)
def wc(s:DW):List Str:=(IV s).names.filterMap λp=>match p.2 with
 |.local=>U p.1
 |_=>AB
def toks:Nat->List Str->List Value
 |_,[]=>[]
 |t,x::r=>vs x t::toks (t+1) r
def vu(s:DW)(q:Str)(g:Nat)(d m c:Value):Data:=.func {name:=(stN s).1,qualname:=q,params:=J8 s,body:=.stmts (J1 s),scope:=IV s,globals:=g,closure:=[],defaults:=d,kwdefaults:=.none,pyModule:=m,code:=c}
def cdO(s:DW)(q:Str)(t k a f:Nat)(x y:Value):Obj:=fl (.type "code") [vs (stN s).1 t,vs q (t+1),vs lR (t+2),vi (stN s).2 0,vi (J8 s).args.length 0,vi 0 0,vi 0 0,vi 3 0,vr a,.bool AF,vi 181 0,vr (a+1),.none,x,y,vr f,vi (t+3+k:Nat) 0,vi (stN s).2 0,vs lR (t+4+k)]
def d7q(s:DW)(q:Str)(a t:Nat)(m d:Value):List Obj:=[tp [],fl .none [],tp (toks (t+3) (wc s)),tp [],⟨.none,AB,vu s q 0 .none .none .none,#[]⟩,cdO s q t (wc s).length a (a+4) (vr (a+2)) (vr (a+3)),⟨.type "function",AB,vu s q 3 d m (vr (a+5)),#[]⟩]
def d7(s:DW)(pre:Str)(a t:Nat)(m:Value)(d:Value:=.none):List Obj:=d7q s (pre++(stN s).1) a t m d
def e7(i a t:Nat)(m:Value):List Obj:=d7q (top i) (stN (top i)).1 a t m .none
def d5(i a t:Nat)(m:Value):List Obj:=[tp [],fl .none [],⟨.none,AB,vu (top i) (stN (top i)).1 0 .none .none .none,#[]⟩,cdO (top i) (stN (top i)).1 t 0 a (a+2) .none .none,⟨.type "function",AB,vu (top i) (stN (top i)).1 3 .none m (vr (a+3)),#[]⟩]
def sT:Value:=vs "settingsbook.signs" 187
def Wl:Value:=vs "settingsbook.things" 283
def xo:Value:=vs "settingsbook.forms" 402
def xn:Value:=vs "settingsbook.characters" 520
def RM:Value:=vs "settingsbook.cursor" 566
def xm:Value:=vs "settingsbook.texts" 671
def xl:Value:=vs "settingsbook.keyparts" 786
def xk:Value:=vs "settingsbook.tables" 811
def kg:Value:=vs "settingsbook.days" 890
def mj:Value:=vs "settingsbook.figures" 1006
def sV:Value:=vs "settingsbook.words" 1118
def sU:Value:=vs "settingsbook.reader" 1178
def mi:Value:=vs "settingsbook.ways" 1258
def Pt:Value:=vs "settingsbook.desk" 1298
def bf(x:String)(y:Value):Obj:=fl (.type "builtin_function_or_method") [.builtin x,y]
def pr:Obj:=bf "type.__prepare__" (.type "type")
def cA(P:CF)(nm:Str)(m:Value)(ln a t:Nat)(b l:List Value)(fs:List Cc)(n:Nat):List Obj:=[tp b,pr,dc (.type "dict") (en P "__module__" t m::en P "__qualname__" (t+2) (vs nm (t+1))::en P "__firstlineno__" (t+4) (vi ln (t+3))::fs) n,tp [],fl .none l,kd nm (t-5) ln a,fm [U (vr a),U (vr 3),U (vr (a-3)),AB,U m,AB,U (vr 0)]]
def wk(t c:Nat):Obj:=fl (.type "getset_descriptor") [vs "__weakref__" t,vr c,.builtin "ExceptionGroup.__weakref__",.none]
def cB(P:CF)(nm:Str)(m:Value)(ln t u c n:Nat)(fs:List Cc):List Obj:=[dc (.type "dict") (en P "__module__" t m::en P "__firstlineno__" (t+4) (vi ln (t+3))::(fs++[en P "__dict__" u (vr (c+1)),en P "__weakref__" (u+2) (vr (c+2)),en P "__doc__" (u+3) .none])) n,kl nm [.type "object"] [vr c,.type "object"] (c-1) AB (t-7) (t+1) "object.__new__",fl (.type "getset_descriptor") [vs "__dict__" (u-1),vr c,.builtin "function.__dict__",.builtin "function.__dict__#set"],wk (u+1) c,fl (.type "super") [vr c,vr c,vr c],bf "object.__init_subclass__" (vr c)]
def mR:Value:=vs "settingsbook.refusals" 458
def cE(P:CF)(nm:Str)(ln a t:Nat):List Obj:=cA P nm mR ln a t [.type "Exception"] [] [en P "__static_attributes__" (t+5) (vr (a+2))] 4++[tp [],dc (.type "dict") [en P "__module__" t mR,en P "__firstlineno__" (t+4) (vi ln (t+3)),en P "__static_attributes__" (t+5) (vr (a+2)),en P "__weakref__" (t+7) (vr (a+5)),en P "__doc__" (t+8) .none] 3,kl nm [.type "Exception"] [vr (a+4),.type "Exception",.type "BaseException",.type "object"] (a+3) (U (vr (a-5))) (t-7) (t+1) "Exception.__new__",wk (t+6) (a+4),fl (.type "super") [vr (a+4),vr (a+4),vr (a+4)],bf "object.__init_subclass__" (vr (a+4))]
def uR(P:CF)(l:List (Str×Nat×Nat)):List Cc:=l.map λp=>en P p.1 p.2.1 (vr p.2.2)
def tL(l:List (Nat×Nat)):List Value:=l.flatMap λp=>[vi p.1 0,vi 4 0,vr p.2]
def eL(m:Value):Nat->Nat->Nat->Nat->List Obj
 |0,_,_,_=>[]
 |n+1,i,a,t=>e7 i a t m++eL m n (i+1) (a+7) (t+6+(wc (top i)).length)
def uI(P:CF)(l:List (Str×Nat×Nat)):List Cc:=l.map λp=>en P p.1 p.2.1 (vi p.2.2 (p.2.1-1))
noncomputable def m9:List (Str×Nat×Nat):=[("__init__",329,76),("__static_attributes__",333,77)]
noncomputable def iO:List (Str×Nat×Nat):=[("__init__",361,97),("__static_attributes__",364,98)]
noncomputable def iM:List (Str×Nat×Nat):=[("__init__",391,118),("__static_attributes__",394,119)]
noncomputable def bF:List (Str×Nat×Nat):=[("__init__",587,255),("ahead",596,262),("here",603,269),("take",611,276),("line_end_length",618,283),("skip_line_end",625,290),("skip_blanks",632,297),("skip_blanks_and_line_ends",639,304),("skip_comment",646,311),("skip_around",653,318),("finish_line",660,325),("__static_attributes__",663,326)]
noncomputable def nA:List (Str×Nat×Nat):=[("__init__",1328,757),("__static_attributes__",1330,758)]
noncomputable def iN:List (Str×Nat×Nat):=[("__init__",1357,778),("has_more",1364,785),("take_number",1372,792),("take_row",1381,799),("__static_attributes__",1384,800)]
def r6(P:CF):List Obj:=
 eL sT 6 23 15 233++
 d5 29 57 277 sT++
 cA P "Leaf" Wl 59 67 314 [] (tL [(61,75)]) (uR P m9) 5++[tp [vi 0 319]]++
 d7 (IF (top 42) 0) "Leaf." 70 320 Wl (vr 69)++
 [tp [vs "form" 330,vs "kind" 331,vs "size" 332]]++cB P "Leaf" Wl 59 314 335 79 4 (uR P m9)++cA P "Array" Wl 65 89 348 [] (tL [(67,96)]) (uR P iO) 5++
 d7 (IF (top 43) 0) "Array." 91 353 Wl++
 [tp [vs "by_headers" 362,vs "members" 363]]++cB P "Array" Wl 65 348 366 100 4 (uR P iO)++cA P "Table" Wl 70 110 379 [] (tL [(72,117)]) (uR P iM) 5++
 d7 (IF (top 44) 0) "Table." 112 384 Wl++
 [tp [vs "entries" 392,vs "made" 393]]++cB P "Table" Wl 70 379 396 121 4 (uR P iM)++
 eL xo 6 47 126 406++
 cE P "WrongInput" 123 173 467++cE P "TooLong" 125 186 487++cE P "NothingRead" 127 199 507++
 eL xn 5 58 207 522++
 cA P "Cursor" RM 168 247 575 [] (tL [(170,254),(174,261),(180,268),(183,275),(188,282),(195,289),(198,296),(202,303),(206,310),(211,317),(217,324)]) (uR P bF) 15++
 d7 (IF (top 64) 0) "Cursor." 249 580 RM++
 d7 (IF (top 64) 1) "Cursor." 256 588 RM++
 d7 (IF (top 64) 2) "Cursor." 263 597 RM++
 d7 (IF (top 64) 3) "Cursor." 270 604 RM++
 d7 (IF (top 64) 4) "Cursor." 277 612 RM++
 d7 (IF (top 64) 5) "Cursor." 284 619 RM++
 d7 (IF (top 64) 6) "Cursor." 291 626 RM++
 d7 (IF (top 64) 7) "Cursor." 298 633 RM++
 d7 (IF (top 64) 8) "Cursor." 305 640 RM++
 d7 (IF (top 64) 9) "Cursor." 312 647 RM++
 d7 (IF (top 64) 10) "Cursor." 319 654 RM++
 [tp [vs "octets" 661,vs "place" 662]]++cB P "Cursor" RM 168 575 665 328 4 (uR P bF)++[dc (.type "dict") [ei 98 673 8 674,ei 116 675 9 676,ei 110 677 10 678,ei 102 679 12 680,ei 114 681 13 682,ei 34 683 34 684,ei 92 685 92 686] 7,dc (.type "dict") [ei 117 695 4 696,ei 85 697 8 698] 2]++
 eL xm 9 70 335 706++
 eL xl 3 80 398 788++
 eL xk 8 84 419 813++
 [tp [vi 31 906,vi 28 907,vi 31 908,vi 30 909,vi 31 910,vi 30 911,vi 31 912,vi 31 913,vi 30 914,vi 31 915,vi 30 916,vi 31 917]]++
 d5 101 476 919 kg++
 eL kg 5 102 481 925++
 d5 107 516 966 kg++
 eL kg 4 108 521 972++
 [dc (.type "dict") [ei 120 1010 16 1011,ei 111 1012 8 1013,ei 98 1014 2 1015] 3,tp [vi 69 1020,vi 101 1021]]++
 eL mj 9 117 551 1025++
 d5 126 614 1112 mj++
 [tp [vs "true" 1120,vs "false" 1121],tp [vs "inf" 1123,vs "inf" 1124],tp [vs "+inf" 1125,vs "inf" 1126],tp [vs "-inf" 1127,vs "-inf" 1128],tp [vs "nan" 1129,vs "nan" 1130],tp [vs "+nan" 1131,vs "nan" 1132],tp [vs "-nan" 1133,vs "nan" 1134],tp [vr 620,vr 621,vr 622,vr 623,vr 624,vr 625]]++
 eL sV 5 130 627 1136++
 eL sU 8 138 662 1184++
 eL mi 3 149 718 1264++
 d5 152 739 1292 mi++
 cA P "Book" Pt 689 749 1317 [] (tL [(691,756)]) (uR P nA) 5++
 d7 (IF (top 159) 0) "Book." 751 1322 Pt++
 [tp [vs "root" 1329]]++cB P "Book" Pt 689 1317 1332 760 4 (uR P nA)++cA P "Calls" Pt 693 770 1345 [] (tL [(695,777),(699,784),(702,791),(707,798)]) (uR P iN) 8++
 d7 (IF (top 160) 0) "Calls." 772 1350 Pt++
 d7 (IF (top 160) 1) "Calls." 779 1358 Pt++
 d7 (IF (top 160) 2) "Calls." 786 1365 Pt++
 d7 (IF (top 160) 3) "Calls." 793 1373 Pt++
 [tp [vs "numbers" 1382,vs "place" 1383]]++cB P "Calls" Pt 693 1345 1386 802 4 (uR P iN)++
 eL Pt 8 161 807 1392
def sS(P:CF):List Cc:=[en P "__doc__" 166 .none,en P "__package__" 167 .none,en P "__loader__" 168 (.builtin "__main__.__loader__#opaque"),en P "__spec__" 169 .none]++uR P [("__annotations__",170,6),("__builtins__",171,4)]++[en P "__file__" 173 (vs "/claim/cut.py" 172),en P "__cached__" 174 .none]++uI P [("TAB",190,9),("LINE_FEED",192,10),("CARRIAGE_RETURN",194,13),("SPACE",196,32),("DOUBLE_QUOTE",198,34),("HASH",200,35),("SINGLE_QUOTE",202,39),("PLUS",204,43),("COMMA",206,44),("MINUS",208,45),("POINT",210,46),("ZERO",212,48),("COLON",214,58),("EQUALS",216,61),("OPEN_SQUARE",218,91),("BACKSLASH",220,92),("CLOSE_SQUARE",222,93),("UNDERSCORE",224,95),("OPEN_CURLY",226,123),("CLOSE_CURLY",228,125),("END",230,256),("NO_DIGIT",232,16)]++uR P [("is_blank",239,21),("is_seen",246,28),("is_digit",253,35),("is_letter",260,42),("digit_worth",267,49),("number_of",276,56),("octets_of",282,61)]++uI P [("TEXT_KIND",286,1),("WHOLE_KIND",288,2),("DECIMAL_KIND",290,3),("TRUTH_KIND",292,4),("DAY_KIND",294,5),("ARRAY_KIND",296,6),("TABLE_KIND",298,7),("BY_KEYS",300,1),("BY_HEADER",302,2),("COME_BY",304,3),("IN_PLACE",306,4)]++uR P [("Leaf",340,79),("Array",371,100),("Table",401,121)]++[en P "DIGITS" 405 (vs "0123456789abcdef" 404)]++uR P [("text_form",414,132),("sign_form",421,139),("form_of",431,146),("pieces_of",438,153),("table_pieces",448,160),("array_pieces",457,167),("WrongInput",479,177),("TooLong",499,190),("NothingRead",519,203),("is_character",528,213),("octets_of_character",537,220),("length_by_first",544,227),("number_of_character",554,234),("check_characters",565,241),("Cursor",670,328),("ESCAPED",694,333),("ESCAPED_DIGITS",701,334)]++uI P [("CLOSING_QUOTES",703,3),("MOST_QUOTES_AT_END",705,5)]++uR P [("is_quote",712,341),("read_quoted",720,348),("read_one_line",729,355),("read_many_lines",739,362),("count_quotes",748,369),("is_line_joined",757,376),("read_within",766,383),("read_escaped",774,390),("read_numbered",785,397),("is_bare",794,404),("read_key",802,411),("read_part",810,418),("put_value",823,425),("table_by_key",832,432),("new_table",842,439),("come_to_table",852,446),("come_to_member",863,453),("is_array_by_headers",870,460),("go_along",880,467),("table_on_way",889,474)]++uI P [("GREAT_T",893,84),("SMALL_T",895,116),("GREAT_Z",897,90),("SMALL_Z",899,122),("DAY_LENGTH",901,10),("HOUR_LENGTH",903,8),("ZONE_LENGTH",905,6)]++uR P [("MONTH_LENGTHS",918,475),("fits",924,480),("fits_sign",932,487),("month_length",940,494),("is_day",950,501),("is_hour_and_minute",957,508),("is_hour",965,515),("is_nothing_or_fraction",971,520),("is_zone",978,527),("zone_length",985,534),("day_or_hour",992,541),("day_with_hour",1005,548)]++uI P [("WHOLE_BOUND",1009,9223372036854775808)]++uR P [("BASES",1019,549),("POWER_SIGNS",1022,550)]++uI P [("MOST_POWER_DIGITS",1024,9)]++uR P [("digits_within",1036,557),("leading_digits",1044,564),("is_negative",1051,571),("without_sign",1058,578),("number_by",1068,585),("whole_number",1078,592),("place_of",1088,599),("decimal",1102,606),("power_of_ten",1111,613),("decimal_form",1117,618),("TRUTHS",1122,619),("WITHOUT_DIGITS",1135,626),("read_word",1144,633),("take_word",1152,640),("is_word_end",1160,647),("leaf_of",1168,654),("fixed_word",1177,661)]++uI P [("MOST_OCTETS_reader",1181,16384),("DEEPEST",1183,32)]++uR P [("read_root",1193,668),("read_line",1202,675),("read_header",1211,682),("read_header_key",1219,689),("read_pair",1229,696),("read_value",1239,703),("read_array",1248,710),("read_table_in_place",1257,717)]++uI P [("MOST_OCTETS_ways",1261,4096),("MOST_INDEX_DIGITS",1263,5)]++uR P [("at_way",1273,724),("parts_of_way",1282,731),("within",1291,738),("is_index",1297,743)]++uI P [("BEGIN",1301,0),("READ",1303,1),("SHOW",1305,2),("LEAST_MOST",1307,1),("GREATEST_MOST",1309,1048576)]++uR P [("Book",1337,760),("Calls",1391,802),("answers",1402,813),("answer_or_refusal",1410,820),("answer_next",1420,827),("begin",1427,834),("read",1435,841),("show",1446,848),("kind",1455,855),("thing_at",1463,862)]
noncomputable def tri:List (Nat×Nat):=[(24,20),(26,27),(28,34),(30,41),(32,48),(40,55),(45,60),(59,67),(65,89),(70,110),(77,131),(83,138),(89,145),(101,152),(105,159),(114,166),(123,173),(125,186),(127,199),(130,212),(132,219),(142,226),(152,233),(158,240),(168,247),(228,340),(230,347),(235,354),(243,361),(265,368),(270,375),(279,382),(287,389),(297,396),(309,403),(311,410),(320,417),(330,424),(337,431),(344,438),(348,445),(357,452),(367,459),(369,466),(374,473),(392,479),(396,486),(398,493),(402,500),(409,507),(411,514),(418,519),(422,526),(426,533),(430,540),(434,547),(453,556),(466,563),(471,570),(473,577),(475,584),(482,591),(497,598),(502,605),(521,612),(527,617),(542,632),(551,639),(556,646),(561,653),(570,660),(581,667),(591,674),(599,681),(607,688),(612,695),(617,702),(629,709),(641,716),(658,723),(663,730),(673,737),(681,742),(689,749),(693,770),(712,812),(721,819),(730,826),(740,833),(743,840),(746,847),(752,854),(759,861)]
def stO(P:CF)(k:Nat):Obj:=dc .none (match k with|0=>[]|_=>[en P "type.__subclasses__.Exception.0" 476 (vi 177 0),en P "type.__subclasses__.Exception.n" 477 (vi 3 0),en P "type.__subclasses__.Exception.1" 496 (vi 190 0),en P "type.__subclasses__.Exception.2" 516 (vi 203 0)]) (match k with|0=>0|_=>4)
def mf(P:CF)(n k m B r:Nat)(nm:Value):List Obj:=[boot_o_0 P,boot_o_1 P,stO P k,dc (.type "dict") (en P "__name__" 165 nm::(sS P).take m) B,boot_o_4 P,boot_o_5 P,boot_o_6 P,boot_o_7 P,boot_o_8 P,boot_o_9 P,boot_o_10 P,
 tp [],fl .none ((tri.take r).flatMap λp=>[vi p.1 0,vi 0 0,vr p.2]),kd "<module>" 182 1 13,fm [U (vr 13),U (vr 3),U (vr 3),AB,U (vs "__main__" 164),AB,U (vr 0)]]++(r6 P).take (n-15)
def NX(n k m B r tk:Nat)(nm:Value)(P:CF)(os:OsState):SharedT:=⟨mD (mf P n k m B r nm) 0 .nil,n,{},#[],{},tk,os⟩
def S0:CF->OsState->SharedT:=NX 15 0 8 9 0 187 (vs "__main__" 164)
def S1:CF->OsState->SharedT:=NX 126 0 51 52 10 402 (vs "settingsbook.things" 283)
def S2:CF->OsState->SharedT:=NX 242 1 66 67 24 568 (vs "settingsbook.cursor" 566)
def S3:CF->OsState->SharedT:=NX 333 1 67 68 25 673 (vs "settingsbook.texts" 671)
def S4:CF->OsState->SharedT:=NX 335 1 69 70 25 702 (vs "settingsbook.texts" 671)
def S5:CF->OsState->SharedT:=NX 549 1 111 112 56 1010 (vs "settingsbook.figures" 1006)
def S6:CF->OsState->SharedT:=NX 550 1 112 113 56 1020 (vs "settingsbook.figures" 1006)
def S7:CF->OsState->SharedT:=NX 744 1 152 153 83 1310 (vs "settingsbook.desk" 1298)
def S8:CF->OsState->SharedT:=NX 863 1 162 163 93 1464 (vs "settingsbook.desk" 1298)
end
end _H
namespace _H
open PySem PySem.W PyProof.Rows
noncomputable def sg(a n:Nat):List DW:=(RH.main.body.drop a).take n
noncomputable abbrev R4(a n k:Nat)(s s':CF->OsState->SharedT)(p B:Pos)(w:BJ):Prop:= ∀os,segRunT treeTable RH w 11 d9 1 k (s w.params os) (piecesOf (sg a n) qN Zr p vt)=U (.next,s' w.params os,Zr,B)
def wx(w:BJ):R4 0 45 1193 S0 S1 ⟨0,0,0,0⟩ ⟨70,0,74,25⟩ w:=λos=>by rw[Fast.te10110043849684766642,Fast.te14364793385576792824];kernel_rfl
def wu(w:BJ):R4 45 19 972 S1 S2 ⟨70,0,74,25⟩ ⟨167,0,167,8⟩ w:=λos=>by rw[Fast.te10110043849684766642,Fast.te14364793385576792824];kernel_rfl
def wt(w:BJ):R4 64 2 546 S2 S3 ⟨167,0,167,8⟩ ⟨223,0,223,8⟩ w:=λos=>by rw[Fast.te10110043849684766642,Fast.te14364793385576792824];kernel_rfl
def wq: ∀w,R4 66 2 138 S3 S4 ⟨223,0,223,8⟩ ⟨225,0,225,14⟩ w:=byRow2 "special-get-raises" (λw os=>by rw[Fast.te10110043849684766642,Fast.te14364793385576792824];kernel_rfl) (λw os=>by rw[Fast.te10110043849684766642,Fast.te14364793385576792824];kernel_rfl)
def wo(w:BJ):R4 68 46 1094 S4 S5 ⟨225,0,225,14⟩ ⟨449,0,449,11⟩ w:=λos=>by rw[Fast.te10110043849684766642,Fast.te14364793385576792824];kernel_rfl
def wm: ∀w,R4 114 1 50 S5 S6 ⟨449,0,449,11⟩ ⟨450,0,450,5⟩ w:=byRow2 "special-get-raises" (λw os=>by rw[Fast.te10110043849684766642,Fast.te14364793385576792824];kernel_rfl) (λw os=>by rw[Fast.te10110043849684766642,Fast.te14364793385576792824];kernel_rfl)
def wj(w:BJ):R4 115 44 1018 S6 S7 ⟨450,0,450,5⟩ ⟨688,0,688,13⟩ w:=λos=>by rw[Fast.te10110043849684766642,Fast.te14364793385576792824];kernel_rfl
def wh(w:BJ):R4 159 10 789 S7 S8 ⟨688,0,688,13⟩ ⟨759,0,762,33⟩ w:=λos=>by rw[Fast.te10110043849684766642,Fast.te14364793385576792824];kernel_rfl
end _H
namespace _H
open PySem PySem.Spec PyProof.Rows _L
open _S (top WI eG)
open PySem.W (Frag nsIn findIn)
noncomputable section
noncomputable def eI(x:Str)(i:Int):Str×Int:=(x,i)
noncomputable def eM(C:Nat)(x q:Str)(i j:Nat)(l:List Str):Nat×Str×Str×Nat×Nat×List Str:=(C,x,q,i,j,l)
def tabI:List (Str×Int):=[eI "TAB" 9,eI "LINE_FEED" 10,eI "CARRIAGE_RETURN" 13,eI "SPACE" 32,eI "DOUBLE_QUOTE" 34,eI "HASH" 35,eI "SINGLE_QUOTE" 39,eI "PLUS" 43,eI "COMMA" 44,eI "MINUS" 45,eI "POINT" 46,eI "ZERO" 48,eI "COLON" 58,eI "EQUALS" 61,eI "OPEN_SQUARE" 91,eI "BACKSLASH" 92,eI "CLOSE_SQUARE" 93,eI "UNDERSCORE" 95,eI "OPEN_CURLY" 123,eI "CLOSE_CURLY" 125,eI "END" 256,eI "NO_DIGIT" 16,eI "TEXT_KIND" 1,eI "WHOLE_KIND" 2,eI "DECIMAL_KIND" 3,eI "TRUTH_KIND" 4,eI "DAY_KIND" 5,eI "ARRAY_KIND" 6,eI "TABLE_KIND" 7,eI "BY_KEYS" 1,eI "BY_HEADER" 2,eI "COME_BY" 3,eI "IN_PLACE" 4,eI "CLOSING_QUOTES" 3,eI "MOST_QUOTES_AT_END" 5,eI "GREAT_T" 84,eI "SMALL_T" 116,eI "GREAT_Z" 90,eI "SMALL_Z" 122,eI "DAY_LENGTH" 10,eI "HOUR_LENGTH" 8,eI "ZONE_LENGTH" 6,eI "WHOLE_BOUND" 9223372036854775808,eI "MOST_POWER_DIGITS" 9,eI "MOST_OCTETS_reader" 16384,eI "DEEPEST" 32,eI "MOST_OCTETS_ways" 4096,eI "MOST_INDEX_DIGITS" 5,eI "BEGIN" 0,eI "READ" 1,eI "SHOW" 2,eI "LEAST_MOST" 1,eI "GREATEST_MOST" 1048576]
noncomputable def eg:List Str:=["len","ord","max","all","isinstance","str","tuple","list","reversed","range","enumerate","zip"]
noncomputable def Y8:List (Str×AK):=[("Leaf",79),("Array",100),("Table",121),("Cursor",328),("Book",760),("Calls",802),("WrongInput",177),("TooLong",190),("NothingRead",203)]
def WH:List (Nat×Str×Str×Nat×Nat×List Str):=[eM 100 "__init__" "Array.__init__" 43 0 ["self","members","by_headers"],eM 121 "__init__" "Table.__init__" 44 0 ["self","made"],eM 328 "__init__" "Cursor.__init__" 64 0 ["self","octets"],eM 328 "ahead" "Cursor.ahead" 64 1 ["self","steps"],eM 328 "here" "Cursor.here" 64 2 ["self"],eM 328 "take" "Cursor.take" 64 3 ["self","octet"],eM 328 "line_end_length" "Cursor.line_end_length" 64 4 ["self"],eM 328 "skip_line_end" "Cursor.skip_line_end" 64 5 ["self"],eM 328 "skip_blanks" "Cursor.skip_blanks" 64 6 ["self"],eM 328 "skip_blanks_and_line_ends" "Cursor.skip_blanks_and_line_ends" 64 7 ["self"],eM 328 "skip_comment" "Cursor.skip_comment" 64 8 ["self"],eM 328 "skip_around" "Cursor.skip_around" 64 9 ["self"],eM 328 "finish_line" "Cursor.finish_line" 64 10 ["self"],eM 760 "__init__" "Book.__init__" 159 0 ["self"],eM 802 "__init__" "Calls.__init__" 160 0 ["self","numbers"],eM 802 "has_more" "Calls.has_more" 160 1 ["self"],eM 802 "take_number" "Calls.take_number" 160 2 ["self"],eM 802 "take_row" "Calls.take_row" 160 3 ["self"]]
noncomputable def eh:List (AK×Str):=[(79,"kind"),(79,"form"),(79,"size"),(100,"members"),(100,"by_headers"),(121,"made"),(121,"entries"),(328,"octets"),(328,"place"),(760,"root"),(802,"numbers"),(802,"place")]
noncomputable def Uw:List AK:=[79,100,121,328,760,802]
noncomputable def ot(K:Frag)(ns:AK)(name:Str):Option (Option Value):=match K.lookup ns with
 |some ⟨_,_,.dict B _,_⟩=>(match B.toList.find? (λx=>PySem.W.Fast.tw995047462949696687 x.key name)with
  |some e=>U (U e.val)
  |none=>if B.toList.any (λx=>x.refKey)=AF then AB else U AB)
 |_=>AB
def Wi(K:Frag)(ns:AK)(name:Str):ot K ns name=nsIn K ns name:=by
 unfold ot nsIn;rw[<-PySem.W.Fast.te995047462949696687];rfl
def vI(K:Frag)(x:Str):Option Int:=match ot K BQ x with
 |some (U (.int i _))=>U i
 |_=>AB
def xa(K:Frag)(x:Str):Option Str:=match ot K BQ x with
 |some (U (.str i _))=>U i
 |_=>AB
def ZV(K:Frag)(x:Str):Option AK:=match ot K BQ x with
 |some (U (.ref i))=>U i
 |_=>AB
noncomputable abbrev wF:Type:=Option (Str×Str×Arguments×FuncBody×Scope×AK×List (Str×AK)×Value×AK×Bool×Bool×Bool)
noncomputable def vK(K:Frag)(f:AK)(qual:Str):wF:=match K.lookup f with
 |some ⟨_,_,.func B,_⟩=>U (B.name,B.qualname,B.params,B.body,B.scope,B.globals,B.closure,B.defaults,B.builtins,PySem.W.codeIn K B.code qual,PySem.W.keepIn K (.ref f),PySem.W.isFn K (.ref f))
 |_=>AB
def nG(x qual:Str)(st:DW):wF:=U (x,qual,J8 st,.stmts (J1 st),IV st,BQ,[],.none,builtinsNs,AF,AF,AF)
def vJ(K:Frag)(x:Str):wF:=(ZV K x).bind λf=>vK K f x
def vH(K:Frag)(C:AK)(m qual:Str):wF:=match findIn K (.ref C) m with
 |some (U (.ref f))=>vK K f qual
 |_=>AB
noncomputable def xb(K:Frag):Option (Str×Str×Arguments×FuncBody×Scope×AK×List (Str×AK)×AK×Bool×Bool×Bool×Int):=match findIn K (.ref 79) "__init__" with
 |some (U (.ref f))=>(match K.lookup f with
  |some ⟨_,_,.func B,_⟩=>(match B.defaults with
   |.ref d=>(match K.lookup d with
    |some ⟨_,_,.seq D _,_⟩=>(match D.toList with
     |[.int i _]=>U (B.name,B.qualname,B.params,B.body,B.scope,B.globals,B.closure,B.builtins,PySem.W.codeIn K B.code "Leaf.__init__",PySem.W.keepIn K (.ref f),PySem.W.isFn K (.ref f),i)
     |_=>AB)
    |_=>AB)
   |_=>AB)
  |_=>AB)
 |_=>AB
def zc:Option (Str×Str×Arguments×FuncBody×Scope×AK×List (Str×AK)×AK×Bool×Bool×Bool×Int):=U ("__init__","Leaf.__init__",J8 (IF (top 42) 0),.stmts (J1 (IF (top 42) 0)),IV (IF (top 42) 0),BQ,[],builtinsNs,AF,AF,AF,0)
noncomputable def cv:Value->Option Int
 |.int i _=>U i
 |_=>AB
def vL(K:Frag)(x:Str):Option (Bool×List (Int×Option Int×Option Int)):=(ZV K x).bind λd=>match K.lookup d with
 |some ⟨.type "dict",AB,.dict B _,⟨[]⟩⟩=>U (d==CM,B.toList.map λe=>(e.hash,cv e.key,cv e.val))
 |_=>AB
noncomputable def vy(B:List (Int×Int)):Option (Bool×List (Int×Option Int×Option Int)):=U (AJ,B.map λp=>(hashInt p.1,U p.1,U p.2))
noncomputable def Uv:List (Str×List (Int×Int)):=[("ESCAPED",[(98,8),(116,9),(110,10),(102,12),(114,13),(34,34),(92,92)]),("ESCAPED_DIGITS",[(117,4),(85,8)]),("BASES",[(120,16),(111,8),(98,2)])]
noncomputable def wG:Value->Option V
 |.int i _=>U (.int i)
 |.str x _=>U (.str x)
 |_=>AB
def oj(K:Frag)(a:AK):Option (Bool×List (Option V)):=match K.lookup a with
 |some ⟨.type "tuple",_,.seq B _,_⟩=>U (Fe B.size 100,B.toList.map wG)
 |_=>AB
noncomputable def eZ:List (Str×List V):=[("MONTH_LENGTHS",[.int 31,.int 28,.int 31,.int 30,.int 31,.int 30,.int 31,.int 31,.int 30,.int 31,.int 30,.int 31]),("POWER_SIGNS",[.int 69,.int 101]),("TRUTHS",[.str "true",.str "false"])]
def xZ(K:Frag):Option (Bool×List (Option (Bool×List (Option V)))):=(ZV K "WITHOUT_DIGITS").bind λa=>match K.lookup a with
 |some ⟨.type "tuple",_,.seq B _,_⟩=>U (Fe B.size 100,B.toList.map λv=>match v with|.ref b=>oj K b|_=>AB)
 |_=>AB
noncomputable def rT:List (List V):=[[.str "inf",.str "inf"],[.str "+inf",.str "inf"],[.str "-inf",.str "-inf"],[.str "nan",.str "nan"],[.str "+nan",.str "nan"],[.str "-nan",.str "nan"]]
def qU(K:Frag):List Bool:=[rE K 177,rE K 190,rE K 203,
 PySem.W.kitOne K (.ref 79) (.ref 121)==U AJ,PySem.W.kitOne K (.ref 100) (.ref 121)==U AJ,PySem.W.kitOne K (.ref 79) (.ref 100)==U AJ,PySem.W.kitOne K (.ref 121) (.ref 100)==U AJ,PySem.W.kitOne K (.ref 100) (.ref 79)==U AJ,PySem.W.kitOne K (.ref 121) (.ref 79)==U AJ,PySem.W.kitOne K (.ref 79) (.type "list")==U AJ,PySem.W.kitOne K (.ref 100) (.type "list")==U AJ,PySem.W.kitOne K (.ref 121) (.type "list")==U AJ,
 PySem.W.exmOne K (.ref 177) (.ref 177)==U AF,PySem.W.exmOne K (.ref 190) (.ref 177)==U AJ,PySem.W.exmOne K (.ref 190) (.ref 190)==U AF,PySem.W.exmOne K (.ref 203) (.ref 177)==U AJ,PySem.W.exmOne K (.ref 203) (.ref 190)==U AJ,PySem.W.exmOne K (.ref 203) (.ref 203)==U AF]
noncomputable def lS(K:Frag)(C:AK):List Bool:=[PySem.W.plainGet K C F8,PySem.W.hasDictIn K C,PySem.W.plainOver K C,findIn K (.ref C) "__setattr__"==U (U (.builtin "object.__setattr__")),PySem.W.makesIn K C,PySem.W.keepIn K (.ref C),
 findIn K (.ref C) "__class__"==U (U (.builtin "object.__class__")),PySem.W.specialIn K (.builtin "object.__class__") "__get__"==U (U (.builtin "getset_descriptor.__get__")),PySem.W.takesIn K (.builtin "object.__class__")==U AF,PySem.W.mroIn K C (.type "object")==U AF]
def mS(K:Frag):=(tabI.map (λe=>vI K e.1),eg.map (λx=>ot K BQ x==U AB),Y8.map (λe=>ZV K e.1),WI.map (λe=>vJ K e.1),WH.map (λe=>vH K e.1 e.2.1 e.2.2.1),eh.map (λe=>findIn K (.ref e.1) e.2==U AB),xb K,Uv.map (λe=>vL K e.1),eZ.map (λe=>(ZV K e.1).bind (oj K)),xZ K,xa K "DIGITS",qU K,Uw.map (lS K))
def mz:=(tabI.map (λe=>U e.2),eg.map (λz=>AF),Y8.map (λe=>U e.2),WI.map (λe=>nG e.1 e.1 (top e.2.1)),WH.map (λe=>nG e.2.1 e.2.2.1 (IF (top e.2.2.2.1) e.2.2.2.2.1)),eh.map (λz=>AF),zc,Uv.map (λe=>vy e.2),eZ.map (λe=>U (AF,e.2.map U)),(U (AF,rT.map λl=>U (AF,l.map U)):Option (Bool×List (Option (Bool×List (Option V))))),U ("0123456789abcdef":Str),Ad 18 AF,Uw.map (λz=>Ad 10 AF))
def zu(x q:Str)(st:DW)(l:List Str)(kV doc pm:Value)(an:Option AK)(Kg ct B D E F:Value):Sem (List (Str×Value)):=bindArgs (PySem.W.fnOf x q (J8 st) (J1 st) (IV st) .none kV doc pm an Kg ct) ⟨[B,D,E,F].take l.length,[]⟩
def bdG(kV doc pm:Value)(an:Option AK)(Kg ct B D E F:Value):WI.map (λe=>(zu e.1 e.1 (top e.2.1) e.2.2 kV doc pm an Kg ct B D E F,Fe e.2.2.length 4))=WI.map (λe=>(pure (e.2.2.zip ([B,D,E,F].take e.2.2.length)),AF)):=by kernel_rfl
def bdM(kV doc pm:Value)(an:Option AK)(Kg ct B D E F:Value):WH.map (λe=>(zu e.2.1 e.2.2.1 (IF (top e.2.2.2.1) e.2.2.2.2.1) e.2.2.2.2.2 kV doc pm an Kg ct B D E F,Fe e.2.2.2.2.2.length 4))=WH.map (λe=>(pure (e.2.2.2.2.2.zip ([B,D,E,F].take e.2.2.2.2.2.length)),AF)):=by kernel_rfl
end
end _H
namespace _H
open PySem PySem.Spec PyProof.Rows _L _S
open PySem.W (Frag nsIn findIn)
structure Fc(K:Frag)(h:Heap)(mg:Str->Option Value):Prop where
 X:K.In h
 G:h.Ns BQ mg
 e:mS K=mz
def Ob{α β:Type}{l:List α}{f g:α->β}(h:l.map f=l.map g)(k:Nat){a:α}(e:l[k]? =U a):f a=g a:=List.map_inj_left.mp h a (BI e)
section
variable{K:Frag}{h:Heap}{mg:Str->Option Value}{x m qual:Str}{st:DW}{ps:List Str}
set_option tactic.hygienic true
def oq(e:vI K x=U i): ∃t,nsIn K BQ x=U (U (.int i t)):=by
 unfold vI at e;rw[Wi]at e;split at e
 .rename_i j t q;cases e;exact⟨t,q⟩
 cases e
def om(e:xa K x=U z): ∃t,nsIn K BQ x=U (U (.str z t)):=by
 unfold xa at e;rw[Wi]at e;split at e
 .rename_i j t q;cases e;exact⟨t,q⟩
 cases e
def Tc(e:ZV K x=U a):nsIn K BQ x=U (U (.ref a)):=by
 unfold ZV at e;rw[Wi]at e;split at e
 .rename_i j q;cases e;exact q
 cases e
def gF(e:vK K f qual=nG x qual st): ∃B,XS K x qual st f B/\PySem.W.isFn K (.ref f)=AF:=by
 unfold vK nG at e;split at e
 .rename_i oc od B Xw q;obtain⟨nm,qn,pr,D,sc,gl,cl,E,kV,doc,pm,an,Kg,ct,bl⟩:=B;simp only[Ca,DM]at e;obtain⟨rfl,rfl,rfl,rfl,rfl,rfl,rfl,rfl,rfl,e1,e2,e3⟩:=e;exact⟨_,qB q e1 e2,e3⟩
 cases e
def oo(e:vH K C m qual=nG m qual st): ∃f B,findIn K (.ref C) m=U (U (.ref f))/\XS K m qual st f B/\PySem.W.isFn K (.ref f)=AF:=by
 unfold vH at e;split at e
 .rename_i f q;obtain⟨B,D,E⟩:=gF e;exact⟨f,B,q,D,E⟩
 cases e
def Fc.e1(f:Fc K h mg):tabI.map (λe=>vI K e.1)=tabI.map (λe=>U e.2):=congrArg (·.1) f.e
def Fc.e2(f:Fc K h mg):eg.map (λx=>ot K BQ x==U AB)=eg.map (λz=>AF):=congrArg (·.2.1) f.e
def Fc.e3(f:Fc K h mg):Y8.map (λe=>ZV K e.1)=Y8.map (λe=>U e.2):=congrArg (·.2.2.1) f.e
def Fc.e4(f:Fc K h mg):WI.map (λe=>vJ K e.1)=WI.map (λe=>nG e.1 e.1 (top e.2.1)):=congrArg (·.2.2.2.1) f.e
def Fc.e5(f:Fc K h mg):WH.map (λe=>vH K e.1 e.2.1 e.2.2.1)=WH.map (λe=>nG e.2.1 e.2.2.1 (IF (top e.2.2.2.1) e.2.2.2.2.1)):=congrArg (·.2.2.2.2.1) f.e
def Fc.e6(f:Fc K h mg):eh.map (λe=>findIn K (.ref e.1) e.2==U AB)=eh.map (λz=>AF):=congrArg (·.2.2.2.2.2.1) f.e
def Fc.e8(f:Fc K h mg):Uv.map (λe=>vL K e.1)=Uv.map (λe=>vy e.2):=congrArg (·.2.2.2.2.2.2.2.1) f.e
def Fc.e9(f:Fc K h mg):eZ.map (λe=>(ZV K e.1).bind (oj K))=eZ.map (λe=>U (AF,e.2.map U)):=congrArg (·.2.2.2.2.2.2.2.2.1) f.e
def Fc.uQ(f:Fc K h mg):Uw.map (lS K)=Uw.map (λz=>Ad 10 AF):=congrArg (·.2.2.2.2.2.2.2.2.2.2.2.2) f.e
def Fc.int(f:Fc K h mg)(k:Nat)(e:tabI[k]? =U (x,i)):GI mg x i:=
 let⟨t,q⟩:=oq (Ob f.e1 k e)
 ⟨t,PySem.W.mg_of f.X f.G q⟩
def Fc.Jm(f:Fc K h mg)(k:Nat)(e:eg[k]? =U x):mg x=AB:=
 PySem.W.mg_none_of f.X f.G ((Wi ..).symm.trans (Bs (Ob f.e2 k e)))
def Fc.rf(f:Fc K h mg)(k:Nat)(e:Y8[k]? =U (x,a)):ZV K x=U a:=Ob f.e3 k e
theorem Fc.ref(f:Fc K h mg)(k:Nat)(e:Y8[k]? =U (x,a)):mg x=U (.ref a):=PySem.W.mg_of f.X f.G (Tc (f.rf k e))
def four: ∀us:List Value,us.length<=4-> ∃B D E F,us=[B,D,E,F].take us.length
 |[],_=>⟨.none,.none,.none,.none,rfl⟩
 |[a],_=>⟨a,.none,.none,.none,rfl⟩
 |[a,b],_=>⟨a,b,.none,.none,rfl⟩
 |[a,b,c],_=>⟨a,b,c,.none,rfl⟩
 |[a,b,c,d],_=>⟨a,b,c,d,rfl⟩
 |_::_::_::_::_::r,h=>absurd h (by simp only[AN];lia)
def nJ(b: ∀(kV doc pm:Value)(an:Option AK)(Kg ct B D E F:Value),(zu x q st ps kV doc pm an Kg ct B D E F,Fe ps.length 4)=(pure (ps.zip ([B,D,E,F].take ps.length)),AF))(kV doc pm:Value)(an:Option AK)(Kg ct:Value)(us:List Value)(G:us.length=ps.length):bindArgs (PySem.W.fnOf x q (J8 st) (J1 st) (IV st) .none kV doc pm an Kg ct) ⟨us,[]⟩=pure (ps.zip us):=by
 have I:Fe ps.length 4=AF:=(AAV (b .none .none .none AB .none .none .none .none .none .none)).2;obtain⟨B,D,E,F,e⟩:=four us (by rw[G];exact DN I);rw[G]at e;rw[e];exact(AAV (b kV doc pm an Kg ct B D E F)).1
def Fc.fun(f:Fc K h mg)(k:Nat)(e:WI[k]? =U (x,i,ps)):l7 K mg x (top i) ps:=by
 have q:vJ K x=nG x x (top i):=Ob f.e4 k e;unfold vJ at q;cases r:ZV K x with
 |none=>show 6 r q
 |some a=>
  rw[r]at q;obtain⟨B,F,_⟩:=gF q;exact⟨a,B,F,PySem.W.mg_of f.X f.G (Tc r),F.binds (nJ λkV doc pm an Kg ct D E I J=>Ob (bdG kV doc pm an Kg ct D E I J) k e)⟩
def Fc.XQ(f:Fc K h mg)(k:Nat)(e:(qU K)[k]? =U b):b=AF:=by
 have q:qU K=Ad 18 AF:=congrArg (·.2.2.2.2.2.2.2.2.2.2.2.1) f.e;rw[q]at e;exact FK (BI e)
def Fc.cb(f:Fc K h mg)(k:Nat)(e:Uw[k]? =U C):lS K C=Ad 10 AF:=Ob f.uQ k e
def Fc.eN(f:Fc K h mg)(k:Nat)(e:Uw[k]? =U C)(j:Nat)(e2:(lS K C)[j]? =U b):b=AF:=by
 rw[f.cb k e]at e2;exact FK (BI e2)
def Fc.cls(f:Fc K h mg)(k:Nat)(e:Uw[k]? =U C):Uo K C:=⟨f.eN k e 0 rfl,f.eN k e 1 rfl,f.eN k e 2 rfl,Bs (f.eN k e 3 rfl)⟩
def Fc.zq(f:Fc K h mg)(k:Nat)(e:Uw[k]? =U C):eB K C:=⟨f.cls k e,Bs (f.eN k e 6 rfl),Bs (f.eN k e 7 rfl),Bs (f.eN k e 8 rfl),Bs (f.eN k e 9 rfl)⟩
def Fc.eH(f:Fc K h mg)(k:Nat)(e:eh[k]? =U (C,x)):Jy K C x:=by
 have q:(findIn K (.ref C) x==U AB)=AF:=Ob f.e6 k e;exact Bs q
def Fc.mt(f:Fc K h mg)(k:Nat)(e:WH[k]? =U (C,m,qual,i,j,ps)): ∃f B,findIn K (.ref C) m=U (U (.ref f))/\XS K m qual (IF (top i) j) f B/\PySem.W.isFn K (.ref f)=AF/\Binds K B ps []:=by
 obtain⟨g,B,E,D,F⟩:=oo (Ob f.e5 k e);exact⟨g,B,E,D,F,D.binds (nJ λkV doc pm an Kg ct G I J L=>Ob (bdM kV doc pm an Kg ct G I J L) k e)⟩
def Fc.met(f:Fc K h mg)(k:Nat)(e:WH[k]? =U (C,m,qual,i,j,ps))(c:Nat)(B:Uw[c]? =U C):L4 K C m qual (IF (top i) j) ps:=by
 obtain⟨g,D,q,F,i,b⟩:=f.mt k e;exact⟨g,D,F,f.cls c B,⟨q,i,F.kp⟩,b⟩
def Fc.sd(f:Fc K h mg)(k:Nat)(e:WH[k]? =U (C,("__init__":Str),qual,i,j,ps))(c:Nat)(B:Uw[c]? =U C)(r:Nat)(D:Y8[r]? =U (x,C)):R6 K mg x C qual (IF (top i) j) ps:=by
 obtain⟨g,E,q,F,i,b⟩:=f.mt k e;exact⟨g,E,F,f.ref r D,f.cls c B,⟨f.eN c B 4 rfl,q,i,f.eN c B 5 rfl⟩,b⟩
def Fc.tab(f:Fc K h mg)(k:Nat)(e:Uv[k]? =U (x,B))(nd:(B.map λp=>(Cf p.1:Key)).Nodup): ∃d,mg x=U (.ref d)/\Z1 K d B:=by
 have q:vL K x=vy B:=Ob f.e8 k e;unfold vL vy at q;cases r:ZV K x with
 |none=>show 6 r q
 |some d=>
  rw[r,AE]at q;refine⟨d,PySem.W.mg_of f.X f.G (Tc r),?_⟩;split at q
  .rename_i D O l;simp only[Ca,DM]at q;refine jh l q.1 ?_ nd
   have go: ∀(D:List Cc)(B:List (Int×Int)),(D.map λe=>(e.hash,cv e.key,cv e.val))=(B.map λp=>(hashInt p.1,U p.1,U p.2))->Ent D B:=by
    intro D
    induction D with
    |nil=>intro B z;cases B with
     |nil=>trivial
     |cons _ _=>cases z
    |cons u r F=>intro B z;cases B with
     |nil=>cases z
     |cons p t=>
      simp only[Av,Dy,DM]at z;obtain⟨⟨I,J,L⟩,M⟩:=z;have E: ∀{v:Value}{i:Int},cv v=U i-> ∃t,v=.int i t:=by
       intro v i z;unfold cv at z;split at z
       .cases z;exact⟨_,rfl⟩
       cases z
      exact⟨E J,I,E L,F _ M⟩
   exact go _ _ q.2
  cases q
def nX: ∀{us:List Value}{xs:List V},us.map wG=xs.map U->IM xs us:=by
 intro us
 induction us with
 |nil=>intro xs z;cases xs with
  |nil=>exact .nil
  |cons _ _=>cases z
 |cons u r D=>intro xs z;cases xs with
  |nil=>cases z
  |cons p t=>
   simp only[Av,Dy]at z;refine .cons ?_ (D z.2)
   have B:=z.1;unfold wG at B;split at B
   .cases B;exact⟨_,rfl⟩
   .cases B;exact⟨_,rfl⟩
   cases B
def gE(e:oj K a=U (AF,xs.map U)):L9 K a xs:=by
 unfold oj at e;split at e
 .rename_i dd B n D l;simp only[Ca,DM]at e;exact aA l (DN e.1) (nX e.2)
 cases e
def Fc.tup(f:Fc K h mg)(k:Nat)(e:eZ[k]? =U (x,xs)): ∃a,mg x=U (.ref a)/\L9 K a xs:=by
 have q:(ZV K x).bind (oj K)=U (AF,xs.map U):=Ob f.e9 k e;cases r:ZV K x with
 |none=>show 6 r q
 |some a=>
  rw[r]at q;exact⟨a,PySem.W.mg_of f.X f.G (Tc r),gE q⟩
def Fc.odd(f:Fc K h mg): ∃a E F I J L M,mg "WITHOUT_DIGITS"=U (.ref a)/\L9 K a [.ref E,.ref F,.ref I,.ref J,.ref L,.ref M]/\L9 K E [.str "inf",.str "inf"]/\L9 K F [.str "+inf",.str "inf"]/\L9 K I [.str "-inf",.str "-inf"]∧
  L9 K J [.str "nan",.str "nan"]/\L9 K L [.str "+nan",.str "nan"]/\L9 K M [.str "-nan",.str "nan"]:=by
 have q:xZ K=U (AF,rT.map λl=>U (AF,l.map U)):=congrArg (·.2.2.2.2.2.2.2.2.2.1) f.e;unfold xZ at q;cases r:ZV K "WITHOUT_DIGITS" with
 |none=>show 6 r q
 |some a=>
  rw[r,AE]at q;split at q
  .rename_i dd B n sl l;simp only[Ca,DM]at q;obtain⟨q1,D⟩:=q;have one: ∀{u:Value}{xs:List V},(match u with|.ref b=>oj K b|_=>AB)=U (AF,xs.map U)-> ∃b,u=.ref b/\L9 K b xs:=by
    intro u xs z;split at z
    .exact⟨_,rfl,gE z⟩
    cases z
   have q3: ∃O S Y Z u5 u6,B.toList=[O,S,Y,Z,u5,u6]:=by
    have z:=congrArg A5 D;rw[AY,AY]at z;exact⟨_,_,_,_,_,_,_S.aS .none _ _ z⟩
   obtain⟨O,S,Y,Z,u5,u6,e6⟩:=q3;rw[e6]at D;have q4:[_,_,_,_,_,_]=[_,_,_,_,_,_]:=D;simp only[Dy]at q4;obtain⟨z1,z2,z3,z4,z5,z6,_⟩:=q4;obtain⟨b1,rfl,t1⟩:=one (xs:=[.str "inf",.str "inf"]) z1;obtain⟨b2,rfl,t2⟩:=one (xs:=[.str "+inf",.str "inf"]) z2;obtain⟨b3,rfl,t3⟩:=one (xs:=[.str "-inf",.str "-inf"]) z3;obtain⟨b4,rfl,t4⟩:=one (xs:=[.str "nan",.str "nan"]) z4;obtain⟨b5,rfl,t5⟩:=one (xs:=[.str "+nan",.str "nan"]) z5;obtain⟨b6,rfl,t6⟩:=one (xs:=[.str "-nan",.str "nan"]) z6;refine⟨a,b1,b2,b3,b4,b5,b6,PySem.W.mg_of f.X f.G (Tc r),aA l (DN q1) ?_,t1,t2,t3,t4,t5,t6⟩;rw[e6];exact .cons rfl (.cons rfl (.cons rfl (.cons rfl (.cons rfl (.cons rfl .nil)))))
  cases q
noncomputable abbrev AT:JL:=⟨79,100,121,328,760,802,177,190,203⟩
def Fc.leaf(f:Fc K h mg):Kf K mg AT:=by
 have q:xb K=zc:=congrArg (·.2.2.2.2.2.2.1) f.e;unfold xb zc at q;split at q
 .rename_i g L;split at q
  .rename_i oc od M Xw l;split at q
   .rename_i d O;split at q
    .rename_i dc dd B n Y I;split at q
     .rename_i i t J;obtain⟨nm,qn,pr,Z,sc,gl,cl,S,kV,doc,pm,an,Kg,ct,bl⟩:=M;simp only[Ca,DM]at q;obtain⟨rfl,rfl,rfl,rfl,rfl,rfl,rfl,rfl,e1,e2,e3,rfl⟩:=q;have E:S=.ref d:=O;subst E;have ei:B= #[.int 0 t]:=by
       cases B;simp only at J;rw[J]
      subst ei;refine⟨g,oc,.ref d,kV,doc,pm,Kg,ct,od,an,Xw,t,l,e1,f.ref 0 rfl,⟨f.eN 0 rfl 4 rfl,L,e3,f.eN 0 rfl 5 rfl⟩,?_,?_⟩
      .intro s us F D;rw[An]at D⊢;obtain⟨_,_,_,_,rfl⟩: ∃a b c d,us=[a,b,c,d]:=⟨_,_,_,_,_S.aS .none _ _ D⟩;exact GD rfl (F _ _ I) rfl rfl rfl
      intro s us F D;have G:us.length=3:=by simpa using D
      obtain⟨_,_,_,rfl⟩: ∃a b c,us=[a,b,c]:=⟨_,_,_,_S.aS .none _ _ G⟩;exact GD rfl (F _ _ I) rfl rfl rfl
     cases q
    cases q
   cases q
  cases q
 cases q
def Fc.txt(f:Fc K h mg):Txt K mg AT:=⟨f.int 0 rfl,
 f.int 1 rfl,
 f.int 2 rfl,
 f.int 3 rfl,
 f.int 4 rfl,
 f.int 5 rfl,
 f.int 6 rfl,
 f.int 7 rfl,
 f.int 8 rfl,
 f.int 9 rfl,
 f.int 10 rfl,
 f.int 11 rfl,
 f.int 12 rfl,
 f.int 13 rfl,
 f.int 14 rfl,
 f.int 15 rfl,
 f.int 16 rfl,
 f.int 17 rfl,
 f.int 18 rfl,
 f.int 19 rfl,
 f.int 20 rfl,
 f.int 21 rfl,
 f.int 22 rfl,
 f.int 23 rfl,
 f.int 24 rfl,
 f.int 25 rfl,
 f.int 26 rfl,
 f.int 27 rfl,
 f.int 28 rfl,
 f.int 29 rfl,
 f.int 30 rfl,
 f.int 31 rfl,
 f.int 32 rfl,
 f.int 33 rfl,
 f.int 34 rfl,
 f.int 35 rfl,
 f.int 36 rfl,
 f.int 37 rfl,
 f.int 38 rfl,
 f.int 39 rfl,
 f.int 40 rfl,
 f.int 41 rfl,
 f.int 42 rfl,
 f.int 43 rfl,
 f.int 44 rfl,
 f.int 45 rfl,
 f.int 46 rfl,
 f.int 47 rfl,
 f.int 48 rfl,
 f.int 49 rfl,
 f.int 50 rfl,
 f.int 51 rfl,
 f.int 52 rfl,
 f.Jm 0 rfl,
 f.Jm 1 rfl,
 f.Jm 2 rfl,
 f.Jm 3 rfl,
 f.Jm 4 rfl,
 f.Jm 5 rfl,
 f.Jm 6 rfl,
 f.Jm 7 rfl,
 f.Jm 8 rfl,
 f.Jm 9 rfl,
 f.Jm 10 rfl,
 f.Jm 11 rfl,
 ⟨f.ref 6 rfl,f.XQ 0 rfl⟩,
 ⟨f.ref 7 rfl,f.XQ 1 rfl⟩,
 ⟨f.ref 8 rfl,f.XQ 2 rfl⟩,
 f.cls 0 rfl,
 f.eH 0 rfl,
 f.eH 1 rfl,
 f.eH 2 rfl,
 f.cls 1 rfl,
 f.eH 3 rfl,
 f.eH 4 rfl,
 f.sd 0 rfl 1 rfl 1 rfl,
 f.cls 2 rfl,
 f.eH 5 rfl,
 f.eH 6 rfl,
 f.sd 1 rfl 2 rfl 2 rfl,
 f.cls 3 rfl,
 f.eH 7 rfl,
 f.eH 8 rfl,
 f.sd 2 rfl 3 rfl 3 rfl,
 f.met 3 rfl 3 rfl,
 f.met 4 rfl 3 rfl,
 f.met 5 rfl 3 rfl,
 f.met 6 rfl 3 rfl,
 f.met 7 rfl 3 rfl,
 f.met 8 rfl 3 rfl,
 f.met 9 rfl 3 rfl,
 f.met 10 rfl 3 rfl,
 f.met 11 rfl 3 rfl,
 f.met 12 rfl 3 rfl,
 f.cls 4 rfl,
 f.eH 9 rfl,
 f.sd 13 rfl 4 rfl 4 rfl,
 f.cls 5 rfl,
 f.eH 10 rfl,
 f.eH 11 rfl,
 f.sd 14 rfl 5 rfl 5 rfl,
 f.met 15 rfl 5 rfl,
 f.met 16 rfl 5 rfl,
 f.met 17 rfl 5 rfl,
 λk z z z e=>f.fun k e⟩
def Fc.tabs(f:Fc K h mg):LN K mg:=⟨f.tab 0 rfl (!1),f.tab 1 rfl (!1),f.tab 2 rfl (!1)⟩
def Fc.cst(f:Fc K h mg):SG K mg:=⟨let⟨t,q⟩:=om (congrArg (·.2.2.2.2.2.2.2.2.2.2.1) f.e);⟨t,PySem.W.mg_of f.X f.G q⟩,f.tup 0 rfl,f.tup 1 rfl,f.tup 2 rfl,f.odd⟩
def Fc.kinds(f:Fc K h mg):JH K AT:=⟨f.zq 0 rfl,f.zq 1 rfl,f.zq 2 rfl,Bs (f.XQ 3 rfl),Bs (f.XQ 4 rfl),Bs (f.XQ 5 rfl),Bs (f.XQ 6 rfl),Bs (f.XQ 7 rfl),Bs (f.XQ 8 rfl),Bs (f.XQ 9 rfl),Bs (f.XQ 10 rfl),Bs (f.XQ 11 rfl)⟩
def Fc.exm(f:Fc K h mg):uo K AT:=⟨Bs (f.XQ 12 rfl),Bs (f.XQ 13 rfl),Bs (f.XQ 14 rfl),Bs (f.XQ 15 rfl),Bs (f.XQ 16 rfl),Bs (f.XQ 17 rfl)⟩
end
end _H
namespace _H
open PySem PySem.W PyProof.Rows
def kI(w:BJ)(os:OsState):topGo treeTable RH w 11 d9 12 (s0T w os) (topStub RH)=U ((S0 w.params os).abs,⟨denote treeTable Zr,Zr,fe,vt⟩):=by kernel_rfl
def dh(w:BJ)(os:OsState):segRun treeTable RH w 11 d9 1 1 (S0 w.params os).abs (blockOf (behindTheImports RH) qN Zr fe vt)=U (.next,(S0 w.params os).abs,Zr,fe):=by kernel_rfl
def ik:behindTheImports RH=sg 0 45++(sg 45 19++(sg 64 2++(sg 66 2++(sg 68 46++(sg 114 1++(sg 115 44++(sg 159 10++[]))))))):=by kernel_rfl
def jf(w:BJ)(os:OsState):topRun treeTable RH w 11 d9 (12+(1+(1193+(972+(546+(138+(1094+(50+(1018+(789+2)))))))))) (s0T w os) (topStub RH)=U (S8 w.params os).abs:=by
 refine go_top (kI w os) (piece_block (dh w os) ?_);rw[ik];exact piece_app (segRun_of (wx w os)) (piece_app (segRun_of (wu w os)) (piece_app (segRun_of (wt w os)) (piece_app (segRun_of (wq w os)) (piece_app (segRun_of (wo w os)) (piece_app (segRun_of (wm w os)) (piece_app (segRun_of (wj w os)) (piece_app (segRun_of (wh w os)) (piece_nil (qG w _ _)))))))))
noncomputable section
noncomputable def gH:Nat->List Obj->Frag
 |_,[]=>[]
 |i,o::r=>(i,o)::gH (i+1) r
def YB(P:CF):List Obj:=mf P 863 1 162 163 93 (vs "settingsbook.desk" 1298)
def KF(P:CF):Frag:=gH 0 (YB P)
end
def hZ(P:CF)(os:OsState):(S8 P os).abs.heap=⟨(YB P).toArray,{}⟩:=by kernel_rfl
def qe(P:CF):((YB P).all λo=>match o.data with|.freed=>AJ|_=>AF)=AF:=by kernel_rfl
def sX(w:BJ)(os:OsState):(staticsOk (importedModules RH.main.body) (boot_heap w.params) (S8 w.params os).abs.heap&&namesBound RH (S8 w.params os).abs.heap&&gensDone (S8 w.params os).abs&&laidKept (boot_heap w.params) (S8 w.params os).abs.heap)=AF:=by
 rw[hZ]
 kernel_rfl
def sW(w:BJ)(os:OsState):openSeen qv Wm (importedModules RH.main.body) (λz=>AF) AF (S8 w.params os).abs=openGood qv Wm:=by
 have e:(S8 w.params os).abs=⟨⟨(YB w.params).toArray,{}⟩,#[],{},1464,os⟩:=by
  rw[<-hZ w.params os];rfl
 rw[e,Fast.te4187177175401517315]
 kernel_rfl
def facts(P:CF):mS (KF P)=mz:=by kernel_rfl
theorem gG: ∀(l:List Obj)(i a:Nat)(o:Obj),(gH i l).lookup a=U o-> ∃j,a=i+j/\l[j]? =U o
 |[],_,_,_,h=>nomatch h
 |b::r,i,a,o,h=>by
  unfold gH at h;rw[CN]at h;by_cases q:a=i
  .subst q;rw[beq_self_eq_true]at h;exact⟨0,rfl,h⟩
  rw[beq_false_of_ne q]at h;obtain⟨j,e1,e2⟩:=gG r (i+1) a o h;exact⟨j+1,by rw[e1];exact(AAC i 1 j).trans (congrArg (i+ ·) (Ff 1 j)),e2⟩
def in_of{l:List Obj}(al:(l.all λo=>match o.data with|.freed=>AJ|_=>AF)=AF){h:Heap}(e:h.objs=l.toArray):(gH 0 l).In h:=λa o q=>by
 obtain⟨j,e1,e2⟩:=gG l 0 a o q;have e3:a=j:=e1.trans (Dd j);subst e3;have e4:=A7.mp al o (BI e2);have e5:h.objs[a]? =U o:=by rw[e,List.getElem?_toArray];exact e2
 unfold Heap.get?;rw[e5];obtain⟨c,d,B,D⟩:=o;cases B<;>first|rfl|cases e4
def sZ:LeftO RH qv Wm (λz=>AF) (λs=>s.heap.objs) (λw=>(YB w.params).toArray) 20000:=
 gc (kR (!1)) jx (!1) λw os=>⟨_,jf w os,sX w os,sW w os,congrArg Heap.objs (hZ w.params os)⟩
end _H
open PySem PySem.W PyProof.Rows
namespace _H
def stP:DW->Pos
 |.FunctionDef _ _ _ _ _ _ _ _ _ p=>p
 |_=>fe
def z0:DefRec:=⟨"answers",_L.J8 (_S.top 161),_L.J1 (_S.top 161),_L.IV (_S.top 161),stP (_S.top 161)⟩
abbrev rq:Bool:=noRoadLSs {strict:=!(importedModules RH.main.body).all cThrough.contains,foot:=AB,bare:=List.filter (readsOut RH RH.main.body) [BK "vars",BK "dir",BK "locals"]} RH.main.body
def sa1:namesResolve RH=AF:=by kernel_rfl
def sa2:rq=AF:=by kernel_rfl
def sa3:(namesMeet RH RH.main.body λz n=>attrL n)=AF:=by kernel_rfl
def sa4(B:c=AF)(D:e=AF)(E:f=AF)(q:(a&&b&&d&&g&&h&&i&&j&&k)=AF):((((((((((a&&b)&&c)&&d)&&e)&&f)&&g)&&h)&&i)&&j)&&k)=AF:=by
 subst B D E;rw[Bz,Bz,Bz];exact q
def rn:PySem.Challenge.rw_settingsbook_s01_answers.wellSaid=AF:=sa4 sa1 sa2 sa3 (by kernel_rfl)
def PM:(chainsOk qv&&opensWell PySem.Challenge.rw_settingsbook_s01_answers.prog)=AF:=by kernel_rfl
end _H
set_option tactic.hygienic true
set_option maxRecDepth 100000 in
set_option maxHeartbeats 0 in
theorem PySem.Challenge.cw_settingsbook_s01_answers_holds : PySem.Challenge.rw_settingsbook_s01_answers.Holds := by
 refine holds_os (r:=PySem.Challenge.rw_settingsbook_s01_answers) (q:=_H.qv) (loose:=_H.Wm) (Xt:=λy=>AF) (XP:=λy y=>True) (YP:=λw h=>(_H.KF w.params).In h) (kwd:=[]) (d:=_H.z0)
  _H.sZ (λw s e=>_H.in_of (_H.qe w.params) e) (λw h h' k I b o q=>I b o (k b o q)) (λy y=>trivial) (λy y y y y=>trivial) (by kernel_rfl) (by kernel_rfl) (by kernel_rfl) (λs y=>recFacts_nil rfl) os_shapes _H.rn _H.PM ⟨rfl,rfl,rfl,rfl,rfl,!0⟩ ⟨[.list []],!0,!0⟩ ?_
 refine _L.bU (r:=PySem.Challenge.rw_settingsbook_s01_answers) (k:=113) (K:=_H.KF) (CX:=λw=>_L.Q6 PySem.Challenge.rw_settingsbook_s01_answers.prog w) (ps:=["calls"]) (sp:=λw=>_S.O8 (_H.KF w.params) ⟨0,0,0,0,0,0,0,0,0⟩) _H.rn rfl rfl ⟨rfl,!1,!1⟩ (λw h Y=>Y) ?F ?S (λy y y y y z=>by obtain⟨_,_,_,_,_,_,_,_,_,_,_,_,_,q⟩:=z;exact q)
 case F=>
  intro w mg Z h Y J G D;have f:_H.Fc (_H.KF w.params) h mg:=⟨J,G,_H.facts w.params⟩;exact _S.finish D f.txt f.tabs f.cst f.leaf f.kinds f.exm
 case S=>
  intro w H xs a hO E B hx;cases hx with
  |cons L M=>
   cases M;cases L with
   |lst hs ha=>
    have e:=_L.ah a.1 _ ha;subst e;have q:((Codec.inLen 0 30000 a.1&&a.1.all (Codec.inInt (-2147483648) 2147483647))&&AF)=AF:=E;rw[AX,AX]at q;exact⟨_,a.1,rfl,hs,Aa (Codec.inNat_iff.mp q.1.1).2 (!1),B,λH' p O=>.lst (_L.Ip.of O) (_L.bH _)⟩
